import PyProof.Rows.All
import Wide.All
import OpenK.AllK
import Wide.FinOn
import Lean
import PyProof.EqAt
import PyProof.EqKinds
import PyProof.TupleCall
import PySem.Challenge.RW_spotlook_k32_steps_rows
noncomputable section
set_option compiler.extract_closed false
set_option genInjectivity false
set_option genSizeOf false
local macro_rules|`(#[$xs,*])=>do
  let a:=xs.getElems
  if a.size<2 then Lean.Macro.throwUnsupported
  let mut r:Array Lean.Term:=#[]
  for x in a do
    match x with
    |`(7)=>r:=(r.push (← `(_))).push (← `(rfl))
    |`(5)=>r:=r.push (← `(rfl))
    |_=>r:=r.push x
  `(⟨$r,*⟩)
local macro_rules|`(tactic|let [$xs,*]:=$e)=>do
  let r←xs.getElems.mapM fun x=>match x with
    |`(_)=>`(Lean.Parser.Tactic.rcasesPatLo|_)
    |`(5)=>`(Lean.Parser.Tactic.rcasesPatLo|$(Lean.mkIdent `rfl):ident)
    |`($i:ident)=>`(Lean.Parser.Tactic.rcasesPatLo|$i:ident)
    |_=>Lean.Macro.throwUnsupported
  `(tactic|obtain ⟨$r,*⟩:=$e)
local macro_rules|`(tactic|exists $xs,*)=>do
  let r:=xs.getElems.push (← `(?_))
  `(tactic|refine #[$r,*])
local macro_rules|`(def $n $s:optDeclSig $v:declVal)=>`(noncomputable def $n $s:optDeclSig $v)
local macro_rules|`((_))=>`(by simp)
local macro_rules|`(tactic|let $x:ident : $t := $e)=>`(tactic|have $x:ident : $t := $e)|`(tactic|let $x:ident := $e)=>`(tactic|have $x:ident := $e)
local macro_rules|`(def $n:declId $[$b:bracketedBinder]* : $t := by $s)=>`(theorem $n:declId $[$b:bracketedBinder]* : $t := by $s)
open Option renaming some->MA
open Option renaming none->MB
open Bool renaming true->MC
open Bool renaming false->MD
theorem ME{c:Prop}{d:Decidable c}(h:¬c){a:Sort _}{x y:a}:(if c then x else y)=y:=if_neg h
theorem MF{c:Prop}{d:Decidable c}(h:c){a:Sort _}{x y:a}:(if c then x else y)=x:=if_pos h
theorem MG{p:Prop}[Decidable p](h:¬p):decide p=false:=decide_eq_false h
theorem MI{p:Prop}[Decidable p](h:p):decide p=true:=decide_eq_true h
theorem MJ{p:Prop}[Decidable p](h:decide p=true):p:=of_decide_eq_true h
theorem MK{p q:Prop}{_:Decidable p}{_:Decidable q}:(decide p=decide q)=(p↔q):=propext decide_eq_decide
theorem ML{p:Prop}[Decidable p]:(decide p=true)=p:=decide_eq_true_eq
local macro_rules|`(())=>`(by omega)
local macro_rules|`(‹$x›)=>`(by simpa using $x)
local macro_rules|`(⋯)=>`(by first|decide|walk_at "sc")
local macro_rules | `(tactic| omega) => `(tactic| lia)
open Array renaming length_toList->Kw
open Bool renaming false_ne_true->Js,false_eq_true->Ka,and_eq_true->Kp
open False renaming elim->Jy
open ForInStep renaming yield->LD
open Int renaming mul_neg_of_pos_of_neg->JA,lt_trichotomy->JB,mul_pos->JC,sign->JH,sign_eq_neg_one_of_neg->JL,le_of_lt->JU,mul_neg_of_neg_of_pos->JX,sign_eq_one_of_pos->JZ,fdiv_eq_ediv_of_nonneg->K4,mul_pos_of_neg_of_neg->K8,toNat_natCast->Kl,le_of_eq->Lr,mul_nonneg->LK,ofNat->Mm
open List renaming length_map->J4,getElem?_eq_getElem->J7,getElem?_eq_some_iff->J8,getElem?_map->Jf,mem_of_getElem?->Jg,map_cons->Ji,size_toArray->Jl,range->Jq,mem_append_right->Jt,mem_append->Jv,length_cons->Jz,map_append->JE,toArray->JI,replicate->JJ,find?_cons->JK,mem_cons->JM,range'->JN,mem_map->JO,getElem?_append_right->JR,getElem?_append_left->JW,mem_cons_of_mem->K0,mem_filter->K1,length_append->Ke,pairwise_iff_getElem->Kf,lookup_cons->Ki,getElem_mem->Kj,mem_singleton->Ku,map_map->KA,append_nil->KD,filterMap_cons->KG,mem_cons_self->KO,take_of_length_le->KR,replicate_succ->KU,length_take->Lc,map->Le,map_congr_left->Lj,map_nil->Lp,mem_range->Ls,length_eq_zero_iff->Lz,getElem?_cons_succ->LA,nodup_cons->LC,any_cons->LH,take_append_drop->LO,range_succ->LQ,flatten_cons->LS,pairwise_map->LW,take_succ->Ml
open Nat renaming le_refl->Je,lt_of_lt_of_le->JD,ne_of_lt->JF,le_trans->JT,zero_le->K3,lt_succ_of_lt->KJ,le_of_lt->LF,gcd->LN,lt_trichotomy->LV,lt_irrefl->LX,le_succ->Mn
open PyProof.Rows renaming seqObj->K7,callWith_type1->KI,IntsAre->KN,envOfC->Mg
open PySem renaming wpAny_bind->J0,Value->J3,Shared->J5,wpAny_pure->J9,wpAny->Jj,starEach->Jk,model->Jn,sizeLine->Jo,wpAny_mono->Jp,Program->Ju,Params->Jw,foldedSetIterable->JG,Around->JP,mem_of_lookup->JQ,World->JV,compareOp->JY,mainGlobals->K6,wpAny_newObj_type->K9,wpAny_loadPart'->Kb,cLine->Kh,DictEntry->Kk,wpAny_holding->Kn,bootBuiltins->Kq,backTo->Kr,sizeLine_eq->Kv,Spec->KS,wpAny_truthy_bool->KW,cellsFrom->KZ,wpAny_standAt->L0,sysModules->L8,Scope->L9,swapsWith->La,keywordEach->Lb,attributeBase->Lf,codeAny->Lh,letOwnedTupleGo->Lk,binaryOp->Ll,wpAny_Call_Name_kw->Ln,wpAny_call_entry->Lo,wpAny_comprehension_free->Lq,NameKind->Lu,PyData->Lw,wpAny_typeNameOfWhole_keyiter->Lx,wpAny_callSpecial?_slot->Ly,Builtin->LM,wpAny_passesOwn->LP,bindArgs->LR,behindInMarks->LY,assignEach->LZ,rawInt->Md,assign->Me,backToKw->Mf,newFunctionEnv->Mh,wpAny_seqItems->Mi,Keyword->Mp,Paired->Mq,Addr->pd,Stmt->pe,Heap->pq,Expr->pv
open PySem.Around renaming under_plainId->LU
open PySem.Challenge renaming pw_spotlook_k32_steps_rows->K5
open PySem.F renaming slot_dict_keyiterator_next->L5,slot_tuple_iterator_next->LL
open PySem.Heap renaming get?_push_of_some->J6,get?_push_size->Jh,lt_size->Jm,size_push->Kz,get?_update_other->KQ,SameBut->Lg,get?_update_self->Lm
open PySem.Heap.SameBut renaming update->Ko
open PySem.NameKind renaming free->LI
open PySem.Obj renaming mapSeq->Kg
open PySem.PassesOwn renaming never->Jx
open PySem.PyData renaming eqv->JS,eqvAll->Kt,int->KH,canLayAll0->KL,depthAll->KP,canLay0->Mj
open PySem.SeqAt renaming shaped->L4,canLay_of_shaped->Li
open PySem.Str renaming ofString->Ks
open PySem.Value renaming ref->Kd,none->L7,type->Mo
open PySem.W renaming Frag->J1,BT->Jr,fnOf->Kc,mg_none_of->Km,keepIn->Ky,findIn->KC,emptyDict->KY,kla_obj->L6,codeIn->Lv,instObj->LB,nsIn->LG
open True renaming intro->LJ
local macro_rules | `(↑$n:num) => `(nat_lit $n)
local macro_rules | `(!$n:num) => `(nat_lit $n)
set_option Elab.async false
set_option linter.all false
set_option maxRecDepth 100000
set_option maxHeartbeats 4000000
set_option allowUnsafeReducibility true
abbrev PySem.Shared.z(s:PySem.Shared):=s.heap.objs.size
abbrev _root_.ry:=Nat->Int
abbrev _root_.rq:=List PySem.Str
abbrev _root_.rp:=List pd
abbrev _root_.ro:=List pv
abbrev _root_.ri:=List pe
abbrev _root_.rf:=Option Int
abbrev _root_.q_:=List Int
abbrev _root_.q7:=List Nat
abbrev _root_.p_:=List (q7)
abbrev _root_.p4:=List (pd×PySem.Obj)
theorem NG{n m:Nat}(h:Nat.ble n m=MC):n<=m:=Nat.le_of_ble_eq_true h
namespace L2
open PySem PySem.Spec PyProof.Rows
abbrev Key:=Sum Int Str
def nE:Key->J3->Bool
 |.inl k,v=>Value.isInt k v
 |.inr x,v=>Value.isStrOf x v
def Iq(w:JV):Key->Int
 |.inl k=>hashInt k
 |.inr x=>hashStr w x
theorem bG:∀{k:Key}{v:J3},nE k v=MC->(∃i t,k=Sum.inl i/\v=Value.int i t)\/(∃x t,k=Sum.inr x/\v=Value.str x t)
 |.inl i,v,h=>by
  let[t,e]:=Value.isInt_shape (k:=i) (v:=v) h
  exact .inl #[i,t,5,e]
 |.inr x,v,h=>by
  let[t,e]:=Value.isStrOf_shape (x:=x) (v:=v) h
  exact .inr #[x,t,5,e]
def vz(i:Int)(t:Tok):nE (.inl i) (.int i t)=MC:=by simp[nE,Value.isInt]
def vk(x:Str)(t:Tok):nE (.inr x) (.str x t)=MC:=by simp[nE,Value.isStrOf]
def C5(a b:Int):decide ((Sum.inl a:Key)=Sum.inl b)=(a==b):=by
 by_cases e:a=b
 .subst e;simp
 .have h:¬(Sum.inl a:Key)=Sum.inl b:=λq=>e (Sum.inl.inj q);rw[MG h];exact(beq_eq_false_iff_ne.mpr e).symm
def EL(a b:Str):decide ((Sum.inr a:Key)=Sum.inr b)=decide (a=b):=by
 by_cases e:a=b
 .subst e;simp
 .have h:¬(Sum.inr a:Key)=Sum.inr b:=λq=>e (Sum.inr.inj q);rw[MG h,MG e]
theorem Eu(a:Int)(b:Str):decide ((Sum.inl a:Key)=Sum.inr b)=MD:=MG (λq=>nomatch q)
theorem Di(a:Str)(b:Int):decide ((Sum.inr a:Key)=Sum.inl b)=MD:=MG (λq=>nomatch q)
def bX(prog:Ju)(w:JV):PySem.KeyKind prog w Key where
 is:=nE
 hash:=Iq w
 inj:=λv a b d c=>by
  rcases bG d with⟨i,t,rfl,rfl⟩|⟨x,t,rfl,rfl⟩
  .rcases bG c with⟨j,u,rfl,e⟩|⟨y,u,rfl,e⟩
   .injection e with e1 _;rw[e1]
   .exact nomatch e
  .rcases bG c with⟨j,u,rfl,e⟩|⟨y,u,rfl,e⟩
   .exact nomatch e
   .injection e with e1 _;rw[e1]
 byValue:=λk v h=>by
  rcases bG h with⟨i,t,rfl,rfl⟩|⟨x,t,rfl,rfl⟩<;>rfl
 pyHash:=λhv h=>by
  rcases bG hv with⟨i,t,rfl,rfl⟩|⟨x,t,rfl,rfl⟩
  .exact wpAny_pyHash_int h
  .exact wpAny_pyHash_str h
 eqBool:=λf hv h=>by
  rcases bG f with⟨i,t,rfl,rfl⟩|⟨x,t,rfl,rfl⟩
  .rcases bG hv with⟨j,u,rfl,rfl⟩|⟨y,u,rfl,rfl⟩
   .rw[C5]at h;exact wpAny_eqBool_int h
   .rw[Eu]at h;exact SeqAt.EqAt.int_str i t y u _ _ _ _ h
  .rcases bG hv with⟨j,u,rfl,rfl⟩|⟨y,u,rfl,rfl⟩
   .rw[Di]at h;exact SeqAt.EqAt.str_int x t j u _ _ _ _ h
   .rw[EL]at h;exact wpAny_eqBool_str h
 «strs»:=λk x t v h=>by
  rcases bG h with⟨i,u,rfl,e⟩|⟨y,u,rfl,e⟩
  .exact nomatch e
  .injection e with e1 _
   subst e1
   cases v<;>rfl
theorem qf(prog:Ju)(w:JV)(i:Int)(t:Tok):(bX prog w).is (.inl i) (.int i t)=MC:=vz i t
theorem rk(prog:Ju)(w:JV)(x:Str)(t:Tok):(bX prog w).is (.inr x) (.str x t)=MC:=vk x t
inductive V where
 |non|bl (b:Bool)|int (i:Int)|str (x:Str)|byt (b:Array UInt8)|flt (b:UInt64)|ref (a:pd)|ty (n:String)
 deriving DecidableEq
abbrev _root_.r4:=List V
def RelV:V->J3->Prop
 |.non,u=>u=L7
 |.bl b,u=>u=Value.bool b
 |.int i,u=>∃t,u=Value.int i t
 |.str x,u=>∃t,u=Value.str x t
 |.byt b,u=>∃t,u=Value.bytes b t
 |.flt b,u=>∃t,u=Value.float b t
 |.ref a,u=>u=Kd a
 |.ty n,u=>u=Mo n
abbrev Vals:r4->List J3->Prop:=Mq RelV
theorem Vals.length{xs:r4}{us:List J3}(r:Vals xs us):xs.length=us.length:=Paired.length r
theorem Vals.get:∀{xs:r4}{us:List J3}{i:Nat}{x:V},Vals xs us->xs[i]?=MA x->∃u,us[i]?=MA u/\RelV x u
 |_,_,_,_,.nil,e=>by simp at e
 |_,_,0,_,.cons r _,e=>by simp at e;subst e;exact #[7,r]
 |_,_,i+1,x,.cons _ t,e=>by
  let[u,h1,h2]:=Vals.get (i:=i) (x:=x) t ‹e›
  exact #[u,‹h1›,h2]
theorem Vals.set{x:V}{u:J3}(r:RelV x u):∀{xs:r4}{us:List J3}(i:Nat),Vals xs us->Vals (xs.set i x) (us.set i u)
 |_,_,_,.nil=>.nil
 |_,_,0,.cons _ t=>.cons r t
 |_,_,i+1,.cons q t=>.cons q (Vals.set r i t)
def Vals.append:∀{xs a:r4}{us ws:List J3},Vals xs us->Vals a ws->Vals (xs++a) (us++ws):=by
 intro xs a us ws h s
 induction h with
 |nil=>exact s
 |cons r t b=>exact .cons r b
theorem Vals.take:∀{xs:r4}{us:List J3}(n:Nat),Vals xs us->Vals (xs.take n) (us.take n)
 |_,_,0,_=>.nil
 |_,_,_+1,.nil=>.nil
 |_,_,n+1,.cons r t=>.cons r (Vals.take n t)
theorem Vals.drop:∀{xs:r4}{us:List J3}(n:Nat),Vals xs us->Vals (xs.drop n) (us.drop n)
 |_,_,0,r=>r
 |_,_,_+1,.nil=>.nil
 |_,_,n+1,.cons _ t=>Vals.drop n t
def jd:Option V->Option J3->Prop
 |some v,MA u=>RelV v u
 |none,MB=>True
 |_,_=>False
def KV{κ:Type}:List (κ×V)->List (κ×J3)->Prop:=Mq λ(p:κ×V) (q:κ×J3)=>p.1=q.1/\RelV p.2 q.2
def kV:Key->V
 |.inl i=>.int i
 |.inr x=>.str x
inductive HO where
 |lst (xs:r4)
 |tup (xs:r4)
 |dK (kvs:List (Key×V))|dT (kvs:List (List Key×V))
 |set (S:Int->Bool) (n:Nat)
 |ins (C dx:pd) (fs:List (Str×V))
 |own (x:pd)
 |xd (fs:List (Str×V))
 |met (f x:pd)
 |rng (lo hi:Int)
 |frz (o:Obj) (u:HO)
 |tbl (ps:Array J3)
 |ext (φ:pq->Prop)
abbrev Hp:=pd->Option HO
def upd(H:Hp)(a:pd)(o:HO):Hp:=λb=>if b=a then MA o else H b
def aF{H:Hp}{a:pd}{o:HO}:upd H a o a=MA o:=by unfold upd;rw[MF rfl]
def aE{H:Hp}{a b:pd}{o:HO}(h:b≠a):upd H a o b=H b:=by unfold upd;rw[ME h]
def Hb{H:Hp}{a b:pd}{o u:HO}(h:H a=MA o)(h':H b=MA u)(d:o≠u):a≠b:=by intro e;subst e;rw[h]at h';exact d (Option.some.inj h')
def dZ{H:Hp}{a b:pd}{o:HO}(h:H a=MA o)(h':H b=MB):a≠b:=by intro e;subst e;rw[h]at h';cases h'
section
variable(P:Ju)(w:JV)
def SJ(h:pq)(a:pd):Prop:=∃o,h.get? a=MA o/\o.dict=MB
theorem SJ.new(h:pq)(u:Array J3):SJ (h.push { cls:=.type "tuple",data:=.seq u }) h.objs.size:=#[_,Jh _ rfl,rfl]
def bL(H:Hp)(h:pq)(a:pd):HO->Prop
 |.lst xs=>xs.length<=Jo/\∃(b:List J3) (n:Nat),Vals xs b/\h.get? a=MA { cls:=.type "list",data:=.seq b.toArray n }
 |.tup xs=>xs.length<=Jo/\∃b:List J3,Vals xs b/\IsTup h a b.toArray/\SJ h a
 |.dK kvs=>kvs.length<=Jo/\(a==L8)=MD/\∃vs,KV kvs vs/\h.DictOf (bX P w) a vs
 |.dT kvs=>kvs.length<=Jo/\(a==L8)=MD/\∃xs:List (List Key×pd×J3),
  Mq (λ(p:List Key×V) (q:List Key×pd×J3)=>p.1=q.1/\H q.2.1=MA (.tup (p.1.map kV))/\RelV p.2 q.2.2) kvs xs/\
  ∃o e g,h.get? a=MA o/\o.ExactDict/\o.data=.dict e g/\e.toList=xs.map (entryOfKey (tupleKind (bX P w)))/\(xs.map (·.1)).Nodup
 |.set S n=>h.SetOf (intKind P w) a S n
 |.ins C c fs=>H c=MA (.own a)/\fs.length<=1000/\c≠a/\h.get? a=MA (LB C c)/\
  ∃mA,h.Ns1 c mA/\(∀f,jd (fs.lookup f) (mA f))/\PySem.Within mA (fs.map (·.1))
 |.own _=>∃o,h.get? a=MA o
 |.xd fs=>∃mA,h.Ns1 a mA/\∀f,jd (fs.lookup f) (mA f)
 |.rng i j=>∃t u v,h.get? a=MA { cls:=.type "range",data:=.fields (List.toArray [.int i t,.int j u,.int 1 v]) }
 |.frz o u=>h.get? a=MA o/\bL H h a u
 |.tbl ps=>h.get? a=MA { cls:=.none,data:=.fields ps }
 |.met f x=>h.get? a=MA (PySem.W.methodObj (.ref f) (.ref x))
 |.ext d=>d h/\(∃o,h.get? a=MA o)/\∀h1 h2:pq,d h1->(∀o,h1.get? a=MA o->h2.get? a=MA o)->d h2
def OD(H:Hp)(h:pq):Prop:=∀a o,H a=MA o->bL P w H h a o
end
section
variable{P:Ju}{w:JV}{H H':Hp}{h h':pq}{a:pd}{o:HO}
def bL.lt(x:bL P w H h a o):a<h.objs.size:=by
 cases o with
 |lst xs=>let[_,_,_,_,e]:=x;exact Jm e
 |tup xs=>let[_,_,_,p,_]:=x;exact p.lt
 |dK kvs=>let[_,_,_,_,o,_,_,e,_]:=x;exact Jm e
 |dT kvs=>let[_,_,_,_,o,_,_,e,_]:=x;exact Jm e
 |set S n=>let[o,_,_,_,e,_]:=x;exact Jm e
 |ins C b fs=>let[_,_,_,e,_]:=x;exact Jm e
 |own y=>let[_,e]:=x;exact Jm e
 |xd fs=>obtain⟨_,⟨_,_,_,e,_⟩,_⟩:=x;exact Jm e
 |rng c d=>let[_,_,_,e]:=x;exact Jm e
 |frz g u=>let[e,_]:=x;exact Jm e
 |tbl ps=>exact Jm (show h.get? a=MA _ from x)
 |met f y=>exact Jm (show h.get? a=MA _ from x)
 |ext i=>obtain⟨_,⟨_,e⟩,_⟩:=x;exact Jm e
def Paired.FG{c d:Type}{F G:c->d->Prop}:∀{l₁:List c}{l₂:List d},Mq F l₁ l₂->(∀a b,F a b->G a b)->Mq G l₁ l₂:=by
 intro l₁ l₂ h f
 induction h with
 |nil=>exact .nil
 |cons r t e=>exact .cons (f _ _ r) e
def bL.fJ(x:bL P w H h a o)(k:∀b u,(b=a\/H b=MA (.own a))->h.get? b=MA u->h'.get? b=MA u) (m:∀b,H b=MA (.own a)->H' b=MA (.own a)) (s:∀b xs,H b=MA (.tup xs)->H' b=MA (.tup xs)):bL P w H' h' a o:=by
 induction o with
 |lst xs=>let[z,l,n,r,e]:=x;exact #[z,l,n,r,k _ _ (.inl rfl) e]
 |tup xs=>obtain⟨z,l,r,⟨g,e,c⟩,A,e2,B⟩:=x;exact #[z,l,r,#[g,k _ _ (.inl rfl) e,c],A,k _ _ (.inl rfl) e2,B]
 |dK kvs=>let[z,y,vs,r,g,i,j,e,c]:=x;exact #[z,y,vs,r,g,i,j,k _ _ (.inl rfl) e,c]
 |dT kvs=>
  let[z,y,xs,r,g,i,j,e,c]:=x
  exact #[z,y,xs,Paired.FG r λp q z=>#[z.1,s _ _ z.2.1,z.2.2],g,i,j,k _ _ (.inl rfl) e,c]
 |set S n=>let[g,i,j,t,e,c]:=x;exact #[g,i,j,t,k _ _ (.inl rfl) e,c]
 |ins C E fs=>
  obtain⟨d,z,ne,e,mA,⟨od,i,j,e2,c⟩,r⟩:=x
  exact #[m _ d,z,ne,k _ _ (.inl rfl) e,mA,#[od,i,j,k _ _ (.inr d) e2,c],r]
 |own y=>let[g,e]:=x;exact #[g,k _ _ (.inl rfl) e]
 |xd fs=>obtain⟨mA,⟨od,i,j,e,c⟩,r⟩:=x;exact #[mA,#[od,i,j,k _ _ (.inl rfl) e,c],r]
 |rng F G=>let[t,u,v,e]:=x;exact #[t,u,v,k _ _ (.inl rfl) e]
 |frz g u D=>let[e,q]:=x;exact #[k _ _ (.inl rfl) e,D q]
 |tbl ps=>
  let e:h.get? a=MA { cls:=.none,data:=.fields ps }:=x
  show h'.get? a=MA { cls:=.none,data:=.fields ps }
  exact k a _ (.inl rfl) e
 |met f y=>
  let e:h.get? a=MA (PySem.W.methodObj (.ref f) (.ref y)):=x
  show h'.get? a=MA (PySem.W.methodObj (.ref f) (.ref y))
  exact k a _ (.inl rfl) e
 |ext I=>obtain⟨p,⟨o,e⟩,st⟩:=x;exact #[st _ _ p λo q=>k _ _ (.inl rfl) q,#[o,k _ _ (.inl rfl) e],st]
theorem OD.lt(x:OD P w H h)(e:H a=MA o):a<h.objs.size:=(x a o e).lt
def OD.fresh(x:OD P w H h)(e:h.objs.size<=a):H a=MB:=by
 cases q:H a with
 |none=>rfl
 |some u=>exact absurd (JD (x.lt q) e) (LX _)
theorem OD.kept(x:OD P w H h)(k:∀b u,h.get? b=MA u->h'.get? b=MA u):OD P w H h':=λa o e=>(x a o e).fJ (λb u _ q=>k b u q) (λ_ q=>q) λ_ _ q=>q
theorem OD.laid(x:OD P w H h)(k:∀b u,h.get? b=MA u->h'.get? b=MA u)(g:h.objs.size<=a)(new:bL P w (upd H a o) h' a o):OD P w (upd H a o) h':=λb u e=>by
 let d:=x.fresh g;by_cases f:b=a
 .subst f;rw[aF]at e;cases e;exact new
 .rw[aE f]at e;exact(x b u e).fJ (λc v _ q=>k c v q) (λc q=>by rw[aE (dZ q d)];exact q) λc xs q=>by rw[aE (dZ q d)];exact q
end
def Rd(H:Hp)(a:pd)(u:HO):Prop:=H a=MA u\/∃o,H a=MA (.frz o u)
def Rd.ok{P:Ju}{w:JV}{H:Hp}{h:pq}{a:pd}{u:HO}(r:Rd H a u)(x:OD P w H h):bL P w H h a u:=by
 rcases r with r|⟨o,r⟩
 .exact x a u r
 .obtain⟨_,q⟩:=x a _ r;exact q
def Xm:Option HO->Prop
 |some (.lst _)=>True
 |some (.dK _)=>True
 |some (.dT _)=>True
 |some (.set _ _)=>True
 |some (.ins _ _ _)=>True
 |some (.ext _)=>True
 |_=>False
section
variable{P:Ju}{w:JV}{H:Hp}{h h':pq}{x e:pd}{o':HO}
theorem OD.write(ok:OD P w H h)(g:Xm (H x))(m:e=x\/H e=MA (.own x))(k:∀b u,b≠e->h.get? b=MA u->h'.get? b=MA u)(l:∃u,h'.get? e=MA u)
 (new:bL P w (upd H x o') h' x o'):OD P w (upd H x o') h':=λb u q=>by
 let d:∀c y,H c=MA (.own y)->c≠x:=λc y r z=>by subst z;rw[r]at g;exact g
 let f:∀c xs,H c=MA (.tup xs)->c≠x:=λc xs r z=>by subst z;rw[r]at g;exact g
 by_cases i:b=x
 .subst i;rw[aF]at q;cases q;exact new
 .rw[aE i]at q
  by_cases a:b=e
  .have n:H b=MA (.own x):=by
    rcases m with z|z
    .exact absurd (a.trans z) i
    .rw[a];exact z
   rw[q]at n;cases n
   let[v,hv]:=l
   exact #[v,by rw[a];exact hv]
  .refine(ok b u q).fJ (λc v j r=>k c v ?_ r) (λc r=>by rw[aE (d c b r)];exact r) λc xs r=>by rw[aE (f c xs r)];exact r
   rcases j with rfl|j
   .exact a
   .rintro rfl
    rcases m with z|z
    .exact d c b j z
    .rw[j]at z;cases z;exact i rfl
end
structure Un(fs ex:rp)(H H':Hp)(h h':pq):Prop where
 keep:∀b o,h.get? b=MA o->H b=MB->b∉fs->b∉ex->h'.get? b=MA o
 slot:∀b o,h.get? b=MA o->H b=MB->b∈fs->b∉ex->∃sl,h'.get? b=MA { o with slots:=sl }
 free:∀b o,h.get? b=MA o->H b=MB->b∉ex->H' b=MB
 there:∀b o,h.get? b=MA o->b∉ex->∃o',h'.get? b=MA o'
 tups:∀b xs,H b=MA (.tup xs)->H' b=MA (.tup xs)
 frzs:∀b o u,H b=MA (.frz o u)->H' b=MA (.frz o u)
 tbls:∀b ps,H b=MA (.tbl ps)->∃more,H' b=MA (.tbl (ps++more))
section
variable{fs MM ex MN:rp}{H H1 H2:Hp}{h h1 h2 h':pq}{a x e:pd}{o:HO}
def Un.any(u:Un fs ex H H1 h h1){b:pd}{c:Obj}(q:h.get? b=MA c)(n:H b=MB)(hx:b∉ex):∃f,h1.get? b=MA { c with slots:=f }:=by
 by_cases d:b∈fs
 .exact u.slot b c q n d hx
 .exact #[c.slots,u.keep b c q n d hx]
theorem Un.kept(k:∀b u,h.get? b=MA u->h'.get? b=MA u):Un fs ex H H h h':=#[λb c q _ _ _=>k b c q,λb c q _ _ _=>#[c.slots,k b c q],λ_ _ _ n _=>n,λb c q _=>#[c,k b c q],λ_ _ q=>q,λ_ _ _ q=>q,λ_ ps q=>#[#[],by rw[q];simp]]
theorem Un.refl:Un fs ex H H h h:=Un.kept λ_ _ q=>q
theorem Un.laid(k:∀b u,h.get? b=MA u->h'.get? b=MA u)(d:h.objs.size<=a)(c:H a=MB):Un fs ex H (upd H a o) h h' where
 keep:=λb u q _ _ _=>k b u q
 slot:=λb u q _ _ _=>#[u.slots,k b u q]
 free:=λb u q n _=>by rw[aE (JF (JD (Jm q) d))];exact n
 there:=λb u q _=>#[u,k b u q]
 tups:=λb xs q=>by rw[aE (dZ q c)];exact q
 frzs:=λb u xs q=>by rw[aE (dZ q c)];exact q
 tbls:=λb ps q=>#[#[],by rw[aE (dZ q c),q];simp]
def Un.write(d:Xm (H x))(j:e=x\/H e=MA (.own x))(k:∀b u,b≠e->h.get? b=MA u->h'.get? b=MA u)(f:∃u,h'.get? e=MA u):Un fs ex H (upd H x o) h h':=by
 let hx:∀b,H b=MB->b≠x:=λb n z=>by subst z;rw[n]at d;exact d
 let i:∀b,H b=MB->b≠e:=λb n z=>by
  subst z;rcases j with r|r
  .exact hx b n r
  .rw[n]at r;cases r
 let g:∀b u,H b=MA u->¬Xm (MA u)->b≠x:=λb u q l z=>by subst z;rw[q]at d;exact l d
 refine #[λb u q n _ _=>k b u (i b n) q,λb u q n _ _=>#[u.slots,k b u (i b n) q],λb u q n _=>by rw[aE (hx b n)];exact n,λb u q _=>?_,λb xs q=>by rw[aE (g b _ q λz=>z)];exact q,λb u xs q=>by rw[aE (g b _ q λz=>z)];exact q,λb ps q=>#[#[],by rw[aE (g b _ q λz=>z),q];simp]];by_cases c:b=e
 .subst c;exact f
 .exact #[u,k b u c q]
end
def Xv(h:pq)(H:Hp):rp:=(Jq h.objs.size).filter λa=>(H a).isSome
def jx(h:pq)(H:Hp):pq:=PySem.W.hideAll h (Xv h H)
theorem nA(h:pq)(H:Hp):(jx h H).objs.size=h.objs.size:=PySem.W.hideAll_size _ _
theorem gY{h:pq}{H:Hp}{b:pd}{o:Obj}(e:h.get? b=MA o)(n:H b=MB):(jx h H).get? b=MA o:=
 PySem.W.hideAll_get _ e λa=>by
  let q:(H b).isSome=MC:=(K1.mp a).2
  rw[n]at q;simp at q
def oq{h:pq}{H:Hp}{b:pd}{o:Obj}(e:(jx h H).get? b=MA o):h.get? b=MA o/\H b=MB:=by
 let a:h.get? b=MA o:=PySem.W.of_hideAll (Xv h H) e;exists a;cases q:H b with
 |none=>rfl
 |some x=>
  let c:b∈Xv h H:=K1.mpr #[Ls.mpr (Jm a),by simp[q]]
  let z:(jx h H).get? b=MB:=PySem.W.hideAll_none (Xv h H) c
  rw[z]at e;cases e
structure Mod(K:J1)(mg:Str->Option J3)(base:pq):Prop where
 kin:K.In base
 glob:base.Ns K6 mg
 blt:∃mb,base.Ns builtinsNs mb/\∀x:Str,x≠"__name__"->mb x=Kq x
 nolimit:base.NoLimit
structure Cx where
 prog:Ju
 w:JV
 K:J1
 mg:Str->Option J3
 base:pq
 A:JP
 N:rq
 s₀:J5
 H₀:Hp
 env:Env
 outer:List Env
 stack:List Env
 ex:rp
 fn:Str->Bool
 calm:Bool
 pn:p4
 xe:J3->J5->Prop
def PL(l:List Env):rp:=l.filterMap (·.frame)
abbrev Cx.fs(X:Cx):rp:=PL X.outer
def Xh(sc:L9)(x:Str):Prop:=sc.names.lookup x=MA .local\/sc.names.lookup x=MA .cell\/sc.names.lookup x=MA .free
def Loc(sc:L9)(x:Str):Prop:=sc.names.lookup x=MA .local\/sc.names.lookup x=MA .cell
def Look(env:Env)(h:pq)(m:Str->Option J3)(x:Str)(u:J3):Prop:=
 (env.kindOf x=MA .local/\m x=MA u)\/((env.kindOf x=MA .cell\/env.kindOf x=MA .free)/\∃c,env.cells.lookup x=MA c/\h.IsCell c (MA u))
structure Cx.Ok(X:Cx):Prop where
 mod:Mod X.K X.mg X.base
 kind:X.env.scope.kind=.function
 glob:X.env.globals=K6
 blt:X.env.builtins=builtinsNs
 above:X.s₀.z<=X.env.locals
 inj:∀x y c,X.env.cells.lookup x=MA c->X.env.cells.lookup y=MA c->x=y
 has:∀x,(X.env.kindOf x=MA .cell\/X.env.kindOf x=MA .free)->∃c,X.env.cells.lookup x=MA c
 cab:∀x c,X.fn x=MC->X.env.cells.lookup x=MA c->X.s₀.z<=c
 hd:X.calm=MC->X.A.handled=MB
 frames:X.A.frames=MA X.stack
 stk:X.stack=X.outer\/(X.stack=X.env::X.outer/\X.env.frame=MA X.env.locals)
 exf:∀b∈X.ex,b≠X.env.locals/\∀x c,X.env.cells.lookup x=MA c->c≠b
 bs:∀b o,X.base.get? b=MA o->X.s₀.heap.get? b=MA o/\X.H₀ b=MB
 bsz:X.base.objs.size<=X.s₀.z
 noex:∀b o,X.base.get? b=MA o->b∉X.ex
 exfs:∀b∈X.ex,b∉X.fs
 gP:X.s₀.heap.FunFrames X.base X.outer
 frf:∀b∈X.fs,X.H₀ b=MB
structure Inv(X:Cx)(MP:p4)(σ:List (Option V))(H:Hp)(s:J5):Prop where
 ok:X.Ok
 os:s.os=X.s₀.os
 bare:AllBare s.gens
 base:Un X.fs X.ex X.H₀ H X.s₀.heap s.heap
 loc:∃m,s.heap.Ns X.env.locals m/\∀(i:Nat)(x:Str)(v:V),X.N[i]?=MA x->σ[i]?=MA (MA v)->Xh X.env.scope x->∃u,RelV v u/\Look X.env s.heap m x u
 cell:∀x c,X.env.cells.lookup x=MA c->∃v,s.heap.IsCell c v
 free:H X.env.locals=MB
 freeC:∀x c,X.env.cells.lookup x=MA c->H c=MB
 pin:∀p∈X.pn++MP,s.heap.get? p.1=MA p.2/\H p.1=MB/\p.1≠X.env.locals/\p.1∉X.fs/\∀v,p.2.data≠.cell v
 hok:OD X.prog X.w H s.heap
 len:σ.length=X.N.length
section
variable{X:Cx}{MP:p4}{σ:List (Option V)}{H H':Hp}{s:J5}{h':pq}
theorem Cx.Ok.Jc(ok:X.Ok){b:pd}{o:Obj}(e:X.base.get? b=MA o):b∉X.fs:=λa=>by have:=(ok.gP.mem a).1;rw[e]at this;cases this
theorem Inv.bs(I:Inv X MP σ H s):∀b o,X.base.get? b=MA o->s.heap.get? b=MA o/\H b=MB:=λb o e=>#[I.base.keep b o (I.ok.bs b o e).1 (I.ok.bs b o e).2 (I.ok.Jc e) (I.ok.noex b o e),I.base.free b o (I.ok.bs b o e).1 (I.ok.bs b o e).2 (I.ok.noex b o e)]
theorem Inv.bk(I:Inv X MP σ H s):∀b o,X.base.get? b=MA o->s.heap.get? b=MA o:=λb o e=>(I.bs b o e).1
theorem Inv.mod(I:Inv X MP σ H s):Mod X.K X.mg X.base:=I.ok.mod
theorem Inv.kIn(I:Inv X MP σ H s):X.K.In s.heap:=I.ok.mod.kin.keeps I.bk
theorem Inv.lt(I:Inv X MP σ H s):X.env.locals<s.z:=let⟨_,a,_⟩:=I.loc;a.lt
theorem Inv.sz(I:Inv X MP σ H s):X.s₀.z<=s.z:=JT I.ok.above (LF I.lt)
theorem Inv.IQ(I:Inv X MP σ H s){a:pd}(h:s.z<=a):a∉X.fs:=λb=>by let[_,o,c,_]:=I.ok.gP.mem b;exact absurd (JD (Jm c) (JT I.sz h)) (LX _)
theorem Inv.cne(I:Inv X MP σ H s):∀x c,X.env.cells.lookup x=MA c->c≠X.env.locals:=λx c e z=>by let[v,o,d,hd]:=I.cell x c e;obtain⟨m,⟨f,g,h,a,b,_⟩,_⟩:=I.loc;rw[z,a]at d;cases d;rw[b]at hd;cases hd
def Inv.gP(I:Inv X MP σ H s):s.heap.FunFrames X.base X.outer:=by
 let all:∀(l:List Env),(∀b∈PL l,b∈X.fs)->X.s₀.heap.FunFrames X.base l->s.heap.FunFrames X.base l:=by
  intro l
  induction l with
  |nil=>intro _ _;trivial
  |cons env r g=>
   intro f h
   obtain⟨i,⟨L,o,a,j,k,hd⟩,m⟩:=h
   let c:L∈X.fs:=f L (by unfold PL;rw[KG,a];exact KO)
   let[n,e]:=I.base.slot L o k (I.ok.frf L c) c λz=>I.ok.exfs L z c
   exact #[i,#[L,_,a,j,e,hd],g (λb d=>f b (by unfold PL;rw[KG,a];exact K0 _ d)) m]
 exact all X.outer (λ_ d=>d) I.ok.gP
def Inv.stack(I:Inv X MP σ H s):s.heap.FunFrames X.base X.stack:=by
 rcases I.ok.stk with e|⟨e,a⟩
 .rw[e];exact I.gP
 .rw[e];let[m,b,_]:=I.loc;refine .cons (by rw[I.ok.kind];decide) a b ?_ I.gP;exact Heap.get?_none_of_le (JT I.ok.bsz I.ok.above)
theorem Inv.pR(I:Inv X MP σ H s):∀b∈PL X.stack,b∈X.env.locals::X.fs:=λb a=>by
 rcases I.ok.stk with e|⟨e,c⟩
 .rw[e]at a;exact K0 _ a
 .rw[e]at a;unfold PL at a;rw[KG,c]at a;exact a
theorem Inv.uU(I:Inv X MP σ H s):∀b∈PL X.stack,H b=MB:=λb a=>by
 rcases JM.mp (I.pR b a)with e|a
 .rw[e];exact I.free
 .obtain⟨_,o,c,_⟩:=I.ok.gP.mem a;exact I.base.free b o c (I.ok.frf b a) λz=>I.ok.exfs b z a
def Inv.step{g':Array GenState}{t':Nat}{d':Drawn}{ch:rp}(I:Inv X MP σ H s)
 (a:∀b∈ch,(b∈X.ex\/X.s₀.z<=b)/\b≠X.env.locals/\(∀x c,X.env.cells.lookup x=MA c->c≠b)/\∀p∈X.pn++MP,p.1≠b)
 (keep:∀b o,b≠X.env.locals->b∉X.fs->b∉ch->s.heap.get? b=MA o->H b=MB->h'.get? b=MA o)
 (slot:∀b o,b≠X.env.locals->b∈X.fs->b∉ch->s.heap.get? b=MA o->H b=MB->∃A,h'.get? b=MA { o with slots:=A }) (free:∀b o,b∉ch->s.heap.get? b=MA o->H b=MB->H' b=MB)
 (there:∀b o,b∉ch->s.heap.get? b=MA o->∃o',h'.get? b=MA o')
 (tups:∀b xs,H b=MA (.tup xs)->H' b=MA (.tup xs)) (frzs:∀b o u,H b=MA (.frz o u)->H' b=MA (.frz o u)) (tbls:∀b ps,H b=MA (.tbl ps)->∃more,H' b=MA (.tbl (ps++more)))
 (ns:∀m,s.heap.Ns X.env.locals m->h'.Ns X.env.locals m) (hok:OD X.prog X.w H' h') (F:AllBare g') :
 Inv X MP σ H' { s with heap:=h',gens:=g',drawn:=d',toks:=t' }:=by
 let neL:∀b o,X.s₀.heap.get? b=MA o->b≠X.env.locals:=λb o e=>JF (JD (Jm e) I.ok.above)
 let h:∀b o,X.s₀.heap.get? b=MA o->b∉X.ex->b∉ch:=λb o e hx j=>by
  rcases(a b j).1 with z|z
  .exact hx z
  .exact absurd (JD (Jm e) z) (LX _)
 let f:∀x c,X.env.cells.lookup x=MA c->∀v,s.heap.IsCell c v->h'.IsCell c v:=λx c e v t=>by
  let[o,y,hd]:=t
  let g:c∉ch:=λz=>(a c z).2.2.1 x c e rfl
  by_cases C:c∈X.fs
  .obtain⟨A,q⟩:=slot c o (I.cne x c e) C g y (I.freeC x c e)
   exact #[_,q,hd]
  .exact #[o,keep c o (I.cne x c e) C g y (I.freeC x c e),hd]
 refine #[I.ok,I.os,F,#[λb o e n j hx=>?_,λb o e n j hx=>?_,λb o e n hx=>?_,λb o e hx=>?_,λb xs e=>tups b xs (I.base.tups b xs e),λb o xs e=>frzs b o xs (I.base.frzs b o xs e),λb ps e=>?_],?_,λx c e=>?_,?_,λx c e=>?_,λp D=>?_,hok,I.len]
 .exact keep b o (neL b o e) j (h b o e hx) (I.base.keep b o e n j hx) (I.base.free b o e n hx)
 .obtain⟨A,e1⟩:=I.base.slot b o e n j hx
  let[B,e2]:=slot b _ (neL b o e) j (h b o e hx) e1 (I.base.free b o e n hx)
  exact #[B,e2]
 .obtain⟨o',e1⟩:=I.base.there b o e hx
  exact free b o' (h b o e hx) e1 (I.base.free b o e n hx)
 .obtain⟨o',e1⟩:=I.base.there b o e hx
  exact there b o' (h b o e hx) e1
 .obtain⟨G,e1⟩:=I.base.tbls b ps e
  let[J,e2]:=tbls b _ e1
  exact #[G++J,by rw[e2,Array.append_assoc]]
 .obtain⟨m,K,L⟩:=I.loc
  refine #[m,ns m K,λi x v e1 e2 e3=>?_]
  let[u,r,l]:=L i x v e1 e2 e3
  exists u,r
  rcases l with l|⟨k,c,e,z⟩
  .exact .inl l
  .exact .inr #[k,c,e,f x c e _ z]
 .obtain⟨v,z⟩:=I.cell x c e
  exact #[v,f x c e v z]
 .obtain⟨m,⟨o,_,_,y,_⟩,_⟩:=I.loc
  exact free _ o (λz=>(a _ z).2.1 rfl) y I.free
 .obtain⟨v,o,y,hd⟩:=I.cell x c e
  exact free c o (λz=>(a c z).2.2.1 x c e rfl) y (I.freeC x c e)
 .obtain⟨e,n,ne,E,d⟩:=I.pin p D
  let g:p.1∉ch:=λz=>(a p.1 z).2.2.2 p D rfl
  exact #[keep p.1 p.2 ne E g e n,free p.1 p.2 g e n,ne,E,d]
def Inv.un{t':Nat}(I:Inv X MP σ H s)(u:Un X.fs [] H H' s.heap h')(hok:OD X.prog X.w H' h'):Inv X MP σ H' { s with heap:=h',toks:=t' }:=by
 obtain⟨m,⟨o,k,l,g,r⟩,_⟩:=id I.loc;let[p,h]:=u.any g I.free (_)
 exact I.step (g':=s.gens) (d':=s.drawn) (ch:=[]) (λ_ z=>nomatch z) (λb o _ c _ e n=>u.keep b o e n c (_)) (λb o _ c _ e n=>u.slot b o e n c (_)) (λb o _ e n=>u.free b o e n (_)) (λb o _ e=>u.there b o e (_)) u.tups u.frzs u.tbls (λq i=>by
  let[t,d,f,a,j]:=i
  rw[g]at a;cases a
  exact #[_,d,f,h,j]) hok I.bare
def Inv.call{g':Array GenState}{t':Nat}{d':Drawn}{ch:rp}(I:Inv X MP σ H s)(u:Un (PL X.stack) ch H H' s.heap h')(hok:OD X.prog X.w H' h')(k:AllBare g') (d:∀b∈ch,(b∈X.ex\/X.s₀.z<=b)/\b≠X.env.locals/\(∀x c,X.env.cells.lookup x=MA c->c≠b)/\∀p∈X.pn++MP,p.1≠b) : Inv X MP σ H' { s with heap:=h',gens:=g',drawn:=d',toks:=t' }:=by
 obtain⟨m,⟨o,v,y,j,r⟩,_⟩:=id I.loc;let[A,g]:=u.any j I.free λz=>(d _ z).2.1 rfl
 exact I.step (ch:=ch) d (λb o g l a e n=>u.keep b o e n (λz=>(JM.mp (I.pR b z)).elim g l) a) (λb o _ _ a e n=>u.any e n a) (λb o a e n=>u.free b o e n a) (λb o a e=>u.there b o e a) u.tups u.frzs u.tbls (λB q=>by
  let[C,h,i,f,t]:=q
  rw[j]at f;cases f
  exact #[_,h,i,g,t]) hok k
def Inv.turned{t':Nat}{it:pd}(I:Inv X MP σ H s)(k:∀b o,b≠it->s.heap.get? b=MA o->h'.get? b=MA o)(g:H it=MB)(f:it≠X.env.locals)
 (h1:it∈X.ex\/X.s₀.z<=it) (h2:∀x c,X.env.cells.lookup x=MA c->c≠it) (h:∀p∈X.pn++MP,p.1≠it):Inv X MP σ H { s with heap:=h',toks:=t' }:=by
 let d:∀b u,H b=MA u->b≠it:=λb u e z=>by rw[z,g]at e;cases e
 refine I.step (g':=s.gens) (d':=s.drawn) (ch:=[it]) (λb i=>?_) (λb o _ _ a e _=>k b o (λz=>a (by simp[z])) e) (λb o _ _ a e _=>#[o.slots,k b o (λz=>a (by simp[z])) e]) (λ_ _ _ _ n=>n)
  (λb o a e=>#[o,k b o (λz=>a (by simp[z])) e]) (λ_ _ e=>e) (λ_ _ _ e=>e) (λb ps e=>#[#[],by rw[e];simp]) (λm j=>?_) (λb u e=>?_) I.bare
 .have e:b=it:=‹i›
  subst e
  exact #[h1,f,h2,h]
 .obtain⟨o,l,t,w,r⟩:=j
  exact #[o,l,t,k _ o (Ne.symm f) w,r]
 .refine(I.hok b u e).fJ (λc v a q=>k c v ?_ q) (λ_ q=>q) λ_ _ q=>q
  rcases a with z|z
  .rw[z];exact d b u e
  .exact d c _ z
theorem Inv.tok(I:Inv X MP σ H s)(t:Nat):Inv X MP σ H { s with toks:=t }:=I.un (h':=s.heap) (t':=t) Un.refl I.hok
theorem Inv.kept{t':Nat}(I:Inv X MP σ H s)(k:∀b u,s.heap.get? b=MA u->h'.get? b=MA u):Inv X MP σ H { s with heap:=h',toks:=t' }:=I.un (Un.kept k) (I.hok.kept k)
theorem Inv.laid{a:pd}{o:HO}{t':Nat}(I:Inv X MP σ H s)(k:∀b u,s.heap.get? b=MA u->h'.get? b=MA u)(c:s.z<=a)(new:bL X.prog X.w (upd H a o) h' a o) : Inv X MP σ (upd H a o) { s with heap:=h',toks:=t' }:=I.un (Un.laid k c (I.hok.fresh c)) (I.hok.laid k c new)
theorem Inv.write{x e:pd}{o:HO}{t':Nat}(I:Inv X MP σ H s)(c:Xm (H x))(d:e=x\/H e=MA (.own x))(k:∀b u,b≠e->s.heap.get? b=MA u->h'.get? b=MA u)(a:∃u,h'.get? e=MA u) (new:bL X.prog X.w (upd H x o) h' x o):Inv X MP σ (upd H x o) { s with heap:=h',toks:=t' }:=I.un (Un.write c d k a) (I.hok.write c d k a new)
theorem Inv.tY{pins':p4}(I:Inv X MP σ H s)(h:∀p∈pins',s.heap.get? p.1=MA p.2/\H p.1=MB/\p.1≠X.env.locals/\p.1∉X.fs/\∀v,p.2.data≠.cell v):Inv X pins' σ H s:=#[I.ok,I.os,I.bare,I.base,I.loc,I.cell,I.free,I.freeC,λp a=>(Jv.mp a).elim (λz=>I.pin p (List.mem_append_left _ z)) (h p),I.hok,I.len]
def qF{N:rq}(c:N.Nodup){i j:Nat}{x:Str}(a:N[i]?=MA x)(b:N[j]?=MA x):i=j:=by let[h1,e1]:=J8.mp a;let[h2,e2]:=J8.mp b;exact(List.getElem_inj c).mp (e1.trans e2.symm)
def j6{M:Model}{A:JP}{E:J3->J5->Prop}{i:Nat}{x:Str}{v:V}{u:J3}{Q:Unit->J5->Prop}(I:Inv X MP σ H s)(hN:X.N.Nodup)(J:X.N[i]?=MA x)(hx:Loc X.env.scope x)(r:RelV v u)
 (h:∀U,Inv X MP (σ.set i (MA v)) H U->(∃a,Lg a s.heap U.heap/\(a=X.env.locals\/X.env.cells.lookup x=MA a))->Q .unit U) (hf:X.fn x=MC\/X.env.scope.names.lookup x=MA .local:=by first|exact .inl rfl|exact .inr rfl|assumption):Jj M A (storeName X.env x u) Q E s:=by
 let[m,W,hl]:=id I.loc
 let K:(X.env.scope.kind==.class||(X.env.scope.kind==.module&&X.env.locals != X.env.globals))=MD:=by rw[I.ok.kind];rfl
 let B:i<σ.length:=by rw[I.len];exact(J8.mp J).1
 let cne:=I.cne
 let g:∀{a:pd}{h':pq},(∃o,s.heap.get? a=MA o/\H a=MB)->Lg a s.heap h'->OD X.prog X.w H h':=λ{a h'} ha f b ob e=>by
  let[_,_,t]:=ha
  refine(I.hok b ob e).fJ (λc S l q=>(f.2 c ?_).trans q) (λ_ q=>q) λ_ _ q=>q
  rintro rfl
  rcases l with rfl|l
  .rw[t]at e;cases e
  .rw[t]at l;cases l
 rcases hx with C|C
 .refine wpAny_storeName_local C W (λh' Y f=>?_) K
  let[oL,_,_,Z,_]:=id W
  refine h _ #[I.ok,I.os,I.bare,#[λb o e n D hx=>?_,λb o e n D hx=>?_,I.base.free,λb o e hx=>?_,I.base.tups,I.base.frzs,I.base.tbls],#[_,Y,λj y v' e1 e2 e3=>?_],λy c e=>?_,I.free,I.freeC,λp hp=>?_,g #[oL,Z,I.free] f,‹I.len›] #[_,f,.inl rfl]
  .exact(f.2 b (JF (JD (Jm e) I.ok.above))).trans (I.base.keep b o e n D hx)
  .obtain⟨sl,e1⟩:=I.base.slot b o e n D hx
   exact #[sl,(f.2 b (JF (JD (Jm e) I.ok.above))).trans e1]
  .obtain⟨o',e1⟩:=I.base.there b o e hx
   exact #[o',(f.2 b (JF (JD (Jm e) I.ok.above))).trans e1]
  .by_cases F:j=i
   .subst F
    rw[J]at e1;cases e1
    rw[List.getElem?_set_self B]at e2
    cases e2
    exact #[u,r,.inl #[C,by simp]]
   .rw[List.getElem?_set_ne (Ne.symm F)]at e2
    let[u',r',q]:=hl j y v' e1 e2 e3
    exists u',r'
    rcases q with⟨k,e⟩|⟨k,c,e,z⟩
    .refine .inl #[k,?_]
     have:y≠x:=λe=>F (qF hN e1 (e▸J))
     simp[this,e]
    .exact .inr #[k,c,e,z.sameBut f (cne y c e)]
  .obtain⟨S,z⟩:=I.cell y c e
   exact #[S,z.sameBut f (cne y c e)]
  .obtain⟨e,n,ne,nf,d⟩:=I.pin p hp
   exact #[(f.2 p.1 ne).trans e,n,ne,nf,d]
 .have G:X.fn x=MC:=by
   rcases hf with z|z
   .exact z
   .rw[z]at C;cases C
  let[c,l]:=I.ok.has x (.inl C)
  let[S,z]:=I.cell x c l
  refine wpAny_storeName_cell I.ok.kind C l z (λh' L f=>?_)
  let[oc,O,P]:=id z
  refine h { s with heap:=h' } #[I.ok,I.os,I.bare,#[λb o e n D hx=>?_,λb o e n D hx=>?_,I.base.free,λb o e hx=>?_,I.base.tups,I.base.frzs,I.base.tbls],#[m,W.sameBut f (Ne.symm (cne x c l)),λj y v' e1 e2 e3=>?_],λy T e=>?_,I.free,I.freeC,λp hp=>?_,g #[oc,O,I.freeC x c l] f,‹I.len›] #[c,f,.inr l]
  .exact(f.2 b (JF (JD (Jm e) (I.ok.cab x c G l)))).trans (I.base.keep b o e n D hx)
  .obtain⟨sl,e1⟩:=I.base.slot b o e n D hx
   exact #[sl,(f.2 b (JF (JD (Jm e) (I.ok.cab x c G l)))).trans e1]
  .obtain⟨o',e1⟩:=I.base.there b o e hx
   exact #[o',(f.2 b (JF (JD (Jm e) (I.ok.cab x c G l)))).trans e1]
  .by_cases F:j=i
   .subst F
    rw[J]at e1;cases e1
    rw[List.getElem?_set_self B]at e2
    cases e2
    exact #[u,r,.inr #[.inl C,c,l,L]]
   .rw[List.getElem?_set_ne (Ne.symm F)]at e2
    let[u',r',q]:=hl j y v' e1 e2 e3
    exists u',r'
    rcases q with q|⟨k,T,e,z'⟩
    .exact .inl q
    .refine .inr #[k,T,e,z'.sameBut f ?_]
     rintro rfl
     exact F (qF hN e1 (I.ok.inj _ _ _ e l▸J))
  .by_cases R:T=c
   .subst R;exact #[_,L]
   .obtain⟨w2,z2⟩:=I.cell y T e
    exact #[w2,z2.sameBut f R]
  .obtain⟨e,n,ne,nf,d⟩:=I.pin p hp
   refine #[(f.2 p.1 ?_).trans e,n,ne,nf,d]
   intro q
   rw[q,O]at e
   let q':oc=p.2:=Option.some.inj e
   exact d S (by rw[<-q'];exact P)
theorem gS{M:Model}{A:JP}{E:J3->J5->Prop}{i:Nat}{x:Str}{v:V}{u:J3}{Q:Unit->J5->Prop}(I:Inv X MP σ H s)(b:X.N.Nodup)(c:X.N[i]?=MA x)(hx:Loc X.env.scope x)(r:RelV v u) (h:∀a,Inv X MP (σ.set i (MA v)) H a->Q .unit a) (d:X.fn x=MC\/X.env.scope.names.lookup x=MA .local:=by first|exact .inl rfl|exact .inr rfl|assumption):Jj M A (storeName X.env x u) Q E s:=j6 I b c hx r (λa e _=>h a e) d
def Inv.yP{a:J5}{ch:rp}(I:Inv X MP σ H s)(f:a.os=s.os)(u:Un (PL X.stack) ch H H' s.heap a.heap)(hok:OD X.prog X.w H' a.heap)(g:AllBare a.gens)
 (d:∀b∈ch,(b∈X.ex\/X.s₀.z<=b)/\b≠X.env.locals/\(∀x c,X.env.cells.lookup x=MA c->c≠b)/\∀p∈X.pn++MP,p.1≠b):Inv X MP σ H' a:=by
 let[h',g',d',t',h]:=a
 let e:h=s.os:=f
 subst e
 exact I.call (g':=g') (t':=t') (d':=d') u hok g d
end
abbrev XK:=J3->Option pd->Hp->Prop
abbrev St:=List (Option V)
abbrev VK:=V->Hp->Prop
abbrev TE:=St->Hp->VK->Prop
abbrev TT:=St->Hp->(Bool->Hp->Prop)->Prop
abbrev TA:=St->Hp->(r4->Hp->Prop)->Prop
structure Ends where
 nx:St->Hp->Prop
 rt:VK
 bk:St->Hp->Prop:=λ_ _=>False
 ct:St->Hp->Prop:=λ_ _=>False
abbrev TS:=Ends->St->Hp->Prop
def EP(X:Cx)(MP:p4)(σ:St)(Q:VK)(u:J3)(b:J5):Prop:=∃v a,Inv X MP σ a b/\RelV v u/\Q v a
def TP(X:Cx)(MP:p4)(σ:St)(Q:Bool->Hp->Prop)(b:Bool)(c:J5):Prop:=∃a,Inv X MP σ a c/\Q b a
def AP(X:Cx)(MP:p4)(σ:St)(Q:r4->Hp->Prop)(us:List J3)(b:J5):Prop:=∃vs a,Inv X MP σ a b/\Vals vs us/\Q vs a
def SP(X:Cx)(MP:p4)(D:Ends)(f:Flow)(c:J5):Prop:=
 match f with
 |.next=>∃a b,Inv X MP a b c/\D.nx a b
 |.brk=>∃a b,Inv X MP a b c/\D.bk a b
 |.cont=>∃a b,Inv X MP a b c/\D.ct a b
 |.ret u=>∃v a b,Inv X MP a b c/\RelV v u/\D.rt v b
def PE(X:Cx)(e:pv)(t:TE):Prop:=
 ∀(MP:p4)(s:J5)(σ:St)(H:Hp)(Q:VK),Inv X MP σ H s->t σ H Q->Jj (Jn X.prog X.w) X.A (eval e X.env) (EP X MP σ Q) X.xe s
def PT(X:Cx)(e:pv)(t:TT):Prop:=
 ∀(MP:p4)(s:J5)(σ:St)(H:Hp)(Q:Bool->Hp->Prop),Inv X MP σ H s->t σ H Q->Jj (Jn X.prog X.w) X.A (isTrue e X.env (eval e X.env)) (TP X MP σ Q) X.xe s
def PW(X:Cx)(e:pv)(t:TT):Prop:=
 ∀(a:Sem J3)(MP:p4)(s:J5)(σ:St)(H:Hp)(Q:Bool->Hp->Prop),Inv X MP σ H s->t σ H Q->Jj (Jn X.prog X.w) X.A (isTrue e X.env a) (TP X MP σ Q) X.xe s
theorem PW.pt{X:Cx}{e:pv}{t:TT}(h:PW X e t):PT X e t:=h _
def PA(X:Cx)(es:ro)(t:TA):Prop:=
 ∀(pos:Pos)(MP:p4)(s:J5)(σ:St)(H:Hp)(Q:r4->Hp->Prop),Inv X MP σ H s->t σ H Q->Jj (Jn X.prog X.w) X.A (spliced (Kr pos (Jk es X.env))) (AP X MP σ Q) X.xe s
def PS(X:Cx)(st:pe)(t:TS):Prop:=
 ∀(MP:p4)(s:J5)(σ:St)(H:Hp)(D:Ends),Inv X MP σ H s->t D σ H->Jj (Jn X.prog X.w) X.A (exec st X.env) (SP X MP D) X.xe s
def PM(X:Cx)(st:ri)(t:TS):Prop:=
 ∀(MP:p4)(s:J5)(σ:St)(H:Hp)(D:Ends),Inv X MP σ H s->t D σ H->Jj (Jn X.prog X.w) X.A (execs st X.env) (SP X MP D) X.xe s
theorem NJ{b:Type}{t:Sem b}{Q c:b->J5->Prop}{M:Model}{A:JP}{E:J3->J5->Prop}{s:J5}(h:Jj M A t Q E s)(d:∀a s,Q a s->c a s):Jj M A t c E s:=Jp h d λ_ _ x=>x
section
variable{X:Cx}
def IA(i:Nat):TE:=λσ H Q=>∃v,σ[i]?=MA (MA v)/\Q v H
def tC(v:V):TE:=λ_ H Q=>Q v H
def Ds{i:Nat}{x:Str}{pos:Pos}(j:X.N[i]?=MA x)(hv:Xh X.env.scope x)(hd:(x==("__debug__":Str))=MD:=by decide)(f:(x==("__classdict__":Str))=MD:=by decide):PE X (.Name x pos) (IA i):=by
 intro MP s σ H Q I h;let[v,e,h]:=h;let[m,k,n]:=I.loc;let[u,r,l]:=n i x v j e hv;let b:EP X MP σ Q u s:=#[v,H,I,r,h];rcases l with⟨d,o⟩|⟨d,c,g,a⟩
 .exact wpAny_Name (wpAny_loadName_local I.ok.kind d k o b) hd
 .rcases d with d|d
  .exact wpAny_Name (wpAny_loadName_cell I.ok.kind d g a b) hd
  .exact wpAny_Name (wpAny_loadName_free I.ok.kind d g a b f) hd
theorem yu{i j pos}:PE X (.Constant (.int i) j pos) (tC (.int i)):=λ_ _ _ H _ I h=>wpAny_Constant_int #[.int i,H,I.tok _,#[_,rfl],h]
theorem Hm{b j pos}:PE X (.Constant (.bool b) j pos) (tC (.bl b)):=λ_ _ _ H _ I h=>Constant_bool #[.bl b,H,I,5,h]
theorem El{j pos}:PE X (.Constant .none j pos) (tC .non):=λ_ _ _ H _ I h=>Constant_none #[.non,H,I,5,h]
theorem E5{x j pos}:PE X (.Constant (.str x) j pos) (tC (.str x)):=λ_ _ _ H _ I h=>Calls.Constant_str #[.str x,H,I.tok _,#[_,rfl],h]
def Gl(X:Cx)(x:Str):Prop:=X.env.kindOf x=MA .globalImplicit
theorem pb{E:J3->J5->Prop}{MP:p4}{s:J5}{σ:St}{H:Hp}{x:Str}{u:J3}{pos:Pos}{Q:J3->J5->Prop}(I:Inv X MP σ H s)(a:Gl X x)(b:X.mg x=MA u)(h:Q u s) (hd:(x==("__debug__":Str))=MD:=by decide):Jj (Jn X.prog X.w) X.A (eval (.Name x pos) X.env) Q E s:=Calls.Name_function_global I.ok.kind a (Calls.loadGlobal_global (by rw[I.ok.glob];exact I.mod.glob.keeps I.bk) b h) hd
def gc{E:J3->J5->Prop}{MP:p4}{s:J5}{σ:St}{H:Hp}{x:Str}{u:J3}{pos:Pos}{Q:J3->J5->Prop}(I:Inv X MP σ H s)(a:Gl X x)(b:X.mg x=MB)(hv:Kq x=MA u)(h:Q u s) (c:x≠"__name__":=by decide) (hd:(x==("__debug__":Str))=MD:=by decide):Jj (Jn X.prog X.w) X.A (eval (.Name x pos) X.env) Q E s:=by let[d,h1,h2]:=I.mod.blt;exact Calls.Name_function_global I.ok.kind a (Calls.loadGlobal_builtin (by rw[I.ok.glob];exact I.mod.glob.keeps I.bk) b (by rw[I.ok.blt];exact h1.keeps I.bk) ((h2 x c).trans hv) h) hd
variable{a b:pv}{ta tb:TE}{pos:Pos}
def PC(X:Cx)(op:CmpOp)(a b:pv)(t:TE):Prop:=
 ∀(MP:p4)(s:J5)(σ:St)(H:Hp)(Q:VK),Inv X MP σ H s->t σ H Q->
  Jj (Jn X.prog X.w) X.A (eval a X.env) (λv c=>Jj (Jn X.prog X.w) X.A (eval b X.env) (λu d=>Jj (Jn X.prog X.w) X.A (JY op v u) (EP X MP σ Q) X.xe d) X.xe c) X.xe s
def tB(t:TE):TT:=λσ H Q=>t σ H λx H1=>∃c,x=.bl c/\Q c H1
def Ex{op:CmpOp}{t:TE}(h:PC X op a b t)(h1:LY op b=MD:=by first|exact nobehind _ ⋯ ⋯|rfl):PT X (.Compare a [op] [b] pos) (tB t):=by intro MP s σ H Q I f;refine wpAny_isTrue_Compare1 (NJ (h MP s σ H _ I f) λv k h1=>NJ h1 λu l h2=>NJ h2 λc m e=>?_) h1;let[x,H1,g,i,j]:=e;let[d,5,q]:=j;cases i;exact KW #[H1,g,q]
def Dk{e:pv}{t:TE}(h:PE X e t)(g:∀c,isTrue e X.env c=(do let v <-c;standAt e.pos;holding [v] (truthy v)):=by intro _;rfl):PT X e (tB t):=by intro MP s σ H Q I i;refine isTrue_plain (NJ (h MP s σ H _ I i) λv m f=>?_) (g _);let[x,H1,j,k,l]:=f;let[d,5,q]:=l;cases k;exact KW #[H1,j,q]
variable{tA MQ:TT}{rest:ro}
def Ip(t u:TT):TT:=λσ H Q=>t σ H λc H1=>if c=MC then u σ H1 Q else Q MD H1
def tOr(t u:TT):TT:=λσ H Q=>t σ H λc H1=>if c=MC then Q MC H1 else u σ H1 Q
def Iz(t:TT):TT:=λσ H Q=>t σ H λc H1=>Q (!c) H1
def BK(d:PT X a tA):PW X (.BoolOp .And [a] pos) tA:=by
 intro f MP s σ H Q I h;refine isTrue_and (NJ (d MP s σ H Q I h) λc g e=>?_);cases c with
 |true=>exact isTrue_and_nil e
 |false=>exact e
def Dv(d:PT X a tA):PW X (.BoolOp .Or [a] pos) tA:=by
 intro f MP s σ H Q I h;refine isTrue_or (NJ (d MP s σ H Q I h) λc g e=>?_);cases c with
 |false=>exact isTrue_or_nil e
 |true=>exact e
def D5(g:PT X a tA)(i:PW X (.BoolOp .And (b::rest) pos) MQ):PW X (.BoolOp .And (a::b::rest) pos) (Ip tA MQ):=by
 intro j MP s σ H Q I h;refine isTrue_and (NJ (g MP s σ H _ I h) λc k d=>?_);let[H1,e,f]:=d;cases c with
 |true=>exact i j MP k σ H1 Q e f
 |false=>exact #[H1,e,f]
def Gw(g:PT X a tA)(i:PW X (.BoolOp .Or (b::rest) pos) MQ):PW X (.BoolOp .Or (a::b::rest) pos) (tOr tA MQ):=by
 intro j MP s σ H Q I h;refine isTrue_or (NJ (g MP s σ H _ I h) λc k d=>?_);let[H1,e,f]:=d;cases c with
 |true=>exact #[H1,e,f]
 |false=>exact i j MP k σ H1 Q e f
def C0(d:PT X a tA):PT X (.UnaryOp .Not a pos) (Iz tA):=by intro MP s σ H Q I h;exact isTrue_not (d MP s σ H (λc H1=>Q (!c) H1) I h)
def Gd(ta tb:TE):TE:=λσ H Q=>ta σ H λx H1=>∃c,x=.bl c/\if c=MC then tb σ H1 Q else Q (.bl MD) H1
def Gb(ta:TE):TE:=λσ H Q=>ta σ H λx H1=>∃c,x=.bl c/\Q (.bl (!c)) H1
theorem Es{op}{t:TE}(h:PE X a t):PE X (.BoolOp op [a] pos) t:=λMP s σ H Q I c=>BoolOp_one (h MP s σ H Q I c)
def EA(g:PE X a ta)(i:PE X (.BoolOp .And (b::rest) pos) tb):PE X (.BoolOp .And (a::b::rest) pos) (Gd ta tb):=by
 intro MP s σ H Q I h;refine BoolOp_and (NJ (g MP s σ H _ I h) λv j d=>?_);let[x,H1,f,k,e]:=d;let[c,5,e]:=e;cases k;refine KW ?_;cases c with
 |true=>exact i MP j σ H1 Q f e
 |false=>exact #[.bl MD,H1,f,5,e]
def Dc(f:PE X a ta):PE X (.UnaryOp .Not a pos) (Gb ta):=by intro MP s σ H Q I h;refine UnaryOp_ (NJ (f MP s σ H _ I h) λv j d=>?_);let[x,H1,g,i,e]:=d;let[c,5,e]:=e;cases i;exact not_of (KW #[.bl (!c),H1,g,5,e])
def tIf(t:TT)(ta tb:TE):TE:=λσ H Q=>t σ H λc H1=>if c=MC then ta σ H1 Q else tb σ H1 Q
def x8{c:pv}(j:PT X c tA)(k:PE X a ta)(l:PE X b tb):PE X (.IfExp c a b pos) (tIf tA ta tb):=by
 intro MP s σ H Q I h;refine wpAny_IfExp (NJ (j MP s σ H _ I h) λd f e=>?_);let[H1,g,i]:=e;cases d with
 |true=>exact k MP f σ H1 Q g i
 |false=>exact l MP f σ H1 Q g i
end
def NX(K:J1)(H:Hp)(a:pd)(xs:r4):Prop:=
 Rd H a (.lst xs)\/
  ∃(o:Obj) (b:Array J3) (n:Nat),K.lookup a=MA o/\o.cls=.type "list"/\o.dict=MB/\o.data=.seq b n/\b.size<=Jo/\Vals xs b.toList
def NW(K:J1)(H:Hp)(a:pd)(xs:r4):Prop:=
 Rd H a (.tup xs)\/
  ∃(o:Obj) (b:Array J3) (n:Nat),K.lookup a=MA o/\(o.cls=.type "tuple"/\o.dict=MB)/\o.data=.seq b n/\b.size<=Jo/\Vals xs b.toList
def Ig:J3->Option V
 |.none=>MA .non
 |.bool b=>MA (.bl b)
 |.int i _=>MA (.int i)
 |.str x _=>MA (.str x)
 |.bytes b _=>MA (.byt b)
 |.float b _=>MA (.flt b)
 |.ref a=>MA (.ref a)
 |.type n=>MA (.ty n)
 |_=>MB
def RelV.abs{x:V}{u:J3}(r:RelV x u):Ig u=MA x:=by
 cases x with
 |non=>cases r;rfl
 |bl _=>cases r;rfl
 |int _=>let[t,5]:=r;rfl
 |str _=>let[t,5]:=r;rfl
 |byt _=>let[t,5]:=r;rfl
 |flt _=>let[t,5]:=r;rfl
 |ref _=>cases r;rfl
 |ty _=>cases r;rfl
theorem RelV.inj{x y:V}{u:J3}(r:RelV x u)(q:RelV y u):x=y:=Option.some.inj (r.abs.symm.trans q.abs)
def Vals.inj:∀{xs a:r4}{us:List J3},Vals xs us->Vals a us->xs=a:=by
 intro xs a us h
 induction h generalizing a with
 |nil=>intro k;cases k;rfl
 |cons r t b=>
  intro k
  cases k with
  |cons c d=>rw[r.inj c,b d]
section
variable{X:Cx}{MP:p4}{σ:St}{H:Hp}{s:J5}{a:pd}{xs ys:r4}
theorem NX.of{K:J1}(h:H a=MA (.lst xs)):NX K H a xs:=.inl (.inl h)
theorem NW.of{K:J1}(h:H a=MA (.tup xs)):NW K H a xs:=.inl (.inl h)
def Inv.list(I:Inv X MP σ H s)(h:NX X.K H a xs):∃its:List J3,Vals xs its/\PlainL s.heap a its.toArray/\xs.length<=Jo:=by
 rcases h with h|⟨o,its,n,b,c,hd,d,f,r⟩
 .obtain⟨z,its,n,r,e⟩:=h.ok I.hok;exact #[its,r,#[_,n,e,5,5,rfl],z]
 .exists its.toList,r,#[o,n,I.kIn a o b,c,hd,‹d›];let e:=r.length;simp only[Kw]at e;omega
def Inv.tuple(I:Inv X MP σ H s)(h:NW X.K H a xs):∃its:List J3,Vals xs its/\IsTup s.heap a its.toArray/\xs.length<=Jo:=by
 rcases h with h|⟨o,its,n,b,c,d,f,r⟩
 .obtain⟨z,its,r,p,_⟩:=h.ok I.hok;exact #[its,r,p,z]
 .exists its.toList,r,#[o,I.kIn a o b,c.1,n,‹d›];let e:=r.length;simp only[Kw]at e;omega
def Inv.EY(I:Inv X MP σ H s)(h:NW X.K H a xs):SJ s.heap a:=by
 rcases h with h|⟨o,b,n,c,d,e,f,r⟩
 .obtain⟨z,b,r,_,p⟩:=h.ok I.hok;exact p
 .exact #[o,I.kIn a o c,d.2]
def Inv.jm(I:Inv X MP σ H s)(h:NX X.K H a xs)(h':NX X.K H a ys):xs=ys:=by
 obtain⟨c,r,⟨o,n,e,_,_,d⟩,_⟩:=I.list h;obtain⟨b,i,⟨k,l,f,_,_,g⟩,_⟩:=I.list h';rw[e]at f;cases f;rw[d]at g;injection g with j _;have:c=b:=‹congrArg Array.toList j›
 subst this;exact r.inj i
def Inv.nD(I:Inv X MP σ H s)(h:NW X.K H a xs)(h':NW X.K H a ys):xs=ys:=by
 obtain⟨c,r,⟨o,e,_,n,d⟩,_⟩:=I.tuple h;obtain⟨b,i,⟨k,f,_,l,g⟩,_⟩:=I.tuple h';rw[e]at f;cases f;rw[d]at g;injection g with j _;have:c=b:=‹congrArg Array.toList j›
 subst this;exact r.inj i
end
abbrev Cx.mU(X:Cx)(E:J3->J5->Prop):Cx:={ X with xe:=E }
abbrev Cx.nox(X:Cx):Cx:=X.mU λ_ _=>False
theorem Cx.Ok.mU{X:Cx}(ok:X.Ok)(E:J3->J5->Prop):(X.mU E).Ok:=#[ok.mod,ok.kind,ok.glob,ok.blt,ok.above,ok.inj,ok.has,ok.cab,ok.hd,ok.frames,ok.stk,ok.exf,ok.bs,ok.bsz,ok.noex,ok.exfs,ok.gP,ok.frf]
theorem Cx.Ok.gN{X:Cx}{E:J3->J5->Prop}(ok:(X.mU E).Ok):X.Ok:=#[ok.mod,ok.kind,ok.glob,ok.blt,ok.above,ok.inj,ok.has,ok.cab,ok.hd,ok.frames,ok.stk,ok.exf,ok.bs,ok.bsz,ok.noex,ok.exfs,ok.gP,ok.frf]
section
variable{X:Cx}{MP:p4}{σ:St}{H:Hp}{s:J5}{E:J3->J5->Prop}
theorem Inv.mU(I:Inv X MP σ H s)(E:J3->J5->Prop):Inv (X.mU E) MP σ H s:=#[I.ok.mU E,I.os,I.bare,I.base,I.loc,I.cell,I.free,I.freeC,I.pin,I.hok,I.len]
theorem Inv.gN(I:Inv (X.mU E) MP σ H s):Inv X MP σ H s:=#[I.ok.gN,I.os,I.bare,I.base,I.loc,I.cell,I.free,I.freeC,I.pin,I.hok,I.len]
def SP.gN{D:Ends}{f:Flow}{c:J5}(h:SP (X.mU E) MP D f c):SP X MP D f c:=by
 cases f with
 |next=>let[a,b,I,q]:=h;exact #[a,b,I.gN,q]
 |brk=>let[a,b,I,q]:=h;exact #[a,b,I.gN,q]
 |cont=>let[a,b,I,q]:=h;exact #[a,b,I.gN,q]
 |ret u=>let[v,a,b,I,r,q]:=h;exact #[v,a,b,I.gN,r,q]
theorem PM.nox{st:ri}{t:TS}(h:PM X.nox st t):PM X st t:=λMP s σ H D I a=>Jp (h MP s σ H D (I.mU _) a) (λ_ _ q=>q.gN) λ_ _ z=>Jy z
end
section
variable{X:Cx}{st:pe}{rest:ri}{t u:TS}{e:pv}{te:TE}{pos:Pos}
def Gx:TS:=λD σ H=>D.nx σ H
def Ia(t u:TS):TS:=λD σ H=>t { D with nx:=u D } σ H
theorem BO:PM X [] Gx:=λ_ _ σ H _ I h=>wpAny_execs_nil #[σ,H,I,h]
def y6(h1:PS X st t)(h2:PM X rest u):PM X (st::rest) (Ia t u):=by
 intro MP s σ H D I h;refine wpAny_execs_cons (NJ (h1 MP s σ H { D with nx:=u D } I h) λf b q=>?_);cases f with
 |next=>
  let[a,c,d,q]:=q
  exact h2 MP b a c D d q
 |ret v=>exact q
 |brk=>exact q
 |cont=>exact q
def AG(h1:PS X st t):PM X [st] t:=by
 intro MP s σ H D I h;refine wpAny_execs_cons (NJ (h1 MP s σ H D I h) λf a q=>?_);cases f with
 |next=>exact wpAny_execs_nil q
 |ret v=>exact q
 |brk=>exact q
 |cont=>exact q
def Inv.quiet{MP:p4}{σ:St}{H:Hp}{s:J5}(I:Inv X MP σ H s):interactive X.env=MD:=by simp[interactive,I.ok.kind]
def Hv(te:TE):TS:=λD σ H=>te σ H λ_ H1=>D.nx σ H1
def AW(b:PE X e te)(c:La e MB pos.line X.env=pure MD:=by rfl):PS X (.Expr e pos) (Hv te):=by intro MP s σ H D I h;exact wpAny_Expr_any (NJ (b MP s σ H _ I h) λv g a=>by let[x,H1,d,i,f]:=a;exact(#[σ,H1,d,f])) I.quiet c
def HL(te:TE):TS:=λD σ H=>te σ H D.rt
def Fp(b:PE X e te):PS X (.Return (MA e) pos) (HL te):=by intro MP s σ H D I h;exact wpAny_Return_some (NJ (b MP s σ H _ I h) λv g a=>by let[x,H1,c,d,f]:=a;exact(#[x,σ,H1,c,d,f]))
def HQ(c:TT)(t u:TS):TS:=λD σ H=>c σ H λb H1=>if b=MC then t D σ H1 else u D σ H1
def HG{c:pv}{a b:ri}{tc:TT}(k:PT X c tc)(l:PM X a t)(m:PM X b u):PS X (.If c a b pos) (HQ tc t u):=by
 intro MP s σ H D I h;refine wpAny_If (NJ (k MP s σ H _ I h) λd g f=>?_);let[H1,i,j]:=f;cases d with
 |true=>exact l MP g σ H1 D i j
 |false=>exact m MP g σ H1 D i j
def xZ:TS:=λ_ _ _=>False
theorem zy:PS X st xZ:=λ_ _ _ _ _ _ h=>h.elim
theorem vL{a:ri}:PM X a xZ:=λ_ _ _ _ _ _ h=>h.elim
end
abbrev TG:=V->St->Hp->(St->Hp->Prop)->Prop
abbrev R6:=r4->St->Hp->(St->Hp->Prop)->Prop
def PG(X:Cx)(a:pv)(t:TG):Prop:=
 ∀(MP:p4)(s:J5)(σ:St)(H:Hp)(v:V)(u:J3)(Q:St->Hp->Prop),Inv X MP σ H s->RelV v u->t v σ H Q->
  Jj (Jn X.prog X.w) X.A (Me a X.env u) (λ_ d=>∃b c,Inv X MP b c d/\Q b c) X.xe s
def SH(X:Cx)(ts:ro)(t:R6):Prop:=
 ∀(MP:p4)(s:J5)(σ:St)(H:Hp)(vs:r4)(us:List J3)(Q:St->Hp->Prop),Inv X MP σ H s->Vals vs us->t vs σ H Q->
  Jj (Jn X.prog X.w) X.A (assignInOrder ((LZ ts X.env).map (·.2)) us) (λ_ c=>∃a b,Inv X MP a b c/\Q a b) X.xe s
abbrev Ee:=V->V->V->Hp->(Hp->Prop)->Prop
def FO(X:Cx)(t:Ee):Prop:=
 ∀(MP:p4)(s:J5)(σ:St)(H:Hp)(o i v:V)(a b u:J3)(Q:Hp->Prop),Inv X MP σ H s->RelV o a->RelV i b->RelV v u->t o i v H Q->
  Jj (Jn X.prog X.w) X.A (setItem a b u) (λ_ d=>∃c,Inv X MP σ c d/\Q c) X.xe s
abbrev YA:=V->V->Hp->VK->Prop
def YC(X:Cx)(op:Operator)(t:YA):Prop:=
 ∀(MP:p4)(s:J5)(σ:St)(H:Hp)(x y:V)(v u:J3)(Q:VK),Inv X MP σ H s->RelV x v->RelV y u->t x y H Q->
  Jj (Jn X.prog X.w) X.A (inplaceOp op v u) (EP X MP σ Q) X.xe s
section
variable{X:Cx}{pos:Pos}
def de(i:Nat):TG:=λv σ H Q=>Q (σ.set i (MA v)) H
def uz{i:Nat}{x:Str}(a:X.N.Nodup)(b:X.N[i]?=MA x)(hx:Loc X.env.scope x)(c:X.fn x=MC\/X.env.scope.names.lookup x=MA .local:=by first|exact .inl rfl|exact .inr rfl|assumption):PG X (.Name x pos) (de i):=by intro MP s σ H v u Q I r h;exact wpAny_assign_Name (gS I a b hx r (λe d=>#[_,H,d,h]) c)
def rY:R6:=λvs σ H Q=>vs=[]/\Q σ H
def fB(t:TG)(u:R6):R6:=λvs σ H Q=>∃v r,vs=v::r/\t v σ H λa b=>u r a b Q
def lj:SH X [] rY:=by intro MP s σ H vs us Q I r h;let[e,h]:=h;subst e;cases r;exact assignInOrder_nil #[σ,H,I,h]
def eE{e:pv}{es:ro}{t:TG}{u:R6}(h1:PG X e t)(h2:SH X es u) (c:(LZ (e::es) X.env).map (·.2)=Me e X.env::(LZ es X.env).map (·.2):=by rfl):SH X (e::es) (fB t u):=by
 intro MP s σ H vs us Q I r h;let[v,j,e1,h]:=h;subst e1;cases r with
 |cons r d=>
  rw[c]
  refine assignInOrder_cons (NJ (h1 MP s σ H _ _ _ I r h) λ_ f a=>?_)
  let[b,H1,g,i]:=a
  exact h2 MP f b H1 _ _ Q g d i
def tO(K:J1)(n:Nat)(t:R6):TG:=λv σ H Q=>∃a xs,v=.ref a/\NW K H a xs/\xs.length=n/\t xs σ H Q
def ph{es:ro}{k:Nat}{t:R6}{n:Nat}(g:X.calm=MC)(h:SH X es t)
 (i:(LZ es X.env).length=n:=by rfl) (c:(LZ es X.env).findIdx? (·.1)=MB:=by rfl):PG X (.Tuple es k pos) (tO X.K n t):=by
 intro MP s σ H v u Q I r d
 let[a,xs,e1,j,l,d]:=d
 subst e1
 cases r
 let[m,f,p,x]:=I.tuple j
 refine assign_Tuple_tuple (I.ok.hd g) p (by simp[i,<-l,f.length]) c λq hx=>?_
 let w:Inv X MP σ H { s with heap:=q }:=I.kept (t':=s.toks) λb o e=>hx b o (JF (Jm e)) e
 exact h MP _ σ H xs _ Q w ‹f› d
def IT(to a:TE)(t:Ee):TG:=λv σ H Q=>to σ H λo H1=>a σ H1 λi b=>t o i v b λc=>Q σ c
def DN{o i:pv}{to f:TE}{t:Ee}(g:PE X o to)(j:PE X i f)(k:FO X t)
 (l:∀v,Me (.Subscript o i pos) X.env v=(do
  let d <-holding [v] (eval o X.env)
  let e <-holding [v,d] (eval i X.env)
  standAt pos
  holding [v,d,e] (setItem d e v)
  release [v,d,e] []):=by intro _;rfl):PG X (.Subscript o i pos) (IT to f t):=by
 intro MP s σ H v u Q I r h
 rw[l]
 refine J0 (Kn (NJ (g MP s σ H _ I h) λd m a=>?_))
 let[x,H1,n,p,q]:=a
 refine J0 (Kn (NJ (j MP m σ H1 _ n q) λe w b=>?_))
 let[y,z,A,B,C]:=b
 refine J0 (L0 (J0 (Kn (NJ (k MP w σ z x y v d e u _ A p B r C) λ_ G c=>?_))))
 let[D,E,F]:=c
 exact wpAny_release #[σ,D,E,F]
def Bn(te:TE)(g:TG):TS:=λD σ H=>te σ H λx H1=>g x σ H1 D.nx
def C1{tg e:pv}{te:TE}{g:TG}(b:PE X e te)(c:PG X tg g)(d:swapsWithSole [tg] e pos.line X.env=pure MD:=by rfl)(hw:swappedStores [tg] e X.env=pure MB:=by rfl) (h1:(LZ [tg] X.env).map (·.2)=[Me tg X.env]:=by rfl):PS X (.Assign [tg] e pos) (Bn te g):=by intro MP s σ H D I h;refine wpAny_Assign_stores (NJ (b MP s σ H _ I h) λv f a=>?_) d hw;let[x,H1,i,j,k]:=a;rw[h1];exact NJ (c MP f σ H1 x v _ i j k) λ_ l q=>q
def Dt{i:Nat}{x:Str}{e:pv}{te:TE}{b:Pos}(c:X.N.Nodup)(d:X.N[i]?=MA x)(hx:Loc X.env.scope x)(f:PE X e te)(g:La e (MA (.Name x b)) pos.line X.env=pure MD:=by rfl)(j:X.fn x=MC\/X.env.scope.names.lookup x=MA .local:=by first|exact .inl rfl|exact .inr rfl|assumption) : PS X (.Assign [.Name x b] e pos) (Bn te (de i)):=by intro MP s σ H D I h;refine wpAny_Assign_Name (NJ (f MP s σ H _ I h) λv o a=>?_) g;let[y,H1,k,l,m]:=a;exact gS k c d hx l (λp n=>#[_,H1,n,m]) j
def IS(i j:Nat)(a:TA):TS:=λD σ H=>a σ H λvs H1=>∃v w,vs=[v,w]/\D.nx ((σ.set i (MA v)).set j (MA w)) H1
def EV{i j:Nat}{x y:Str}{a b:pv}{C:TA}{l m pt:Pos}{n r d}(J:X.calm=MC)(E:X.N.Nodup)(K:X.N[i]?=MA x)(L:X.N[j]?=MA y)(t:i≠j)
 (hx:X.env.scope.names.lookup x=MA .local) (F:X.env.scope.names.lookup y=MA .local) (M:PA X [a,b] C)
 (hw:swappedStores [.Tuple [.Name x l,.Name y m] n pt] (.Tuple [a,b] r d) X.env=pure (MA [x,y]))
 (O:swapsWithSole [.Tuple [.Name x l,.Name y m] n pt] (.Tuple [a,b] r d) pos.line X.env=pure MD:=by rfl) :
 PS X (.Assign [.Tuple [.Name x l,.Name y m] n pt] (.Tuple [a,b] r d) pos) (IS i j C):=by
 intro MP s σ H D I h
 rw[exec_Assign_arm]
 refine J0 (L0 ?_)
 rw[O]
 refine J0 (J9 ?_)
 rw[ME ⋯]
 refine J0 (Tuple_ (NJ (M _ MP s σ H _ I h) λus f c=>?_))
 let[vs,H1,P,Q,u]:=c
 let[v,w,e1,u]:=u
 subst e1
 obtain⟨g,k,rfl,R,z⟩:∃g k,us=[g,k]/\RelV v g/\RelV w k:=by
  cases Q with
  |cons p q=>
   cases q with
   |cons S T=>
    cases T
    exact #[_,7,p,S]
 refine K9 ?_ (by show 2<=Jo;decide)
 let U:Inv X MP σ H1 { f with heap:=f.heap.push { cls:=.type "tuple",data:=.seq [g,k].toArray } }:=P.kept (t':=f.toks) λb o e=>J6 _ e
 rw[hw]
 refine J0 (J9 ?_)
 show Jj (Jn X.prog X.w) X.A (do rule "assign.swapped-stores";let items <-unpackItems (.ref f.z) 2 MB;assignInOrder [λv=>bindName X.env y v,λv=>bindName X.env x v] items.reverse;pure Flow.next) _ _ _
 refine J0 (wpAny_rule (J0 (unpackItems_tuple (items:=(List.toArray [g,k])) (I.ok.hd J) (IsTup.new f.heap _) λh' B=>?_)))
 let V:=U.kept (h':=h') (t':=f.toks) λb o e=>B b o (JF (Jm e)) e
 show Jj _ _ (assignInOrder [λv=>bindName X.env y v,λv=>bindName X.env x v] [k,g] >>= λ_=>pure Flow.next) _ _ _
 refine J0 (assignInOrder_cons (wpAny_bindName (gS V E L (.inl F) z (λY W=>?_) (.inr F))))
 refine assignInOrder_cons (wpAny_bindName (gS W E K (.inl hx) R (λZ G=>assignInOrder_nil (J9 ?_)) (.inr hx)))
 rw[List.set_comm _ _ (Ne.symm t)]at G
 exact #[_,H1,G,u]
def HP(i:Nat)(te:TE)(a:YA):TS:=λD σ H=>∃x,σ[i]?=MA (MA x)/\te σ H λy H1=>a x y H1 λz b=>D.nx (σ.set i (MA z)) b
def DR{i:Nat}{x:Str}{e:pv}{te:TE}{op:Operator}{p:YA}{g:Pos}(t:X.N.Nodup)(q:X.N[i]?=MA x)(hx:Loc X.env.scope x)(B:PE X e te)(C:YC X op p)(E:X.fn x=MC\/X.env.scope.names.lookup x=MA .local:=by first|exact .inl rfl|exact .inr rfl|assumption) :
 PS X (.AugAssign (.Name x g) op e pos) (HP i te p):=by
 intro MP s σ H D I h
 let[v,e1,h]:=h
 let[m,F,G]:=I.loc
 let o:Xh X.env.scope x:=by rcases hx with k|k;exact .inl k;exact .inr (.inl k)
 let[u,r,l]:=G i x v q e1 o
 refine wpAny_AugAssign_Name ?_
 let go:Jj (Jn X.prog X.w) X.A (eval e X.env) (λw j=>Jj (Jn X.prog X.w) X.A (inplaceOp op u w) (λr n=>Jj (Jn X.prog X.w) X.A (storeName X.env x r) (λ_=>SP X MP D .next) X.xe n) X.xe j) X.xe s:=by
  refine NJ (B MP s σ H _ I h) λw J a=>?_
  let[y,H1,K,L,M]:=a
  refine NJ (C MP J σ H1 v y u w _ K r L M) λz V b=>?_
  let[W,O,P,Q,R]:=b
  exact gS P t q hx Q (λY S=>#[_,O,S,R]) E
 rcases l with⟨d,T⟩|⟨d,c,U,f⟩
 .exact wpAny_loadName_local I.ok.kind d F T go
 .rcases d with d|d
  .exact wpAny_loadName_cell I.ok.kind d U f go
  .rcases hx with k|k
   .have:X.env.scope.names.lookup x=MA .free:=d
    rw[k]at this;cases this
   .have:X.env.scope.names.lookup x=MA .free:=d
    rw[k]at this;cases this
def Zo(f:Int->Int->Int):YA:=λx y H Q=>∃i j,x=.int i/\y=.int j/\Q (.int (f i j)) H
def xV:YC X .Add (Zo λi j=>i+j):=by intro MP s σ H x y v u Q I a b h;let[i,j,e1,e2,q]:=h;subst e1;subst e2;let[t,5]:=a;let[c,5]:=b;exact iadd_int #[.int _,H,I.tok _,#[_,rfl],q]
def CU:YC X .Sub (Zo λi j=>i-j):=by intro MP s σ H x y v u Q I a b h;let[i,j,e1,e2,q]:=h;subst e1;subst e2;let[t,5]:=a;let[c,5]:=b;exact isub_int #[.int _,H,I.tok _,#[_,rfl],q]
end
section
variable{X:Cx}{pos:Pos}
def EK(c:TT)(f:TS):TS:=λD σ H=>∃W:Nat->St->Hp->Prop,(∃m,W m σ H)/\∀m σ H,W m σ H->
 c σ H λb H1=>if b=MC then ∃N:St->Hp->Prop,(∀a d,N a d->∃e,e<m/\W e a d)/\f { D with nx:=N,ct:=N,bk:=D.nx } σ H1 else D.nx σ H1
def zB{c:pv}{body:ri}{tc:TT}{r:TS}(t:PassesOwn (Jn X.prog X.w) X.A X.env X.xe)(B:PT X c tc)(C:PM X body r):PS X (.While c body [] pos) (EK tc r):=by
 intro MP s σ H D I h;obtain⟨W,⟨E,F⟩,g⟩:=h;refine wpAny_While (codeAny_whileLoop (λn G=>∃i u,Inv X MP i u G/\W n i u) ?_ E #[σ,H,I,F]);rintro n J ⟨d,H1,K,L⟩;refine LP t (NJ (B MP J d H1 _ K (g n d H1 L)) λb M e=>?_);let[x,y,k]:=e;cases b with
 |true=>
  let[N,z,k]:=k
  rw[MF rfl]
  refine LP t (NJ (C MP M d x _ y k) λf O l=>?_)
  cases f with
  |next=>
   let[a,j,m,n3]:=l
   let[o,p,q]:=z a j n3
   exact #[o,p,a,j,m,q]
  |cont=>
   let[a,j,m,n3]:=l
   let[o,p,q]:=z a j n3
   exact #[o,p,a,j,m,q]
  |brk=>exact l
  |ret v=>exact l
 |false=>
  rw[ME Js]
  exact wpAny_execs_nil #[d,x,y,k]
end
structure It where
 go:Nat->Hp->Prop
 yld:Nat->Hp->V->Hp->Prop
 stop:Nat->Hp->Prop
def cB(X:Cx)(MP:p4)(H:Hp)(b:pd):Prop:=
 H b=MB/\b≠X.env.locals/\b∉X.fs/\(b∈X.ex\/X.s₀.z<=b)/\(∀x c,X.env.cells.lookup x=MA c->c≠b)/\∀p∈X.pn++MP,p.1≠b
def Inv.oV{X:Cx}{MP:p4}{σ:St}{H d:Hp}{s:J5}{b:pd}(I:Inv X MP σ H s)(a:s.z<=b)(f:d b=MB):cB X MP d b:=by
 refine #[f,Nat.ne_of_gt (JD I.lt a),I.IQ a,.inr (JT I.sz a),λx c e z=>?_,λp g z=>?_]
 .obtain⟨v,q⟩:=I.cell x c e;exact absurd (JD q.lt (by rw[z];exact a)) (LX _)
 .exact absurd (JD (Jm (I.pin p g).1) (by rw[z];exact a)) (LX _)
structure Turn(P:Ju)(w:JV)(K:J1)(tg:pv)(J:It)(fp:rp)(it:pd)(tn:Nat->pq->Prop):Prop where
 mem:it∈fp
 obj:∀i h,tn i h->∀b∈fp,∃o,h.get? b=MA o/\∀v,o.data≠.cell v
 keep:∀i h h',tn i h->(∀b∈fp,∀o,h.get? b=MA o->h'.get? b=MA o)->tn i h'
 item:∀(X:Cx),X.prog=P->X.w=w->X.K=K->X.calm=MC->∀(i:Nat)(MP:p4)(s:J5)(σ:St)(H:Hp)(E:J3->J5->Prop),Inv X MP σ H s->(∀b∈fp,cB X MP H b)->tn i s.heap->J.go i H->
  Jj (Jn P w) X.A (pyNext (.ref it)) (λr s1=>∃u,r=MA u/\
   Jj (Jn P w) X.A (Lk tg (.ref it) u) (λ_ s2=>∃x H',Inv X MP σ H' s2/\RelV x u/\J.yld i H x H'/\tn (i+1) s2.heap/\∀b∈fp,H' b=MB) E s1) E s
 done:∀(X:Cx),X.prog=P->X.w=w->X.K=K->X.calm=MC->∀(i:Nat)(MP:p4)(s:J5)(σ:St)(H:Hp)(E:J3->J5->Prop),Inv X MP σ H s->(∀b∈fp,cB X MP H b)->tn i s.heap->J.stop i H->
  Jj (Jn P w) X.A (pyNext (.ref it)) (λr s1=>r=MB/\Inv X MP σ H s1) E s
 self:∀(A:JP)(i:Nat)(s:J5)(Q:J3->J5->Prop)(E:J3->J5->Prop),tn i s.heap->Q (.ref it) s->Jj (Jn P w) A (pyIter (.ref it)) Q E s
abbrev TI:=St->Hp->(It->Hp->Prop)->Prop
def PIE(X:Cx)(MP:p4)(σ:St)(tg:pv)(R:It->Hp->Prop)(a:J3)(d:J5):Prop:=
 ∃(it:pd) (fp:rp) (tn:Nat->pq->Prop) (J:It) (c:Hp),a=.ref it/\Inv X MP σ c d/\Turn X.prog X.w X.K tg J fp it tn/\tn 0 d.heap/\(∀b∈fp,cB X MP c b)/\R J c
def PI(X:Cx)(tg a:pv)(b:TI):Prop:=
 ∀(MP:p4)(s:J5)(σ:St)(H:Hp)(R:It->Hp->Prop),Inv X MP σ H s->b σ H R->
  Jj (Jn X.prog X.w) X.A (eval a X.env) (λv c=>Jj (Jn X.prog X.w) X.A (pyIter v) (PIE X MP σ tg R) X.xe c) X.xe s
def yk{M:Model}{A:JP}{E:J3->J5->Prop}{s:J5}{tg:pv}{it:pd}{u:J3}{o:Obj}{n:String}{vs:Array J3}{Q:Unit->J5->Prop}(b:s.heap.get? it=MA o)(c:o.cls=.type n)(hd:o.data=.fields vs) (d:["enumerate","zip","dict_itemiterator","dict_reverseitemiterator","odict_iterator","itertools.zip_longest","itertools.pairwise"].contains n=MD) (a:Q .unit s):Jj M A (Lk tg (.ref it) u) Q E s:=by
 unfold Lk
 cases tg<;>first
  |exact J9 a
  |(cases u<;>first
   |exact J9 a
   |(refine J0 (wpAny_load b ?_)
     rw[c,hd]
     show Jj M A (if(["enumerate","zip","dict_itemiterator","dict_reverseitemiterator","odict_iterator","itertools.zip_longest","itertools.pairwise"].contains n&&vs[0]?==MA (Md _))=MC then _ else _) Q E s
     rw[ME (by intro h;rw[d,Bool.false_and]at h;cases h)]
     exact J9 a))
def Itl(K:J1)(a:pd):It:=
 #[λi H=>∃xs x,NX K H a xs/\xs[i]?=MA x,λi H x b=>b=H/\∀xs,NX K H a xs->xs[i]?=MA x,λi H=>∃xs,NX K H a xs/\xs.length<=i]
def Itt(K:J1)(a:pd):It:=
 #[λi H=>∃xs x,NW K H a xs/\xs[i]?=MA x,λi H x b=>b=H/\∀xs,NW K H a xs->xs[i]?=MA x,λi H=>∃xs,NW K H a xs/\xs.length<=i]
def SW(a:Int)(n:Nat):It:=#[λi _=>i<n,λi H x b=>b=H/\x=.int (a+i),λi _=>n<=i]
def v9{P:Ju}{w:JV}{K:J1}{tg:pv}(a it:pd):Turn P w K tg (Itl K a) [it] it (λi h=>h.IsListIter it a i) where
 mem:=by simp
 obj:=λi h st b f=>by
  let e:b=it:=‹f›
  subst e
  let[o,e,c,d]:=st
  exact #[o,e,λv z=>by rw[d]at z;cases z]
 keep:=λi h j st k=>st.at λo e=>k it (_) o e
 item:=by
  intro X n q r J i MP s σ H E I l st t
  subst n q r
  let[xs,x,m,hx]:=t
  let[y,A,p,L]:=I.list m
  let[u,M,N]:=A.get hx
  let[B,C,O,D,F,G]:=l it (_)
  refine wpAny_pyNext_list_item st p.isList (x:=u) ‹M› λj g Q=>?_
  let R:Inv X MP σ H { s with heap:=j }:=I.turned (t':=s.toks) (λb o f e=>(Q.2 b f).trans e) B C D F G
  let[o,e,c,d]:=id g
  exact #[u,5,yk (s:={ s with heap:=j }) e c d ⋯ #[x,H,R,N,#[5,λT S=>by rw[I.jm S m];exact hx],g,λb f=>(l b f).1]]
 done:=by
  intro X n q r J i MP s σ H E I l st t
  subst n q r
  let[xs,m,hx]:=t
  let[y,A,p,L]:=I.list m
  let[B,C,O,D,F,G]:=l it (_)
  let U:=A.length
  exact wpAny_pyNext_list_end (I.ok.hd J) st p.isList (by simp;omega) λj eb=>#[5,I.turned (t':=s.toks) (λb o f e=>eb b o f e) B C D F G]
 self:=λ_ _ _ _ _ st h=>wpAny_pyIter_listiter st h
def tE{P:Ju}{w:JV}{K:J1}{tg:pv}(a it:pd):Turn P w K tg (Itt K a) [it] it (λi h=>h.IsTupleIter it a i) where
 mem:=by simp
 obj:=λi h st b f=>by
  let e:b=it:=‹f›
  subst e
  let[o,e,c,d]:=st
  exact #[o,e,λv z=>by rw[d]at z;cases z]
 keep:=λi h l st k=>st.at λo e=>k it (_) o e
 item:=by
  intro X q r t J i MP s σ H E I m st y
  subst q r t
  let[xs,x,n,hx]:=y
  let[g,A,p,L]:=I.tuple n
  let[u,M,N]:=A.get hx
  let[B,C,O,D,F,G]:=m it (_)
  refine wpAny_pyNext_tuple_item st (show s.heap.IsTuple a g.toArray from p) (x:=u) ‹M› λl j Q=>?_
  let R:Inv X MP σ H { s with heap:=l }:=I.turned (t':=s.toks) (λb o f e=>(Q.2 b f).trans e) B C D F G
  let[o,e,c,d]:=id j
  exact #[u,5,yk (s:={ s with heap:=l }) e c d ⋯ #[x,H,R,N,#[5,λT S=>by rw[I.nD S n];exact hx],j,λb f=>(m b f).1]]
 done:=by
  intro X q r t J i MP s σ H E I m st y
  subst q r t
  let[xs,n,hx]:=y
  let[g,A,p,L]:=I.tuple n
  let[B,C,O,D,F,G]:=m it (_)
  let U:=A.length
  exact wpAny_pyNext_tuple_end (I.ok.hd J) st (show s.heap.IsTuple a g.toArray from p) (by simp;omega) λl eb=>#[5,I.turned (t':=s.toks) (λb o f e=>eb b o f e) B C D F G]
 self:=λ_ _ _ _ _ st h=>wpAny_pyIter_tupleiter st h
def sX{P:Ju}{w:JV}{K:J1}{tg:pv}(it:pd)(d:Int)(n:Nat):Turn P w K tg (SW d n) [it] it (λi h=>IsRangeIter h it (d+(i:Nat)*1) ((n:Int)-(i:Nat)) 1) where
 mem:=by simp
 obj:=λi h st b a=>by
  let e:b=it:=‹a›
  subst e
  exact #[_,st,λv z=>by
   let C:Data.fields _=Data.cell v:=z
   cases C]
 keep:=λi h f st k=>k it (_) _ st
 item:=by
  intro X j l m p i MP s σ H E I g st q
  subst j l m
  let[r,u,D,x,y,A]:=g it (_)
  let W:=Walks.range (prog:=X.prog) (w:=X.w) (I.ok.hd p) it d 1 n
  refine W.item i s _ _ q st λv f B hv c F=>?_
  let[t,5]:=hv
  let G:Inv X MP σ H { s with heap:=f,toks:=B }:=I.turned (λb o a e=>F b o ‹a› e) r u x y A
  refine #[7,yk (s:={ s with heap:=f,toks:=B }) (n:="range_iterator") c rfl rfl ⋯ #[.int (d+i),H,G,#[t,?_],#[5,rfl],c,λb a=>(g b a).1]]
  rw[Int.mul_one]
 done:=by
  intro X j l m p i MP s σ H E I g st q
  subst j l m
  let[r,u,D,x,y,A]:=g it (_)
  exact wpAny_pyNext_range_end (I.ok.hd p) st (by have:n<=i:=q;omega) λf eb=>#[5,I.turned (t':=s.toks) (λb o a e=>eb b o a e) r u x y A]
 self:=λ_ _ _ _ _ st h=>wpAny_pyIter_rangeiter st h
section
variable{X:Cx}{tg:pv}
def Ae{MP:p4}{σ:St}{H:Hp}{s:J5}{R:It->Hp->Prop}{E:J3->J5->Prop}{a c:Int}{t u v:Tok}{tk:Nat}(I:Inv X MP σ H s)(h1:-(2^62)<=a)(h2:a<2^62)(f:-(2^62)<=c)(g:c<2^62)
 (q:R (SW a (c-a).toNat) H):Jj (Jn X.prog X.w) X.A (pyIter (.ref s.z)) (PIE X MP σ tg R) E { s with heap:=s.heap.push { cls:=.type "range",data:=.fields (List.toArray [.int a t,.int c u,.int 1 v]) },toks:=tk }:=by
 refine wpAny_pyIter_range (IsRange.new ..) (small_one h1 h2 f g) ?_
 let d:Inv X MP σ H { s with heap:=s.heap.push { cls:=.type "range",data:=.fields (List.toArray [.int a t,.int c u,.int 1 v]) },toks:=tk }:=I.kept λb o e=>J6 _ e
 refine #[(s.heap.push { cls:=.type "range",data:=.fields (List.toArray [.int a t,.int c u,.int 1 v]) }).objs.size,[(s.heap.push { cls:=.type "range",data:=.fields (List.toArray [.int a t,.int c u,.int 1 v]) }).objs.size],_,_,H,5,
  d.kept (t':=tk) λb o e=>J6 _ e,sX _ a (c-a).toNat,?_,λb h=>?_,q]
 .have e1:a+((0:Nat):Int)*1=a:=by simp
  let e2:(((c-a).toNat:Nat):Int)-((0:Nat):Int)=Builtin.Range.rangeSize a c 1:=by rw[rangeSize_one];split<;>omega
  show IsRangeIter _ _ (a+((0:Nat):Int)*1) ((((c-a).toNat:Nat):Int)-((0:Nat):Int)) 1
  rw[e1,e2]
  exact Jh _ rfl
 .have e:b=(s.heap.push { cls:=.type "range",data:=.fields (List.toArray [.int a t,.int c u,.int 1 v]) }).objs.size:=‹h›
  subst e
  exact d.oV (Je _) (d.hok.fresh (Je _))
def HJ(a:TA):TI:=λσ H R=>a σ H λvs H1=>∃j:Int,vs=[.int j]/\-(2^62)<=j/\j<2^62/\R (SW 0 j.toNat) H1
def nO{a:pv}{d:TA}{p pos:Pos}(f:Gl X "range")(g:X.mg "range"=MB)(i:PA X [a] d)(k:Jk [a] X.env=[(MD,eval a X.env)]:=by rfl):PI X tg (.Call (.Name "range" p) [a] [] pos) (HJ d):=by
 intro MP s σ H R I h;refine Call_ (gc I f g boot_range (KI (NJ (i pos MP s σ H _ I h) λus u b=>?_) k rfl));let[vs,H1,l,m,c]:=b;let[j,e,c,n,q]:=c;subst e;cases m with
 |cons r o=>
  cases o
  let[t,5]:=r
  exact call_range_1 (Ae l () () c n ‹q›)
def IY(e:TI)(g:TG)(f:TS):TS:=λD σ H=>e σ H λJ H1=>∃W:Nat->Nat->St->Hp->Prop,(∃m,W 0 m σ H1)/\∀i m σ H,W i m σ H->
 (J.stop i H/\D.nx σ H)\/(J.go i H/\∃N:St->Hp->Prop,(∀a b,N a b->∃d,d<m/\W (i+1) d a b)/\∀x b,J.yld i H x b->g x σ b λc h=>f { D with nx:=N,ct:=N,bk:=D.nx } c h)
def gW(fp:rp)(h:pq):p4:=fp.filterMap λb=>(h.get? b).map λo=>(b,o)
theorem bH{fp:rp}{h:pq}{b:pd}{o:Obj}(a:b∈fp)(e:h.get? b=MA o):(b,o)∈gW fp h:=List.mem_filterMap.mpr #[b,a,by rw[e];rfl]
def wz{fp:rp}{h:pq}{p:pd×Obj}(a:p∈gW fp h):p.1∈fp/\h.get? p.1=MA p.2:=by
 let[b,c,e]:=List.mem_filterMap.mp a;cases q:h.get? b with
 |none=>rw[q]at e;cases e
 |some o=>
  rw[q]at e
  let d:(b,o)=p:=Option.some.inj e
  subst d
  exact #[c,q]
theorem Inv.pinned{MP:p4}{σ:St}{H:Hp}{s:J5}{fp:rp}(I:Inv X MP σ H s)(f:∀b∈fp,cB X MP H b)(g:∀b∈fp,∃o,s.heap.get? b=MA o/\∀v,o.data≠.cell v):Inv X (MP++gW fp s.heap) σ H s:=
 I.tY λp h=>(Jv.mp h).elim (λz=>I.pin p (Jt _ z)) λz=>by
  let[a,e]:=wz z
  let[i,j,k,_]:=f p.1 a
  let[o,c,d]:=g p.1 a
  rw[e]at c;cases c
  exact #[e,i,j,k,d]
theorem Inv.eG{MP pl:p4}{σ:St}{H:Hp}{s:J5}(I:Inv X (MP++pl) σ H s):Inv X MP σ H s:=I.tY λp a=>I.pin p (Jt _ (List.mem_append_left _ a))
def zI{c:pv}{body:ri}{Y:TI}{g:TG}{Z:TS}{pos:Pos}(K:PassesOwn (Jn X.prog X.w) X.A X.env X.xe)(hc:X.calm=MC)(hi:PI X tg c Y)(hg:PG X tg g)(j:PM X body Z)
 (hs:∀x,JG c X.env x=pure x:=by intro _;rfl):PS X (.For tg c body [] pos) (IY Y g Z):=by
 intro MP s σ H D I h
 refine wpAny_For (NJ (hi MP s σ H _ I h) λv s1 h1=>NJ h1 λa0 s2 h2=>?_) hs
 obtain⟨it,fp,tn,J,H2,e,I2,T,S9,f2,W,⟨m0,w0⟩,L⟩:=h2
 subst e
 let k:∀{z:Hp},(∀b∈fp,z b=MB)->∀b∈fp,cB X MP z b:=λhn b j=>#[hn b j,(f2 b j).2]
 refine codeAny_forLoop_any (λn s'=>∃i l z,Inv X MP l z s'/\tn i s'.heap/\(∀b∈fp,z b=MB)/\W i n l z) ?_ m0 #[0,σ,H2,I2,S9,λb j=>(f2 b j).1,w0]
 rintro n s3 ⟨i,p,P,I3,SQ,M,w3⟩
 rcases L i n p P w3 with⟨stop,qn⟩|⟨go,N,hN,step⟩
 .refine LP K (NJ (T.done X rfl rfl rfl hc i MP s3 p P X.xe I3 (k M) SQ stop) λr s4 B=>?_)
  let[Q,I4]:=B
  subst Q
  exact wpAny_execs_nil #[p,P,I4,qn]
 .refine LP K (NJ (T.item X rfl rfl rfl hc i MP s3 p P X.xe I3 (k M) SQ go) λr s4 C=>?_)
  let[u,Q,h4]:=C
  subst Q
  refine LP K (NJ h4 λ_ s5 E=>?_)
  let[x,H5,I5,r5,y5,Ot,R]:=E
  let S:=I5.pinned (k R) (T.obj _ _ Ot)
  refine LP K (NJ (hg _ s5 p H5 x u _ S r5 (step x H5 y5)) λ_ s6 F=>?_)
  let[U,H6,I6,q6]:=F
  refine LP K (NJ (j _ s6 U H6 _ I6 q6) λf V G=>?_)
  let q:∀{a:St}{t:Hp},Inv X (MP++gW fp s5.heap) a t V->N a t->∃m,m<n/\∃i l z,Inv X MP l z V/\tn i V.heap/\(∀b∈fp,z b=MB)/\W i m l z:=λ{a t} y O=>by
   let[m',hm,w7]:=hN a t O
   refine #[m',hm,i+1,a,t,y.eG,T.keep _ _ _ Ot λb j o e=>(y.pin (b,o) (Jt _ (Jt _ (bH j e)))).1,λb j=>?_,w7]
   let[o,e,d]:=T.obj _ _ Ot b j
   exact(y.pin (b,o) (Jt _ (Jt _ (bH j e)))).2.1
  cases f with
  |next=>let[a,t,y,O]:=G;exact q y O
  |cont=>let[a,t,y,O]:=G;exact q y O
  |brk=>let[a,t,y,G]:=G;exact #[a,t,y.eG,G]
  |ret v=>let[x7,a,t,y,r7,G]:=G;exact #[x7,a,t,y.eG,r7,G]
end
def wy{h:Int}{n:Nat}{g:TG}{k:TS}{D:Ends}{σ:St}{H:Hp}(a:Nat->St->Hp->Prop)(h0:a 0 σ H)
 (o:∀i σ H,i<n->a i σ H->g (.int (h+i)) σ H λb j=>k { D with nx:=a (i+1),ct:=a (i+1),bk:=D.nx } b j) (hd:∀σ H,a n σ H->D.nx σ H) :
 ∃W:Nat->Nat->St->Hp->Prop,(∃m,W 0 m σ H)/\∀i m σ H,W i m σ H->
  ((SW h n).stop i H/\D.nx σ H)\/((SW h n).go i H/\∃N:St->Hp->Prop,(∀c d,N c d->∃l,l<m/\W (i+1) l c d)/\∀x d,(SW h n).yld i H x d->g x σ d λb j=>k { D with nx:=N,ct:=N,bk:=D.nx } b j):=by
 refine #[λi m σ H=>m=n-i/\i<=n/\a i σ H,#[n,by simp,K3 _,h0],?_]
 rintro i m σ H ⟨rfl,r,p⟩
 by_cases f:i<n
 .refine .inr #[f,a (i+1),λc d q=>#[n-(i+1),(),5,f,q],λx d y=>?_]
  let[e,y]:=y
  subst e y
  exact o i σ _ f p
 .have e:i=n:=()
  subst e
  exact .inl #[Je _,hd σ H p]
abbrev R2:=V->V->Hp->VK->Prop
def Nq(X:Cx)(f:J3->J3->Sem J3)(r:R2):Prop:=
 ∀(MP:p4)(s:J5)(σ:St)(H:Hp)(x y:V)(v u:J3)(Q:VK),Inv X MP σ H s->RelV x v->RelV y u->r x y H Q->
  Jj (Jn X.prog X.w) X.A (f v u) (EP X MP σ Q) X.xe s
def Xi(X:Cx)(f:J3->Sem J3)(r:V->Hp->VK->Prop):Prop:=
 ∀(MP:p4)(s:J5)(σ:St)(H:Hp)(x:V)(v:J3)(Q:VK),Inv X MP σ H s->RelV x v->r x H Q->
  Jj (Jn X.prog X.w) X.A (f v) (EP X MP σ Q) X.xe s
def bS(X:Cx)(f:J3)(r:r4->Hp->VK->Prop):Prop:=
 ∀(MP:p4)(s:J5)(σ:St)(H:Hp)(xs:r4)(us:List J3)(Q:VK),Inv X MP σ H s->Vals xs us->r xs H Q->
  Jj (Jn X.prog X.w) X.A (call f us) (EP X MP σ Q) X.xe s
def HZ(X:Cx)(r:V->Hp->(Bool->Hp->Prop)->Prop):Prop:=
 ∀(MP:p4)(s:J5)(σ:St)(H:Hp)(x:V)(v:J3)(Q:Bool->Hp->Prop),Inv X MP σ H s->RelV x v->r x H Q->
  Jj (Jn X.prog X.w) X.A (truthy v) (TP X MP σ Q) X.xe s
def SX(r:R2)(a b:TE):TE:=λσ H Q=>a σ H λx H1=>b σ H1 λy c=>r x y c Q
def tUn(r:V->Hp->VK->Prop)(a:TE):TE:=λσ H Q=>a σ H λx H1=>r x H1 Q
def rI(C:Int->Int->Prop)(g:Int->Int->V):R2:=λx y H Q=>∃i j,x=.int i/\y=.int j/\C i j/\Q (g i j) H
def R3(g:Int->Int->V):R2:=λx y H Q=>∃i j,x=.int i/\y=.int j/\Q (g i j) H
def rU(g:Int->V):V->Hp->VK->Prop:=λx H Q=>∃i,x=.int i/\Q (g i) H
section
variable{X:Cx}{a b c:pv}{ta tb tc:TE}{pos:Pos}
def C7(l:PE X a ta)(m:PE X b tb){MP:p4}{s:J5}{σ:St}{H:Hp}{R:V->V->Hp->Prop}(I:Inv X MP σ H s) (h:ta σ H λx H1=>tb σ H1 λy g=>R x y g) {Q:J3->J5->Prop} {f:J3->J3->Sem J3} (n:∀v u k x y g,Inv X MP σ g k->RelV x v->RelV y u->R x y g->Jj (Jn X.prog X.w) X.A (f v u) Q X.xe k) : Jj (Jn X.prog X.w) X.A (eval a X.env) (λv i=>Jj (Jn X.prog X.w) X.A (eval b X.env) (λu j=>Jj (Jn X.prog X.w) X.A (f v u) Q X.xe j) X.xe i) X.xe s:=by refine NJ (l MP s σ H _ I h) λv o d=>?_;let[x,H1,p,q,r]:=d;refine NJ (m MP o σ H1 _ p r) λu k e=>?_;let[y,g,t,z,B]:=e;exact n v u k x y g t q z B
def FI{op:Operator}{r:R2}(d:Nq X (Ll op) r)(e:PE X a ta)(f:PE X b tb):PE X (.BinOp a op b pos) (SX r ta tb):=by intro MP s σ H Q I h;exact wpAny_BinOp (C7 e f I h λv u g x y i j k l q=>d MP g σ i x y v u Q j k l q)
def FZ{op:UnaryOp}{r:V->Hp->VK->Prop}(e:Xi X (unaryOp op) r)(f:PE X a ta):PE X (.UnaryOp op a pos) (tUn r ta):=by intro MP s σ H Q I h;exact UnaryOp_ (NJ (f MP s σ H _ I h) λv g d=>by let[x,H1,i,j,k]:=d;exact(e MP g σ H1 x v Q i j k))
def Xx{f:J3->J3->Sem J3}{C:Int->Int->Prop}{g:Int->Int->Int} (d:∀(i j:Int)(t u:Tok)(s:J5)(Q:J3->J5->Prop)(E:J3->J5->Prop),C i j->Q (.int (g i j) s.toks) { s with toks:=s.toks+1 }->Jj (Jn X.prog X.w) X.A (f (.int i t) (.int j u)) Q E s) : Nq X f (rI C λi j=>.int (g i j)):=by intro MP s σ H x y v u Q I e k h;let[i,j,5,5,l,q]:=h;let[t,5]:=e;let[m,5]:=k;exact d i j t m s _ _ l #[.int (g i j),H,I.tok _,#[_,rfl],q]
def E9{f:J3->J3->Sem J3}{g:Int->Int->Int} (d:∀(i j:Int)(t u:Tok)(s:J5)(Q:J3->J5->Prop)(E:J3->J5->Prop),Q (.int (g i j) s.toks) { s with toks:=s.toks+1 }->Jj (Jn X.prog X.w) X.A (f (.int i t) (.int j u)) Q E s) : Nq X f (R3 λi j=>.int (g i j)):=by intro MP s σ H x y v u Q I e k h;let[i,j,5,5,q]:=h;let[t,5]:=e;let[l,5]:=k;exact d i j t l s _ _ #[.int (g i j),H,I.tok _,#[_,rfl],q]
def EX{f:J3->J3->Sem J3}{g:Int->Int->Bool} (d:∀(i j:Int)(t u:Tok)(s:J5)(Q:J3->J5->Prop)(E:J3->J5->Prop),Q (.bool (g i j)) s->Jj (Jn X.prog X.w) X.A (f (.int i t) (.int j u)) Q E s) : Nq X f (R3 λi j=>.bl (g i j)):=by intro MP s σ H x y v u Q I e k h;let[i,j,5,5,q]:=h;let[t,5]:=e;let[l,5]:=k;exact d i j t l s _ _ #[.bl (g i j),H,I,5,q]
def FW(i j:Int):Prop:=0<=j/\j<=1000000/\i.natAbs<2^64
theorem DZ:Nq X (Ll .Add) (R3 λi j=>.int (i+j)):=E9 λ_ _ _ _ _ _ _ q=>add_int q
theorem DM:Nq X (Ll .Sub) (R3 λi j=>.int (i-j)):=E9 λ_ _ _ _ _ _ _ q=>sub_int q
theorem AS:Nq X (Ll .Mod) (rI (λ_ j=>j≠0) λi j=>.int (i.fmod j)):=Xx λ_ _ _ _ _ _ _ d q=>mod_int' d q
theorem DJ:Nq X (Ll .Pow) (rI FW λi j=>.int (i^j.toNat)):=Xx λ_ _ _ _ _ _ _ d q=>pow_int_small d.1 d.2.1 d.2.2 q
theorem Dx:Nq X (Ll .BitXor) (R3 λi j=>.int (Builtin.bitXor i j)):=E9 λ_ _ _ _ _ _ _ q=>xor_int q
def unI{f:J3->Sem J3}{g:Int->Int} (d:∀(i:Int)(t:Tok)(s:J5)(Q:J3->J5->Prop)(E:J3->J5->Prop),Q (.int (g i) s.toks) { s with toks:=s.toks+1 }->Jj (Jn X.prog X.w) X.A (f (.int i t)) Q E s) : Xi X f (rU λi=>.int (g i)):=by intro MP s σ H x v Q I e h;let[i,5,q]:=h;let[t,5]:=e;exact d i t s _ _ #[.int (g i),H,I.tok _,#[_,rfl],q]
theorem Ey:Xi X (unaryOp .USub) (rU λi=>.int (-i)):=unI λ_ _ _ _ _ q=>neg_int q
end
section
variable{X:Cx}{a b c:pv}{ta tb tc:TE}{pos:Pos}
theorem F8:Nq X (JY .Lt) (R3 λi j=>.bl (decide (i<j))):=EX λ_ _ _ _ _ _ _ q=>lt_int q
theorem Hg:Nq X (JY .LtE) (R3 λi j=>.bl (decide (i<=j))):=EX λ_ _ _ _ _ _ _ q=>le_int q
theorem GU:Nq X (JY .Gt) (R3 λi j=>.bl (decide (j<i))):=EX λ_ _ _ _ _ _ _ q=>gt_int q
def Nq.or{f:J3->J3->Sem J3}{r d:R2}(h:Nq X f r)(h':Nq X f d):Nq X f (λx y H Q=>r x y H Q\/d x y H Q):=by
 intro MP s σ H x y v u Q I e g q;rcases q with q|q
 .exact h MP s σ H x y v u Q I e g q
 .exact h' MP s σ H x y v u Q I e g q
def yf(b:pv){op:CmpOp}(h:op≠.In:=by decide)(h2:op≠.NotIn:=by decide):LY op b=MD:=by
 let e1:(op==CmpOp.In)=MD:=by cases op<;>first|rfl|exact absurd rfl h
 let e2:(op==CmpOp.NotIn)=MD:=by cases op<;>first|rfl|exact absurd rfl h2
 cases b<;>simp[LY,e1,e2]
def BA{op:CmpOp}{r:R2}(d:Nq X (JY op) r)(e:PE X a ta)(f:PE X b tb)(g:LY op b=MD):PE X (.Compare a [op] [b] pos) (SX r ta tb):=by intro MP s σ H Q I h;exact wpAny_Compare1 (C7 e f I h λv u i x y j k l m q=>d MP i σ j x y v u Q k l m q) g
def yQ(t:TE):TT:=λσ H Q=>t σ H λx d=>∃k,x=.bl k/\Q k d
def B2{op:CmpOp}{r:R2}(d:Nq X (JY op) r)(f:PE X a ta)(g:PE X b tb)(i:LY op b=MD):PT X (.Compare a [op] [b] pos) (yQ (SX r ta tb)):=by intro MP s σ H Q I h;refine wpAny_isTrue_Compare1 (NJ (f MP s σ H _ I h) λv j ⟨x,H1,l,m,n⟩=>NJ (g MP j σ H1 _ l n) λu o ⟨y,p,q,t,w⟩=>NJ (d MP o σ p x y v u _ q m t w) λc E ⟨z,A,B,C,k,e,D⟩=>?_) i;subst e;cases C;exact KW #[A,B,D]
def yh(r e:R2)(ta tb tc:TE):TE:=λσ H Q=>ta σ H λx H1=>tb σ H1 λy f=>r x y f λz d=>∃k,z=.bl k/\
 (if k=MC then tc σ d λg h=>e y g h Q else Q (.bl MD) d)
def yB{op g:CmpOp}{r j:R2}(p:Nq X (JY op) r)(i:Nq X (JY g) j)(q:PE X a ta)(t:PE X b tb)(w:PE X c tc) (A:lastMarks [op,g] [b,c]=MD:=by with_unfolding_all rfl):PT X (.Compare a [op,g] [b,c] pos) (yQ (yh r j ta tb tc)):=by
 intro MP s σ H Q I h;refine isTrue_chain (NJ (q MP s σ H _ I h) λv B ⟨x,H1,C,D,E⟩=>test_link (NJ (t MP B σ H1 _ C E) λu F ⟨y,G,J,l,K⟩=>NJ (p MP F σ G x y v u _ J D l K) λd L ⟨z,m,n,M,k,e,o⟩=>?_)) A;subst e;cases M;refine KW ?_;cases k with
 |false=>
  let[k',N,O]:=o
  cases N
  exact ite_ff #[m,n,O]
 |true=>
  refine ite_tt (test_last (NJ (w MP L σ m _ n o) λP R ⟨S,T,U,V,W⟩=>NJ (i MP R σ T y S u P _ U l V W) λd' s5 f=>?_))
  let[z2,Y,Z,r5,k2,e2,q5]:=f
  subst e2
  cases r5
  exact KW #[Y,Z,q5]
def Hh(K:J1)(x:V)(H:Hp)(k:Bool):Prop:=
 match x with
 |.non=>k=MD
 |.bl b=>k=b
 |.int i=>k=(i != 0)
 |.str y=>y.length<=Jo/\k=((y.length:Int) != 0)
 |.byt y=>y.size<=Jo/\k=((y.size:Int) != 0)
 |.ref p=>(∃xs,NX K H p xs/\k=!xs.isEmpty)\/(∃xs,NW K H p xs/\k=!xs.isEmpty)\/∃kvs,H p=MA (.dK kvs)/\k=!kvs.isEmpty
 |_=>False
def sV{κ:Type}{kvs:List (κ×V)}{vs:List (κ×J3)}(r:KV kvs vs):(!vs.isEmpty)=!kvs.isEmpty:=by cases r<;>rfl
def lT{xs:r4}{its:List J3}(r:Vals xs its):(!its.toArray.isEmpty)=!xs.isEmpty:=by cases r<;>simp
def jU:(Jo:Nat)<2^63:=by rw[Kv];decide
def C3:HZ X (λx H Q=>∃k,Hh X.K x H k/\Q k H):=by
 intro MP s σ H x v Q I g h;let[k,e,q]:=h;let z:=jU;let A:Jo=16777216:=Kv;cases x with
 |non=>
  cases g
  let d:k=MD:=e
  subst d
  exact truthy_none #[H,I,q]
 |bl b=>
  cases g
  let d:k=b:=e
  subst d
  exact KW #[H,I,q]
 |int i=>
  let[t,5]:=g
  let d:k=(i != 0):=e
  subst d
  exact PySem.P.truthy_int #[H,I,q]
 |str y=>
  let[t,5]:=g
  obtain⟨o,d⟩:y.length<=Jo/\k=((y.length:Int) != 0):=e
  subst d
  exact PySem.P.truthy_str () #[H,I.tok _,q]
 |byt y=>
  let[t,5]:=g
  obtain⟨o,d⟩:y.size<=Jo/\k=((y.size:Int) != 0):=e
  subst d
  exact PySem.W.truthy_bytes () #[H,I.tok _,q]
 |ref p=>
  cases g
  let d:(∃xs,NX X.K H p xs/\k=!xs.isEmpty)\/(∃xs,NW X.K H p xs/\k=!xs.isEmpty)\/∃kvs,H p=MA (.dK kvs)/\k=!kvs.isEmpty:=e
  rcases d with⟨xs,hx,d⟩|⟨xs,hx,d⟩|⟨kvs,hx,d⟩
  .subst d;let[j,r,l,n]:=I.list hx;let f:=r.length;exact wpAny_truthy_list l.isList (by simp only[Jl];omega) #[H,I.tok _,by rw[lT r];exact q]
  .subst d;let[j,r,l,n]:=I.tuple hx;let f:=r.length;exact truthy_tuple l (by simp only[Jl];omega) #[H,I.tok _,by rw[lT r];exact q]
  .subst d;obtain⟨n,u,vs,r,m⟩:kvs.length<=Jo/\(p==L8)=MD/\∃vs,KV kvs vs/\s.heap.DictOf (bX X.prog X.w) p vs:=I.hok p _ hx;let f:kvs.length=vs.length:=Paired.length r;exact wpAny_truthy_dict u m () #[H,I.tok _,by rw[sV r];exact q]
 |_=>exact(show False from e).elim
def xJ(g:PE X a ta)(i:∀d,isTrue a X.env d=(do let v <-d;standAt a.pos;holding [v] (truthy v))) :
 PT X a (λσ H Q=>ta σ H λx f=>∃k,Hh X.K x f k/\Q k f):=by
 intro MP s σ H Q I h
 exact isTrue_plain (NJ (g MP s σ H _ I h) λv j e=>by let[x,H1,l,m,n]:=e;exact(C3 MP j σ H1 x v Q l m n)) (i _)
def vals1{x:V}{us:List J3}(r:Vals [x] us):∃u,us=[u]/\RelV x u:=by
 cases r with
 |cons d e=>cases e;exact #[7,d]
def vals2{x y:V}{us:List J3}(r:Vals [x,y] us):∃u d,us=[u,d]/\RelV x u/\RelV y d:=by
 cases r with
 |cons e f=>
  cases f with
  |cons g h=>cases h;exact #[_,7,e,g]
def yT:bS X (.builtin "abs") (λxs H Q=>∃i,xs=[.int i]/\Q (.int (if i<0 then -i else i)) H):=by intro MP s σ H xs us Q I r h;let[i,5,q]:=h;let[u,5,t,5]:=vals1 r;exact call_abs_int λu d=>#[.int (if i<0 then -i else i),H,I.tok _,#[_,rfl],q]
def v8(e:X.calm=MC):bS X (.builtin "max") (λxs H Q=>∃i j,xs=[.int i,.int j]/\Q (.int (if j>i then j else i)) H):=by
 intro MP s σ H xs us Q I r h;let[i,j,5,q]:=h;obtain⟨u,f,rfl,⟨t,rfl⟩,⟨g,rfl⟩⟩:=vals2 r;refine max_two_ints (I.ok.hd e) λl m k=>#[_,H,I.kept k,?_,q];by_cases d:j>i
 .rw[MF d,MF d];exact #[_,rfl]
 .rw[ME d,ME d];exact #[_,rfl]
def wQ(e:X.calm=MC):bS X (.builtin "min") (λxs H Q=>∃i j,xs=[.int i,.int j]/\Q (.int (if j<i then j else i)) H):=by
 intro MP s σ H xs us Q I r h;let[i,j,5,q]:=h;obtain⟨u,f,rfl,⟨t,rfl⟩,⟨g,rfl⟩⟩:=vals2 r;refine min_two_ints (I.ok.hd e) λl m k=>#[_,H,I.kept k,?_,q];by_cases d:j<i
 .rw[MF d,MF d];exact #[_,rfl]
 .rw[ME d,ME d];exact #[_,rfl]
def ve:bS X (.type "int") (λxs H Q=>(∃i,xs=[.int i]/\Q (.int i) H)\/∃k,xs=[.bl k]/\Q (.int (if k then 1 else 0)) H):=by
 intro MP s σ H xs us Q I r h;rcases h with⟨i,rfl,q⟩|⟨k,rfl,q⟩
 .obtain⟨u,rfl,t,rfl⟩:=vals1 r;exact call_int_int #[.int i,H,I,#[_,rfl],q]
 .obtain⟨u,rfl,d⟩:=vals1 r;cases d;exact call_int_bool #[.int (if k then 1 else 0),H,I.tok _,#[_,rfl],q]
end
structure Pu(h:pq)(x dx C:pd)(mA:Str->Option J3):Prop where
 obj:h.get? x=MA (LB C dx)
 ns:h.Ns1 dx mA
 ne:dx≠x
def we{h:pq}{c:pd}{mA:Str->Option J3}(n:h.Ns1 c mA):∃od,h.get? c=MA od/\∀name,PySem.W.lookIn name od=MA (mA name):=by
 let[o,d,l,f,hd,g,_,i]:=n;refine #[o,f,λname=>?_];let e:=i name;unfold nsFind findBy at e;rw[<-Array.find?_toList]at e;unfold PySem.W.lookIn;rw[hd];dsimp only;split
 .rename_i y q;rw[q]at e;exact congrArg MA e
 .rename_i q;rw[q]at e;let a:d.toList.any (·.refKey)=MD:=by rw[List.any_eq_false];intro y j;let[z,t,b]:=g y (Array.mem_toList_iff.mp j);simp[DictEntry.refKey,b]
  let k:¬d.toList.any (·.refKey)=MC:=by rw[a];exact Js
  rw[ME k];exact congrArg MA e
theorem Pu.look{h:pq}{x a C:pd}{mA:Str->Option J3}(I:Pu h x a C mA):∃od,PySem.W.InstAt h x (LB C a) C (MA od)/\∀name,PySem.W.lookIn name od=MA (mA name):=
 let⟨od,b,c⟩:=we I.ns
 #[od,#[I.obj,5,5,b],c]
section
variable{prog:Ju}{w:JV}{A:JP}{E:J3->J5->Prop}{s:J5}{K:J1}{x dx C f:pd}{mA:Str->Option J3}{name:Str}{v:J3}
def get_map{a:Bool}{Q:J3->J5->Prop}(X:K.In s.heap)(I:Pu s.heap x dx C mA)(c:PySem.W.plainGet K C name=MC)(d:PySem.W.hasDictIn K C=MC) (e:KC K (.ref C) name=MA MB) (hv:mA name=MA v) (b:PySem.W.handedIn v=MC) (h:Q v { s with toks:=s.toks+1 }) : Jj (Jn prog w) A (getAttr (.ref x) name a) Q E s:=by let[od,J,g]:=I.look;exact PySem.W.get_value X J (PySem.W.plainGet_of c).1 (PySem.W.findObj_own d e rfl (by rw[g,hv])) b h
def xD{pl:Sem Bool}{Q:J3×List J3->J5->Prop}(X:K.In s.heap)(I:Pu s.heap x dx C mA)(a:PySem.W.plainGet K C name=MC) (b:KC K (.ref C) name=MA (MA (.ref f))) (c:PySem.W.isFn K (.ref f)=MC) (hv:mA name=MB) (h:Q (.ref f,[.ref x]) s) : Jj (Jn prog w) A (getMethod (.ref x) name pl) Q E s:=by let[od,J,d]:=I.look;exact PySem.W.method_fn X J (PySem.W.plainGet_of a).1 (PySem.W.plainGet_of a).2 b (beq_iff_eq.mp c) (by show(PySem.W.lookIn name od).map (·.isSome)=MA MD;rw[d,hv];rfl) h
def Bm{ns:rq}{Q:Unit->J5->Prop}(X:K.In s.heap)(I:Pu s.heap x dx C mA)
 (k:KC K (.ref C) "__setattr__"=MA (MA (.builtin "object.__setattr__"))) (l:PySem.W.plainOver K C=MC) (m:PySem.W.takerIn K C name=MA MB) (n:PySem.W.hasDictIn K C=MC)
 (hw:PySem.Within mA ns) (hsz:ns.length<=Jo)
 (h:∀h',Pu h' x dx C (λy=>if y=name then MA v else mA y)->Lg dx s.heap h'->Q ⟨⟩ { s with heap:=h',toks:=s.toks+2 }) :
 Jj (Jn prog w) A (setAttr (.ref x) name v) Q E s:=by
 let[od,J,t]:=I.look
 refine PySem.W.set_plain X J k (PySem.W.osa_open (s:={ s with toks:=s.toks+1 }) (r:=MB) X J l m λb=>?_)
 let[u,o,e]:=PySem.W.any_some n
 let hx:s.heap.get? x=MA #[.ref C,MA dx,.plain,#[]]:=I.obj
 refine J0 (J9 (J0 (J0 (wpAny_loadPart hx (J0 (PySem.W.Looks.here (s:={ s with toks:=s.toks+1 }) (PySem.W.looks_clsIn X o) ?_))))))
 rw[e]
 refine J9 (a:=MA dx) (J0 (J9 (J0 ?_)))
 refine wpAny_nsSet1 (s:={ s with toks:=s.toks+1 }) I.ns λh' c d=>?_
 let[z,p,q,g,i,j]:=c.count (PySem.Within.cons name v hw)
 refine J0 (wpAny_lookBehind g (by rw[i];exact pastItsLine_dict (JT j (by rw[Jz];omega))) ?_)
 exact J9 (h _ #[(d.2 _ (Ne.symm I.ne)).trans I.obj,c,I.ne] d)
def zx{R:Result->J5->Prop}{vs:List J3}{a:List (Str×J3)}(X:K.In s.heap)(b:PySem.W.makesIn K C=MC)
 (c:KC K (.ref C) "__init__"=MA (MA (.ref f))) (e:PySem.W.typeIn K (.ref f)=MA (.type "function"))
 (h:Lh (Jn prog w) (A.under (.builtin "type.__call__" #[.ref C::vs,a])) (.call (.ref f) #[.ref (s.z+1)::vs,a]) (PySem.W.InitBack (s.z+1) R)
  { s with heap:=(s.heap.push KY).push (LB C s.z) }) :
 Lh (Jn prog w) A (.call (.ref C) #[vs,a]) R s:=by
 let[i,g,d,t,os]:=s
 exact PySem.W.make_core (PySem.W.makes_of X b) (PySem.W.looks_findIn X c) (λself=>PySem.W.bind_fn X self e) (.inl rfl) h
end
def fR(f:Str)(v:V):List (Str×V)->List (Str×V)
 |[]=>[(f,v)]
 |(g,x)::r=>if g=f then(g,v)::r else(g,x)::fR f v r
theorem ko(f g:Str)(v:V):∀fs:List (Str×V),(fR f v fs).lookup g=if g=f then MA v else fs.lookup g
 |[]=>by
  show List.lookup g [(f,v)]=_
  by_cases h:g=f
  .have a:(g==f)=MC:=beq_iff_eq.mpr h
   simp only[List.lookup,a,MF h]
  .have a:(g==f)=MD:=beq_eq_false_iff_ne.mpr h
   simp only[List.lookup,a,ME h]
 |(k,x)::r=>by
  let c:=ko f g v r
  rw[show fR f v ((k,x)::r)=(if k=f then(k,v)::r else(k,x)::fR f v r)from rfl]
  by_cases b:k=f
  .rw[MF b]
   by_cases h:g=k
   .have a:(g==k)=MC:=beq_iff_eq.mpr h
    simp only[List.lookup,a,MF (h.trans b)]
   .have a:(g==k)=MD:=beq_eq_false_iff_ne.mpr h
    simp only[List.lookup,a,ME (λe:g=f=>h (e.trans b.symm))]
  .rw[ME b]
   by_cases h:g=k
   .have a:(g==k)=MC:=beq_iff_eq.mpr h
    simp only[List.lookup,a,ME (λe:g=f=>b (h.symm.trans e))]
   .have a:(g==k)=MD:=beq_eq_false_iff_ne.mpr h
    simp only[List.lookup,a]
    exact c
theorem jz(f:Str)(v:V):∀fs:List (Str×V),f∈(fR f v fs).map (·.1)/\∀g,g∈fs.map (·.1)->g∈(fR f v fs).map (·.1)
 |[]=>#[by simp[fR],λg h=>by simp at h]
 |(k,x)::r=>by
  let[b,c]:=jz f v r
  rw[show fR f v ((k,x)::r)=(if k=f then(k,v)::r else(k,x)::fR f v r)from rfl]
  by_cases a:k=f
  .rw[MF a]
   subst a
   exact #[by simp,λg h=>‹h›]
  .rw[ME a]
   refine #[?_,λg h=>?_]
   .rw[Ji]
    exact K0 _ b
   .rw[Ji]at h ⊢
    rcases JM.mp h with e|e
    .exact JM.mpr (.inl e)
    .exact K0 _ (c g e)
theorem kD(f:Str)(v:V):∀fs:List (Str×V),(fR f v fs).length<=fs.length+1
 |[]=>by simp[fR]
 |(k,x)::r=>by
  let b:=kD f v r
  rw[show fR f v ((k,x)::r)=(if k=f then(k,v)::r else(k,x)::fR f v r)from rfl]
  by_cases a:k=f
  .rw[MF a,Jz,Jz];omega
  .rw[ME a,Jz,Jz];omega
def jd.some_of{v:V}{o:Option J3}(r:jd (MA v) o):∃u,o=MA u/\RelV v u:=by
 cases o with
 |none=>exact(show False from r).elim
 |some u=>exact #[u,5,r]
def jd.none_of{o:Option J3}(r:jd MB o):o=MB:=by
 cases o with
 |none=>rfl
 |some u=>exact(show False from r).elim
def vX{v:V}{u:J3}(r:RelV v u):PySem.W.handedIn u=MC:=by
 cases v with
 |non=>cases (show u=L7 from r);rfl
 |bl b=>cases (show u=Value.bool b from r);rfl
 |int i=>let[t,e]:=(show ∃t,u=Value.int i t from r);cases e;rfl
 |str x=>let[t,e]:=(show ∃t,u=Value.str x t from r);cases e;rfl
 |byt b=>let[t,e]:=(show ∃t,u=Value.bytes b t from r);cases e;rfl
 |flt b=>let[t,e]:=(show ∃t,u=Value.float b t from r);cases e;rfl
 |ref a=>cases (show u=Kd a from r);rfl
 |ty n=>cases (show u=Mo n from r);rfl
section
variable{P:Ju}{w:JV}{H H':Hp}{h h':pq}{a C dx:pd}{fs MM:List (Str×V)}
def oW(hok:OD P w H h)(e:H a=MA (.ins C dx fs)):∃mA,Pu h a dx C mA/\(∀f,jd (fs.lookup f) (mA f))/\PySem.Within mA (fs.map (·.1))/\fs.length<=1000/\H dx=MA (.own a):=by let[d,z,ne,b,mA,n,r,q]:=(show bL P w H h a (.ins C dx fs)from hok a _ e);exact #[mA,#[b,n,ne],r,q,z,d]
end
structure Cls(K:J1)(C:pd):Prop where
 pg:PySem.W.plainGet K C Str.empty=MC
 hd:PySem.W.hasDictIn K C=MC
 po:PySem.W.plainOver K C=MC
 sa:KC K (.ref C) "__setattr__"=MA (MA (.builtin "object.__setattr__"))
theorem Cls.get{K:J1}{C:pd}(c:Cls K C)(f:Str):PySem.W.plainGet K C f=MC:=c.pg
def bR(K:J1)(C:pd)(f:Str):Prop:=KC K (.ref C) f=MA MB
def bR.Gz{K:J1}{C:pd}{f:Str}(n:bR K C f):PySem.W.takerIn K C f=MA MB:=by unfold PySem.W.takerIn;rw[show KC K (.ref C) f=MA MB from n];rfl
structure Meth(K:J1)(C:pd)(m:Str)(f:pd):Prop where
 at_:KC K (.ref C) m=MA (MA (.ref f))
 fn:PySem.W.isFn K (.ref f)=MC
 kp:Ky K (.ref f)=MC
section
variable{X:Cx}{MP:p4}{σ:St}{H:Hp}{s:J5}{a C dx:pd}{fs:List (Str×V)}{f:Str}{v:V}{A:JP}{E:J3->J5->Prop}
def tJ{b:Bool}{Q:J3->J5->Prop}(I:Inv X MP σ H s)(e:H a=MA (.ins C dx fs))(c:Cls X.K C)(n:bR X.K C f)(l:fs.lookup f=MA v) (h:∀u d,Inv X MP σ H d->RelV v u->Q u d):Jj (Jn X.prog X.w) A (getAttr (.ref a) f b) Q E s:=by let[mA,O,r,_,_,_]:=oW I.hok e;let[u,i,g]:=jd.some_of (v:=v) (o:=mA f) (by rw[<-l];exact r f);exact get_map I.kIn O (c.get f) c.hd n i (vX g) (h u _ (I.tok _) g)
def so{m:Str}{g:pd}{pl:Sem Bool}{Q:J3×List J3->J5->Prop}(I:Inv X MP σ H s)(e:H a=MA (.ins C dx fs))(c:Cls X.K C)(k:Meth X.K C m g)(l:fs.lookup m=MB)
 (h:Q (.ref g,[.ref a]) s):Jj (Jn X.prog X.w) A (getMethod (.ref a) m pl) Q E s:=by
 let[mA,O,r,_,_,_]:=oW I.hok e
 let b:mA m=MB:=jd.none_of (by rw[<-l];exact r m)
 exact xD I.kIn O (c.get m) k.at_ k.fn b h
def sG{y:V}{u:J3}{Q:Unit->J5->Prop}(I:Inv X MP σ H s)(e:H a=MA (.ins C dx fs))(c:Cls X.K C)(n:bR X.K C f)(G:fs.length<1000)(l:RelV y u)
 (h:∀i,Inv X MP σ (upd H a (.ins C dx (fR f y fs))) i->Q .unit i):Jj (Jn X.prog X.w) A (setAttr (.ref a) f u) Q E s:=by
 let[mA,O,r,j,_,k]:=oW I.hok e
 let m:(fs.map (·.1)).length<=Jo:=by rw[J4,Kv];omega
 refine Bm I.kIn O c.sa c.po n.Gz c.hd j m λp d t=>h _ ?_
 let hd:∃o,p.get? dx=MA o:=let⟨o,_,_,B,_⟩:=d.ns;#[o,B]
 refine I.write (x:=a) (e:=dx) (by rw[e];exact LJ) (.inr k) (λb q D z=>(t.2 b D).trans z) hd ?_
 refine #[by rw[aE O.ne];exact k,?_,O.ne,d.obj,_,d.ns,λg=>?_,λg F=>?_]
 .have:=kD f y fs;omega
 .show jd ((fR f y fs).lookup g) (if g=f then MA u else mA g)
  rw[ko]
  by_cases q:g=f
  .rw[MF q,MF q];exact l
  .rw[ME q,ME q];exact r g
 .by_cases q:g=f
  .rw[q];exact(jz f y fs).1
  .refine(jz f y fs).2 g (j g λz=>F ?_)
   show(if g=f then MA u else mA g)=MB
   rw[ME q];exact z
def Inv.made(I:Inv X MP σ H s):Inv X MP σ (upd (upd H s.z (.own (s.z+1))) (s.z+1) (.ins C s.z []))
 { s with heap:=(s.heap.push KY).push (LB C s.z) }:=by
 let e1:(s.heap.push KY).get? s.z=MA KY:=Jh s.heap rfl
 let e2:((s.heap.push KY).push (LB C s.z)).get? (s.z+1)=MA (LB C s.z):=by
  have:=Jh (s.heap.push KY) (o:=LB C s.z) rfl
  rwa [Kz]at this
 let e3:(s.heap.push KY).Ns s.z (λ_=>MB):=#[KY,#[],_,e1,5,(λe c=>absurd c (_)),λ_=>rfl]
 let d:=I.laid (a:=s.z) (o:=.own (s.z+1)) (h':=s.heap.push KY) (t':=s.toks) (λb u q=>J6 _ q) (Je _) #[_,e1]
 refine d.laid (a:=s.z+1) (o:=.ins C s.z []) (t':=s.toks) (λb u q=>J6 _ q) (Nat.le_of_eq (Kz _ _)) ?_
 let ne:s.z≠s.z+1:=JF (Nat.lt_succ_self _)
 refine #[by rw[aE ne,aF],K3 _,ne,e2,λ_=>MB,(Heap.Ns1.of_empty e3).at λo q=>J6 _ q,λ_=>LJ,λy g=>absurd rfl g]
theorem Bg{prog:Ju}{w:JV}{env:Env}{e:pv}{f:Str}{pos:Pos}{s:J5}{Q:J3->J5->Prop}(c:Lf e f env (eval e env)=eval e env) (h:Jj (Jn prog w) A (eval e env) (λo b=>Jj (Jn prog w) A (getAttr o f MC) Q E b) E s):Jj (Jn prog w) A (eval (.Attribute e f pos) env) Q E s:=Attribute_any_ h (by rw[arm_eval_Attribute,c])
end
def IP(K:J1)(b:TE)(f:Str):TE:=λσ H Q=>b σ H λx H1=>∃a C c fs v,x=.ref a/\H1 a=MA (.ins C c fs)/\Cls K C/\bR K C f/\fs.lookup f=MA v/\Q v H1
def HM(K:J1)(d e:TE)(f:Str):TS:=λD σ H=>e σ H λy H1=>d σ H1 λx b=>∃a C c fs,x=.ref a/\b a=MA (.ins C c fs)/\Cls K C/\bR K C f/\fs.length<1000/\
 D.nx σ (upd b a (.ins C c (fR f y fs)))
section
variable{X:Cx}{o e value:pv}{f:Str}{pos pos' MR:Pos}{ta tv:TE}
def EW(d:PE X e ta)(g:Lf e f X.env (eval e X.env)=eval e X.env):PE X (.Attribute e f pos) (IP X.K ta f):=by intro MP s σ H Q I h;refine Bg g (NJ (d MP s σ H _ I h) λu p b=>?_);let[x,H1,i,j,a,C,r,fs,v,ex,ea,c,n,l,q]:=b;subst ex;obtain rfl:u=Kd a:=j;exact tJ i ea c n l λt w k m=>#[v,H1,k,m,q]
def Dy(d:PE X o ta)(hv:PE X value tv)(g:La value (MA (.Attribute o f pos')) pos.line X.env=pure MD):PS X (.Assign [.Attribute o f pos'] value pos) (HM X.K ta tv f):=by intro MP s σ H D I h;refine plainObj_wpAny_Assign_Attribute (NJ (hv MP s σ H _ I h) λu i ⟨y,H1,j,k,q⟩=>NJ (d MP i σ H1 _ j q) λm w b=>?_) g;let[x,z,p,r,a,C,A,fs,ex,ea,c,n,l,t]:=b;subst ex;obtain rfl:m=Kd a:=r;exact sG p ea c n l k λB v=>#[σ,_,v,t]
end
structure NL(k:Nat)(A:JP):Prop where
 hd:A.handled=MB
 dp:A.depth+3*k+5<recursionLimit
 un:A.units+16*k+200<Kh
 gd:A.guards=MA []
theorem NL.mono{j k:Nat}{A:JP}(r:NL k A)(h:j<=k):NL j A:=#[r.hd,by have:=r.dp;omega,by have:=r.un;omega,r.gd]
theorem NL.deeper{k:Nat}{A:JP}(r:NL (k+1) A)(env:Env):NL k (A.deeper env):=#[r.hd,by have:=r.dp;show A.depth+1+3*k+5<_;omega,by have:=r.un;show A.units+3+16*k+200<_;omega,r.gd]
theorem NL.in1{k:Nat}{A:JP}(r:NL (k+1) A):NL k A.in1:=#[r.hd,by have:=r.dp;show A.depth+3*k+5<_;omega,by have:=r.un;show A.units+1+16*k+200<_;omega,r.gd]
def rO{A:JP}{C:pd}{us:List J3}{a:List (Str×J3)}:(A.under (.builtin "type.__call__" #[.ref C::us,a])).depth=A.depth+1:=by first|rfl|simp[Around.under,Code.weight,Code.isCreation,Code.isGuard,Code.isCaller,Code.frames,Code.isFrame,guardIds]
def sP{A:JP}{C:pd}{us:List J3}{a:List (Str×J3)}:(A.under (.builtin "type.__call__" #[.ref C::us,a])).units=A.units+1:=by first|rfl|simp[Around.under,Code.cUnits,Code.frames,Code.isFrame]
theorem NL.make{k:Nat}{A:JP}(r:NL (k+1) A)(C:pd)(us:List J3)(a:List (Str×J3)):NL k (A.under (.builtin "type.__call__" #[.ref C::us,a])):=#[r.hd,by have:=r.dp;rw[rO];omega,by have:=r.un;rw[sP];omega,by first|exact r.gd|(have:=r.gd;simpa[Around.under,Code.isGuard,guardIds]using this)]
def NL.depth{k:Nat}{A:JP}(r:NL k A):A.depth<recursionLimit:=by have:=r.dp;omega
def NL.units{k:Nat}{A:JP}(r:NL k A):A.units+64<Kh:=by have:=r.un;omega
def G8:TA:=λ_ H Q=>Q [] H
def FQ(a:TE)(b:TA):TA:=λσ H Q=>a σ H λx H1=>b σ H1 λxs c=>Q (x::xs) c
section
variable{X:Cx}{e:pv}{es:ro}{te:TE}{t:TA}{pos:Pos}
theorem yA:PA X [] G8:=λ_ _ _ _ H Q I h=>Calls.spliced_nil #[[],H,I,.nil,h]
def va(c:PE X e te)(d:PA X es t)(f:Jk (e::es) X.env=(MD,eval e X.env)::Jk es X.env:=by rfl):PA X (e::es) (FQ te t):=by intro pos MP s σ H Q I h;rw[f];show Jj _ _ (spliced ((MD,eval e X.env)::Kr pos (Jk es X.env))) _ _ s;refine Calls.spliced_cons (NJ (c MP s σ H _ I h) λu g a=>?_);let[x,H1,i,j,k]:=a;exact NJ (d pos MP g σ H1 _ i k) λus p b=>by let[xs,l,m,n,o]:=b;exact(#[x::xs,l,m,.cons j n,o])
def IV(t:TA):TE:=λσ H Q=>t σ H λxs H1=>xs.length<=Jo/\∀p,H1 p=MB->Q (.ref p) (upd H1 p (.tup xs))
def HW(t:TA):TE:=λσ H Q=>t σ H λxs H1=>xs.length<=Jo/\∀p,H1 p=MB->Q (.ref p) (upd H1 p (.lst xs))
def Dm{x1}(h:PA X es t):PE X (.Tuple es x1 pos) (IV t):=by intro MP s σ H Q I d;refine wpAny_Tuple_spliced (NJ (h pos MP s σ H _ I d) λus a ⟨xs,H1,c,r,z,q⟩=>#[by rw[<-r.length];exact z,?_]);let f:H1 a.z=MB:=c.hok.fresh (Je _);refine #[.ref a.z,upd H1 a.z (.tup xs),c.laid (t':=a.toks) (λb u e=>J6 _ e) (Je _) ?_,5,q _ f];exact #[z,us,r,#[_,Jh _ rfl,5,7],#[_,Jh _ rfl,rfl]]
def EH(h:PA X es t):PE X (.List es pos) (HW t):=by intro MP s σ H Q I d;refine wpAny_List_spliced (NJ (h pos MP s σ H _ I d) λus a ⟨xs,H1,c,r,z,q⟩=>#[by rw[<-r.length];exact z,?_]);let f:H1 a.z=MB:=c.hok.fresh (Je _);refine #[.ref a.z,upd H1 a.z (.lst xs),c.laid (t':=a.toks) (λb u e=>J6 _ e) (Je _) ?_,5,q _ f];exact #[z,us,0,r,Jh _ rfl]
end
abbrev Sp:=r4->Hp->VK->XK->Prop
abbrev Rc:=List Env->Hp->J5->XK->J3->J5->Prop
structure OX(P:Ju)(w:JV)(K:J1)(mg:Str->Option J3)(base:pq)(A:JP)(outer:List Env)(s:J5)(H:Hp):Prop where
 frames:A.frames=MA outer
 mod:Mod K mg base
 bs:∀b o,base.get? b=MA o->s.heap.get? b=MA o/\H b=MB
 bsz:base.objs.size<=s.z
 gP:s.heap.FunFrames base outer
 frf:∀b∈PL outer,H b=MB
 hok:OD P w H s.heap
 bare:AllBare s.gens
def CE(outer:List Env)(P:Ju)(w:JV)(H:Hp)(s:J5)(Q:VK)(u:J3)(a:J5):Prop:=
 ∃v b,a.os=s.os/\AllBare a.gens/\Un (PL outer) [] H b s.heap a.heap/\OD P w b a.heap/\RelV v u/\Q v b
def CR(CX:Rc)(outer:List Env)(P:Ju)(w:JV)(H:Hp)(s:J5)(Q:VK)(E:XK)(r:Result)(a:J5):Prop:=
 match r with
 |.ok (.ret u)=>CE outer P w H s Q u a
 |.ok _=>False
 |.error e=>CX outer H s E e a
structure Ni(P:Ju)(w:JV)(K:J1)(mg:Str->Option J3)(base:pq)(CX:Rc)(k:Nat)(f:pd)(fd:FuncData)(ps:rq)(sp:Sp):Prop where
 len:∀vs H Q E,sp vs H Q E->vs.length=ps.length
 run:∀(A:JP)(outer:List Env)(s:J5)(H:Hp)(args:Args)(us:List J3)(vs:r4)(Q:VK)(E:XK),NL k A->OX P w K mg base A outer s H->BindsTo s fd args (ps.zip us)->Vals vs us->sp vs H Q E->
  Lh (Jn P w) A (.call (.ref f) args) (CR CX outer P w H s Q E) s
theorem Ni.mono{P:Ju}{w:JV}{K:J1}{mg:Str->Option J3}{base:pq}{CX:Rc}{j k:Nat}{f:pd}{fd:FuncData}{ps:rq}{sp:Sp}(F:Ni P w K mg base CX j f fd ps sp)(h:j<=k) : Ni P w K mg base CX k f fd ps sp:=#[F.len,λA outer s H args us vs Q E a=>F.run A outer s H args us vs Q E (a.mono h)]
theorem OX.make{P:Ju}{w:JV}{K:J1}{mg:Str->Option J3}{base:pq}{A:JP}{outer:List Env}{s:J5}{H:Hp}(e:OX P w K mg base A outer s H)(C:pd)(us:List J3)(a:List (Str×J3)) : OX P w K mg base (A.under (.builtin "type.__call__" #[.ref C::us,a])) outer s H:=#[by first|exact e.frames|(simpa[Around.under,Code.envs,Code.isFrame,pushEnvs]using e.frames),e.mod,e.bs,e.bsz,e.gP,e.frf,e.hok,e.bare]
section
variable{X:Cx}{MP:p4}{σ:St}{H:Hp}{s s':J5}
theorem Inv.Fh(I:Inv X MP σ H s):OX X.prog X.w X.K X.mg X.base X.A X.stack s H:=#[I.ok.frames,I.ok.mod,I.bs,JT I.ok.bsz I.sz,I.stack,I.uU,I.hok,I.bare]
def Inv.after{Q:VK}{u:J3}(I:Inv X MP σ H s)(h:CE X.stack X.prog X.w H s Q u s'):EP X MP σ Q u s':=by let[v,c,os,bare,un,hok,r,q]:=h;let[e,g,d,t,a]:=s';obtain rfl:a=s.os:=os;exact #[v,c,I.call (h':=e) (g':=g) (d':=d) (t':=t) (ch:=[]) un hok bare (λb z=>absurd z (_)),r,q]
end
def GL(sp:Sp)(a:r4)(E:XK)(t:TA):TE:=λσ H Q=>t σ H λvs H1=>sp (vs++a) H1 Q E
def GG(C:pd)(m:Str)(sp:Sp)(b:r4)(E:XK)(c:TE)(t:TA):TE:=λσ H Q=>c σ H λx H1=>∃a d fs,x=.ref a/\H1 a=MA (.ins C d fs)/\fs.lookup m=MB/\
 t σ H1 λvs e=>sp (x::(vs++b)) e Q E
def Hw(C:pd)(sp:Sp)(b:r4)(E:XK)(t:TA):TE:=λσ H Q=>t σ H λvs H1=>∀x a,H1 x=MB->H1 a=MB->a≠x->
 sp (.ref x::(vs++b)) (upd (upd H1 a (.own x)) x (.ins C a [])) (λv c=>v=.non/\Q (.ref x) c) E
def Binds(K:J1)(fd:FuncData)(ps:rq)(ds:List J3):Prop:=
 ∀(s:J5)(us:List J3),K.In s.heap->(us++ds).length=ps.length->BindsTo s fd #[us,[]] (ps.zip (us++ds))
theorem Binds.all{K:J1}{fd:FuncData}{ps:rq}(h:∀us:List J3,us.length=ps.length->LR fd #[us,[]]=pure (ps.zip us)):Binds K fd ps []:=λs us _ a=>by rw[KD]at a ⊢;exact .of_eq (h us a)
def Passes(CX:Rc)(X:Cx)(E:XK):Prop:=∀(MP:p4)(σ:St)(H:Hp)(s:J5)(e:J3)(a:J5),Inv X MP σ H s->CX X.stack H s E e a->X.xe e a
section
variable{X:Cx}{CX:Rc}{k:Nat}{f C:pd}{fd:FuncData}{ps:rq}{sp:Sp}{MS:r4}{ds:List J3}{E:XK}{x m:Str}{p pos apos:Pos}{e o:pv}{es:ro}{ta:TE}{t:TA}
def tK{MP:p4}{σ:St}{H:Hp}{s:J5}{Q:VK}{us:List J3}{vs:r4}(F:Ni X.prog X.w X.K X.mg X.base CX k f fd ps sp)(c:NL k X.A)(d:Binds X.K fd ps ds)(hd:Vals MS ds)(hx:Passes CX X E)
 (I:Inv X MP σ H s) (r:Vals vs us) (h:sp (vs++MS) H Q E):Jj (Jn X.prog X.w) X.A (call (.ref f) us) (EP X MP σ Q) X.xe s:=by
 let b:Vals (vs++MS) (us++ds):=r.append hd
 let g:(us++ds).length=ps.length:=by rw[<-b.length];exact F.len _ _ _ _ h
 refine wpAny_call (codeAny_mono (F.run X.A X.stack s H #[us,[]] (us++ds) (vs++MS) Q E c I.Fh (d s us I.kIn g) b h) λr i a=>?_)
 cases r with
 |error e=>exact hx MP σ H s e i I a
 |ok j=>
  cases j with
  |ret u=>exact I.after a
  |next=>exact Jy a
  |brk=>exact Jy a
  |cont=>exact Jy a
def AD(F:Ni X.prog X.w X.K X.mg X.base CX k f fd ps sp)(d:NL k X.A)(g:Gl X x)(i:X.mg x=MA (.ref f))(j:Ky X.K (.ref f)=MC)(l:Binds X.K fd ps ds)(hd:Vals MS ds)(hx:Passes CX X E) (n:PA X (e::es) t) (a:(x==("__debug__":Str))=MD:=by decide) (u:Jk (e::es) X.env=(MD,eval e X.env)::Jk es X.env:=by rfl) (b:(Kr pos (Jk es X.env)).any (·.1)=MD:=by rfl) : PE X (.Call (.Name x p) (e::es) [] pos) (GL sp MS E t):=by intro MP s σ H Q I h;refine Ln (pb I g i ?_ a);refine PySem.W.callWith_K (h₀:=X.base) I.ok.mod.kin j (NJ (n pos MP s σ H _ I h) λus v ⟨vs,H1,c,r,q⟩=>#[c.kIn,?_]) u b;exact tK F d l hd hx c r q
def zT{pl:Sem Bool}(i:PE X o ta)(c:Cls X.K C)(g:Meth X.K C m f)(F:Ni X.prog X.w X.K X.mg X.base CX k f fd ps sp)(j:NL k X.A)(n:Binds X.K fd ps ds)(hd:Vals MS ds)(hx:Passes CX X E)
 (r:eval (.Call (.Attribute o m apos) [] [] pos) X.env=(do
  let ov <-eval o X.env
  standAt apos.atName
  let(f,first) <-holding [ov] (getMethod ov m pl)
  callWith pos f first (Kr pos (Jk [] X.env)) (Mf pos (Lb [] X.env))):=by rfl) :
 PE X (.Call (.Attribute o m apos) [] [] pos) (GG C m sp MS E ta G8):=by
 intro MP s σ H Q I h
 refine PySem.W.methodCall_KW (pl:=pl) (NJ (i MP s σ H _ I h) λu y b=>?_) r
 let[x,H1,d,v,a,z,fs,ex,ea,l,q]:=b
 subst ex
 obtain rfl:u=Kd a:=v
 refine so d ea c g l ?_
 exact PySem.W.callWith_K0 (first:=[.ref a]) d.kIn g.kp (tK (us:=[.ref a]) (vs:=[.ref a]) F j n hd hx d (.cons rfl .nil) q)
structure Mk(K:J1)(C f:pd):Prop where
 makes:PySem.W.makesIn K C=MC
 init:KC K (.ref C) "__init__"=MA (MA (.ref f))
 fn:PySem.W.isFn K (.ref f)=MC
 kp:Ky K (.ref C)=MC
def yG{MP:p4}{σ:St}{H:Hp}{s:J5}{Q:VK}{us:List J3}{vs:r4}(M:Mk X.K C f)(F:Ni X.prog X.w X.K X.mg X.base CX k f fd ps sp)(i:NL (k+1) X.A)(j:Binds X.K fd ps ds)(hd:Vals MS ds)
 (hx:Passes CX X E) (I:Inv X MP σ H s) (r:Vals vs us)
 (h:∀x b,H x=MB->H b=MB->b≠x->sp (.ref x::(vs++MS)) (upd (upd H b (.own x)) x (.ins C b [])) (λv l=>v=.non/\Q (.ref x) l) E) :
 Jj (Jn X.prog X.w) X.A (call (.ref C) us) (EP X MP σ Q) X.xe s:=by
 let d:=h (s.z+1) s.z (I.hok.fresh (Mn _)) (I.hok.fresh (Je _)) (JF (Nat.lt_succ_self _))
 let c:=Inv.made (C:=C) I
 let g:Vals (V.ref (s.z+1)::(vs++MS)) (Kd (s.z+1)::(us++ds)):=.cons rfl (r.append hd)
 let n:(Kd (s.z+1)::us++ds).length=ps.length:=by
  let e:=g.length
  rw[F.len _ _ _ _ d]at e
  exact e.symm
 refine wpAny_call (zx (f:=f) I.kIn M.makes M.init (beq_iff_eq.mp M.fn) (codeAny_mono (F.run _ X.stack _ _ #[Kd (s.z+1)::us,[]] (Kd (s.z+1)::(us++ds)) _ _ E (i.make C us [])
  (c.Fh.make C us []) (j _ (Kd (s.z+1)::us) c.kIn n) g d) λr q a=>?_))
 cases r with
 |error e=>exact hx MP σ _ _ e q c a
 |ok y=>
  cases y with
  |ret u=>
   let[v,z,B,D,G,J]:=c.after a
   subst G
   exact #[D,#[V.ref (s.z+1),z,B,5,J]]
  |next=>exact Jy a
  |brk=>exact Jy a
  |cont=>exact Jy a
def Bv(M:Mk X.K C f)(F:Ni X.prog X.w X.K X.mg X.base CX k f fd ps sp)(d:NL (k+1) X.A)(g:Gl X x)(i:X.mg x=MA (.ref C))(j:Binds X.K fd ps ds)(hd:Vals MS ds)(hx:Passes CX X E) (l:PA X (e::es) t) (a:(x==("__debug__":Str))=MD:=by decide) (n:Jk (e::es) X.env=(MD,eval e X.env)::Jk es X.env:=by rfl) (b:(Kr pos (Jk es X.env)).any (·.1)=MD:=by rfl) : PE X (.Call (.Name x p) (e::es) [] pos) (Hw C sp MS E t):=by intro MP s σ H Q I h;refine Ln (pb I g i ?_ a);refine PySem.W.callWith_K (h₀:=X.base) I.ok.mod.kin M.kp (NJ (l pos MP s σ H _ I h) λus u ⟨vs,H1,c,r,q⟩=>#[c.kIn,?_]) n b;exact yG M F d j hd hx c r q
end
structure NB(N P:rq)(sc:L9):Prop where
 kind:sc.kind=.function
 co:sc.isCoroutine=MD
 gen:sc.isGenerator=MD
 nd:N.Nodup
 pre:N.take P.length=P
 par:∀x∈P,sc.names.lookup x=MA .local\/sc.names.lookup x=MA .cell
 nofree:∀y∈sc.names,y.2≠.free
theorem nP{kindOf:Str->Option Lu}{x:Str}:∀{binds:List (Str×J3)} {m:Str->Option J3},(∀v,(x,v)∉binds)->bindL kindOf binds m x=m x
 |[],_,_=>rfl
 |(n,v)::r,m,h=>by
  unfold bindL
  rw[nP λw a=>h w (K0 _ a)]
  split
  .have:x≠n:=by rintro rfl;exact h v KO
   simp[this]
  .rfl
theorem ny{kindOf:Str->Option Lu}{x:Str}:∀{binds:List (Str×J3)} {m:Str->Option J3},(∀v,(x,v)∉binds)->bindC kindOf binds m x=m x
 |[],_,_=>rfl
 |(n,v)::r,m,h=>by
  unfold bindC
  rw[ny λw a=>h w (K0 _ a)]
  split
  .rfl
  .have:x≠n:=by rintro rfl;exact h v KO
   simp[this]
theorem nW{kindOf:Str->Option Lu}{x:Str}{v:J3}:∀{P:rq}{vs:List J3}{i:Nat}{m:Str->Option J3},P.Nodup->P[i]?=MA x->vs[i]?=MA v->kindOf x=MA .local->
 bindL kindOf (P.zip vs) m x=MA v
 |[],_,_,_,_,h,_,_=>by simp at h
 |_::_,[],_,_,_,_,h,_=>by simp at h
 |p::P,w::vs,0,m,nd,h1,h2,hk=>by
  simp at h1 h2;subst h1;subst h2
  show bindL kindOf ((p,w)::P.zip vs) m p=_
  unfold bindL
  rw[nP λv hv=>(LC.mp nd).1 (List.of_mem_zip hv).1,MF hk]
  simp
 |p::P,w::vs,i+1,m,nd,h1,h2,hk=>by
  show bindL kindOf ((p,w)::P.zip vs) m x=_
  unfold bindL
  exact nW (i:=i) (LC.mp nd).2 ‹h1› ‹h2› hk
theorem nt{kindOf:Str->Option Lu}{x:Str}{v:J3}:∀{P:rq}{vs:List J3}{i:Nat}{m:Str->Option J3},P.Nodup->P[i]?=MA x->vs[i]?=MA v->kindOf x≠MA .local->
 bindC kindOf (P.zip vs) m x=MA v
 |[],_,_,_,_,h,_,_=>by simp at h
 |_::_,[],_,_,_,_,h,_=>by simp at h
 |p::P,w::vs,0,m,nd,h1,h2,hk=>by
  simp at h1 h2;subst h1;subst h2
  show bindC kindOf ((p,w)::P.zip vs) m p=_
  unfold bindC
  rw[ny λv hv=>(LC.mp nd).1 (List.of_mem_zip hv).1,ME hk]
  simp
 |p::P,w::vs,i+1,m,nd,h1,h2,hk=>by
  show bindC kindOf ((p,w)::P.zip vs) m x=_
  unfold bindC
  exact nt (i:=i) (LC.mp nd).2 ‹h1› ‹h2› hk
def start(N:rq)(vs:r4):St:=vs.map MA++JJ (N.length-vs.length) MB
def gJ(CX:Rc)(P:Ju)(w:JV)(K:J1)(mg:Str->Option J3)(base:pq)(N:rq)(qual:Str)(scope:L9)(f:pd)(cd:J3)(A:JP)(outer:List Env)(s:J5)(H:Hp)(E:XK):Cx where
 prog:=P
 w:=w
 K:=K
 mg:=mg
 base:=base
 A:=A.deeper (Mg qual scope s.z f cd)
 N:=N
 s₀:=s
 H₀:=H
 env:=Mg qual scope s.z f cd
 outer:=outer
 stack:=Mg qual scope s.z f cd::outer
 ex:=[]
 calm:=MC
 fn:=λ_=>MC
 pn:=[]
 xe:=λe b=>Jj (Jn P w) (A.deeper (Mg qual scope s.z f cd)) (leaving (Mg qual scope s.z f cd) e) (λ_ a=>CX outer H s E e a) (λc a=>CX outer H s E c a) b
def lI{sc:L9}{n:Nat}{x:Str}(h:sc.names.lookup x=MA .cell):∃c,(KZ n sc.names []).lookup x=MA c:=by let q:=PySem.W.cellsFrom_some sc.names n [] (.inl h);exact Option.isSome_iff_exists.mp q
def wO{CX:Rc}{P:Ju}{w:JV}{K:J1}{mg:Str->Option J3}{base:pq}{N ps:rq}{qual:Str}{scope:L9}{f:pd}{cd:J3}{A:JP}{outer:List Env}{s t:J5}{H:Hp}{E:XK}{us:List J3}{vs:r4}
 (S:NB N ps scope) (hd:A.handled=MB) (d:OX P w K mg base A outer s H) (I:vs.length=ps.length) (r:Vals vs us)
 (x:InCallC s s.z (bindL (Mg qual scope s.z f cd).kindOf (ps.zip us) λ_=>MB) (KZ (s.z+1) scope.names []) (bindC (Mg qual scope s.z f cd).kindOf (ps.zip us) λ_=>MB) t) :
 Inv (gJ CX P w K mg base N qual scope f cd A outer s H E) [] (start N vs) H t:=by
 let D:ps.length<=N.length:=by have:=congrArg List.length S.pre;rw[Lc]at this;omega
 let[h1,J,5,B]:=x.done
 let g:∀b:pd,b∉(gJ CX P w K mg base N qual scope f cd A outer s H E).ex:=λb z=>absurd (show b∈([]:rp)from z) (_)
 refine #[#[d.mod,S.kind,5,5,Je _,λy z c h1 h2=>?_,λy j=>?_,λy c _ h=>?_,λ_=>hd,Around.frames_deeper d.frames,.inr #[5,rfl],λb z=>absurd z (g b),d.bs,d.bsz,λb _ _=>g b,λb z=>absurd z (g b),d.gP,d.frf],
  rfl,d.bare,Un.kept B,#[_,x.toInCall.ns,λi y v h1 h2 L=>?_],λy c h=>#[_,x.cell y c h],d.hok.fresh (Je _),λy c h=>?_,λp l=>absurd (show p∈([]:p4)from l) (_),d.hok.kept B,?_]
 .exact name_of_addr x.apart (JQ h1) (JQ h2)
 .have j:scope.names.lookup y=MA .cell\/scope.names.lookup y=MA .free:=j
  rcases j with j|j
  .exact lI j
  .exact absurd rfl (S.nofree _ (JQ j))
 .exact LF (x.above y c (JQ h))
 .have o:i<vs.length:=by
   unfold start at h2
   by_cases o:i<vs.length
   .exact o
   .rw[JR ‹o›]at h2
    rw[List.getElem?_replicate]at h2
    split at h2<;>cases h2
  let F:vs[i]?=MA v:=by
   unfold start at h2
   rw[JW ‹o›,Jf]at h2
   cases e:vs[i]? with
   |none=>rw[e]at h2;cases h2
   |some a=>rw[e]at h2;cases h2;rfl
  let[u,C,G]:=r.get F
  let l:ps[i]?=MA y:=by
   rw[<-S.pre,List.getElem?_take_of_lt ()];exact h1
  let m:ps.Nodup:=by rw[<-S.pre];exact S.nd.sublist (List.take_sublist _ _)
  exists u,G
  rcases S.par y (Jg l)with k|k
  .exact .inl #[k,nW m l C k]
  .obtain⟨c,e⟩:=lI (n:=s.z+1) k
   refine .inr #[.inl k,c,e,?_]
   let q:=x.cell y c e
   rw[nt m l C (by show scope.names.lookup y≠_;rw[k];decide)]at q
   exact q
 .exact d.hok.fresh (LF (x.above y c (JQ h)))
 .unfold start
  show _=N.length
  rw[Ke,J4,List.length_replicate]
  omega
def Ci{CX:Rc}{P:Ju}{w:JV}{K:J1}{mg:Str->Option J3}{base:pq}{k:Nat}{f:pd}{name qual:Str}{params:Arguments}{body:ri}{scope:L9}{G kV j L cdv ct oc:J3}{an od:Option pd}
 {osl:Array (Option J3)} {N ps:rq} {sp:Sp} (R:K.lookup f=MA #[oc,od,.func (Kc name qual params body scope G kV j L an cdv ct),osl]) (z:Lv K cdv qual=MC) (S:NB N ps scope)
 (len:∀vs H Q E,sp vs H Q E->vs.length=ps.length)
 (g:∀(A:JP)(outer:List Env)(s:J5)(H:Hp)(vs:r4)(Q:VK)(E:XK),NL k (A.deeper (Mg qual scope s.z f cdv))->sp vs H Q E->
  ∃t,PM (gJ CX P w K mg base N qual scope f cdv A outer s H E) body t/\t { nx:=λ_ d=>Q .non d,rt:=Q } (start N vs) H) :
 Ni P w K mg base CX (k+1) f (Kc name qual params body scope G kV j L an cdv ct) ps sp:=by
 refine #[len,λA outer s H args us vs Q E B l T r m=>?_]
 let U:=len _ _ _ _ m
 let M:K.In s.heap:=l.mod.kin.keeps λb o e=>(l.bs b o e).1
 let C:s.heap.NoLimit:=l.mod.nolimit.keeps λb o e=>(l.bs b o e).1
 let h:∀y∈ps.zip us,scope.names.lookup y.1=MA .local\/(scope.names.lookup y.1=MA .cell/\((KZ (s.z+1) scope.names []).lookup y.1).isSome=MC):=λa X=>by
  let[n,v]:=a
  rcases S.par n (List.of_mem_zip X).1 with q|q
  .exact .inl q
  .exact .inr #[q,PySem.W.cellsFrom_some _ _ _ (.inl q)]
 refine codeAny_call_function B.depth (M _ _ R) rfl S.co S.gen rfl (PySem.W.codeRec_of M z) (T _ _ _ _ ?_)
 refine wpAny_newFunctionEnv_cells S.kind h λenv Y O x=>?_
 subst Y
 refine #[C.keeps x.toInCall.keep,codeAny_func ?_]
 let[t,Z,hq]:=g A outer s H vs Q E (B.deeper _) m
 let I:Inv (gJ CX P w K mg base N qual scope f cdv A outer s H E) [] (start N vs) H O:=wO S B.hd l U r x
 refine Jp (Z [] O (start N vs) H _ I hq) (λfl D i=>?_) λe D i=>i
 let p:∀{c:St}{d:Hp}{v:V}{u:J3},Inv (gJ CX P w K mg base N qual scope f cdv A outer s H E) [] c d D->RelV v u->Q v d->CE outer P w H s Q u D:=
  λ{c d v u} J F q=>#[v,d,J.os,J.bare,J.base,J.hok,F,q]
 cases fl with
 |ret u=>
  let[v,c,d,J,F,q]:=i
  exact p J F q
 |next=>
  let[c,d,J,q]:=i
  exact p (v:=V.non) (u:=L7) J rfl q
 |brk=>
  let[_,_,_,q]:=i
  exact Jy q
 |cont=>
  let[_,_,_,q]:=i
  exact Jy q
section
variable{X:Cx}{x:Str}{p pos:Pos}{e:pv}{es:ro}{t:TA}{id T:String}{r:r4->Hp->VK->Prop}
def YE(r:r4->Hp->VK->Prop)(t:TA):TE:=λσ H Q=>t σ H λvs H1=>r vs H1 Q
def Ak(d:bS X (.builtin id) r)(f:Gl X x)(g:X.mg x=MB)(hv:Kq x=MA (.builtin id))(i:PA X (e::es) t)(j:x≠"__name__":=by decide)(b:(x==("__debug__":Str))=MD:=by decide) (k:Jk (e::es) X.env=(MD,eval e X.env)::Jk es X.env:=by rfl) (c:(Kr pos (Jk es X.env)).any (·.1)=MD:=by rfl):PE X (.Call (.Name x p) (e::es) [] pos) (YE r t):=by intro MP s σ H Q I h;refine Ln (gc I f g hv ?_ j b);exact PyProof.Rows.callWith_builtin1 (NJ (i pos MP s σ H _ I h) λus l a=>by let[vs,H1,m,n,o]:=a;exact(d MP l σ H1 vs us Q m n o)) k c
def nh(d:bS X (.type T) r)(f:Gl X x)(g:X.mg x=MB)(hv:Kq x=MA (.type T))(i:PA X (e::es) t)(j:x≠"__name__":=by decide)(b:(x==("__debug__":Str))=MD:=by decide) (k:Jk (e::es) X.env=(MD,eval e X.env)::Jk es X.env:=by rfl) (c:(Kr pos (Jk es X.env)).any (·.1)=MD:=by rfl):PE X (.Call (.Name x p) (e::es) [] pos) (YE r t):=by intro MP s σ H Q I h;refine Ln (gc I f g hv ?_ j b);exact KI (NJ (i pos MP s σ H _ I h) λus l a=>by let[vs,H1,m,n,o]:=a;exact(d MP l σ H1 vs us Q m n o)) k c
end
end L2
namespace HT
open PySem PyProof.Rows
def lexLt:q_->q_->Bool
 |[],[]=>MD
 |[],_::_=>MC
 |_::_,[]=>MD
 |x::xs,y::ys=>if x=y then lexLt xs ys else decide (x<y)
theorem sI(x y:Int)(xs a:q_):lexLt (x::xs) (y::a)=if x=y then lexLt xs a else decide (x<y):=rfl
theorem m5:lexLt [] []=MD:=rfl
theorem mx(y:Int)(a:q_):lexLt [] (y::a)=MC:=rfl
theorem mC(x:Int)(xs:q_):lexLt (x::xs) []=MD:=rfl
theorem qB(A:JP)(s:J5)(a:Int)(t:Tok)(c:Int)(u:Tok):∃e,SeqAt.EqAt A s (.int a t) (.int c u) e/\(e=MC↔a=c):=#[(a==c),SeqAt.EqAt.int_int a t c u,by simp]
theorem Aa(A:JP)(s:J5)(a:Int)(t:Tok)(c:Int)(u:Tok)(prog:Ju)(w:JV)(E:J3->J5->Prop)(Q:J3->J5->Prop)(h:Q (.bool (decide (a<c))) s) : Jj (Jn prog w) A (richCompare .Lt (.int a t) (.int c u)) Q E s:=(PyProof.Rows.lt_int h:Jj (Jn prog w) A (JY .Lt (.int a t) (.int c u)) Q E s)
section
open PySem.SeqAt
open PySem.AutoSeq1 (wpAny_loadPart')
open PySem.MeetsSeq PySem.MeetsSeq2 PySem.MeetsSeq3
theorem mS(l b:pd)(items f:Array J3)(n n2:Nat)(O H:Option pd)(P I:Array (Option J3))(ns ms:q_)(M:KN items.toList ns)(N:KN f.toList ms) :
 Meets (LM.«tuple.__lt__» #[[.ref l,.ref b],[]])
  (λ_ R s=>s.heap.get? l=MA { cls:=.type "tuple",dict:=O,data:=.seq items n,slots:=P }/\s.heap.get? b=MA { cls:=.type "tuple",dict:=H,data:=.seq f n2,slots:=I }/\
   R (.ok (.ret (.bool (lexLt ns ms)))) s):=
 .of_wp λprog w A R s h=>by
  let[F,g,d,G,os]:=s;let[Q,S,h]:=h
  let W:=AutoSeq1.sub_tuple_tuple
  let X:items.size=ns.length:=by rw[<-M.length];simp
  let Y:f.size=ms.length:=by rw[<-N.length];simp
  wp_walk using Kb Q,Kb S,wpAny_forIn_list _ (λp b J=>b.1=MB/\J=#[F,g,d,G,os]/\∃(vs ws:List J3) (j k:q_),p=vs.zip ws/\
   KN vs j/\KN ws k/\j.length+f.size=k.length+items.size/\R (.ok (.ret (.bool (lexLt j k)))) #[F,g,d,G,os]) _
  case turn=>
   rintro⟨y,x⟩ p b J ⟨z,rfl,vs,ws,j,k,m,B,o,i,r⟩
   cases B with
   |nil=>rw[List.zip_nil_left]at m;cases m
   |cons a t D=>
    cases o with
    |nil=>rw[List.zip_nil_right]at m;cases m
    |cons c u E=>
     rw[List.zip_cons_cons]at m
     injection m with K C
     injection K with T hx
     subst T hx
     rw[sI]at r
     simp only[Jz]at i
     let[e,U,v]:=qB A.in1 #[F,g,d,G,os] a t c u
     refine J0 (U prog w _ _ ?_)
     cases e with
     |true=>
      rw[MF (v.mp rfl)]at r
      wp_walk
      exact #[5,5,_,_,_,_,C,D,E,(),r]
     |false=>
      rw[ME (λq=>absurd (v.mpr q) Js)]at r
      let L:=Aa A.in1 #[F,g,d,G,os] a t c u prog w
      wp_walk using L
      exact #[7,‹r›]
  case fin=>
   rintro⟨b1,Z⟩ J ⟨z,rfl,vs,ws,j,k,m,B,o,i,r⟩
   simp only at z
   subst z
   let hv:lexLt j k=decide (items.size<f.size):=by
    cases B with
    |nil=>
     cases o with
     |nil=>
      simp only[List.length_nil]at i
      rw[m5]
      exact(MG ()).symm
     |cons c u V=>
      simp only[List.length_nil,Jz]at i
      rw[mx]
      exact(MI ()).symm
    |cons a t hv=>
     cases o with
     |nil=>
      simp only[List.length_nil,Jz]at i
      rw[mC]
      exact(MG ()).symm
     |cons c u V=>
      rw[List.zip_cons_cons]at m
      cases m
   rw[hv]at r
   wp_walk
   exact #[7,by simpa[Builtin.Tuple.tupleCompareSizes]using r]
  case h=>
   exact #[5,5,items.toList,f.toList,ns,ms,5,M,N,(),h]
end
section
variable{prog:Ju}{w:JV}{A:JP}{E:J3->J5->Prop}{s:J5}
def mf{l b:pd}{items a:Array J3}{ns ms:q_}{Q:J3->J5->Prop}(o:IsTup s.heap l items)(p:IsTup s.heap b a)(q:KN items.toList ns)(r:KN a.toList ms) (t:A.units<Kh) (h:Q (.bool (lexLt ns ms)) s):Jj (Jn prog w) A (JY .Lt (.ref l) (.ref b)) Q E s:=by obtain⟨⟨cls,u,data,v⟩,j,k,n,hd⟩:=id o;obtain⟨⟨m,f,g,i⟩,c,d,n2,e⟩:=id p;simp only at k hd d e;subst k hd d e;exact richCompare_meets_room (op:=.Lt) #[_,j,rfl] #[_,c,rfl] PySem.F.slot_tuple_lt PySem.F.entry_tuple_lt (PySem.F.args_tuple_lt_2 _ _) (mS l b items a n n2 u f v i ns ms q r) #[j,c,show Value.bool (lexLt ns ms)≠Value.notImplemented/\Q (.bool (lexLt ns ms)) s from #[(λx=>nomatch x),h]] t
def AN{t b:pd}{vs ws:List J3}{Q:J3->J5->Prop}(p:IsTup s.heap t vs.toArray)(q:IsTup s.heap b ws.toArray)(hv:vs≠[])
 (h1:ws=[]->Q (.ref t) s) (h2:ws≠[]->Q (.ref s.z) { s with heap:=s.heap.push { cls:=.type "tuple",data:=.seq (vs++ws).toArray } })
 (hsz:vs.length+ws.length<=Jo):Jj (Jn prog w) A (Ll .Add (.ref t) (.ref b)) Q E s:=by
 obtain⟨⟨cls,k,data,l⟩,h,m,n,hd⟩:=id p
 obtain⟨⟨o,c,j,d⟩,a,f,n2,g⟩:=id q
 simp only at m hd f g
 subst m hd f g
 let e:vs.toArray++ws.toArray=(vs++ws).toArray:=by simp
 by_cases i:ws=[]
 .exact concat_meets #[_,h,rfl] #[_,a,rfl] noFill_tuple_add seq_tuple_add PySem.F.slot_tuple_add PySem.F.entry_tuple_add (PySem.F.args_tuple_add_2 _ _)
   (tuple_addW1 t b vs.toArray ws.toArray n n2 k c l d ‹hv› (by simp[i])) #[h,a,h1 i]
 .refine concat_meets #[_,h,rfl] #[_,a,rfl] noFill_tuple_add seq_tuple_add PySem.F.slot_tuple_add PySem.F.entry_tuple_add (PySem.F.args_tuple_add_2 _ _)
   (tuple_addW2 t b vs.toArray ws.toArray n n2 k c l d ‹hv› ‹i› (by rw[Jl,Jl];exact hsz)) #[h,a,?_]
  rw[e]
  exact h2 i
def sIx(n d:Nat):rf->Nat
 |none=>d
 |some v=>if v<0 then(v+(n:Int)).toNat else min v.toNat n
theorem z5(n d:Nat):sIx n d MB=d:=rfl
def By(n d k:Nat):sIx n d (MA (k:Int))=min k n:=by show(if(k:Int)<0 then((k:Int)+(n:Int)).toNat else min (k:Int).toNat n)=min k n;rw[ME (),Kl]
def DH(n d:Nat)(hd:d<=n)(o:rf):sIx n d o<=n:=by
 cases o with
 |none=>exact hd
 |some v=>
  show(if v<0 then(v+(n:Int)).toNat else min v.toNat n)<=n
  by_cases hv:v<0
  .rw[MF hv];omega
  .rw[ME hv];exact Nat.min_le_right _ _
def uT(v:Int)(n d:Nat):(if v<0 then max (v+(n:Int)) 0 else min v (n:Int))=((sIx n d (MA v):Nat):Int):=by
 show(if v<0 then max (v+(n:Int)) 0 else min v (n:Int))=(((if v<0 then(v+(n:Int)).toNat else min v.toNat n):Nat):Int);by_cases hv:v<0
 .simp only[MF hv];omega
 .simp only[ME hv];omega
def tP(a b:rf)(n:Nat):Builtin.Slice.sliceAdjust a b 1 (n:Int)=(((sIx n 0 a:Nat):Int),((sIx n n b:Nat):Int)):=by
 let h1:¬((1:Int)<0):=()
 unfold Builtin.Slice.sliceAdjust;simp only[h1,if_false];refine Prod.ext ?_ ?_
 .cases a with
  |none=>rfl
  |some v=>exact uT v n 0
 .cases b with
  |none=>rfl
  |some v=>exact uT v n n
def tm(i j:Nat):Builtin.Slice.slicePlaces (i:Int) (j:Int) 1=j-i:=by
 unfold Builtin.Slice.slicePlaces;let h1:(1:Int)>0:=()
 simp only[h1,if_true,Int.ediv_one];split<;>omega
def lM{v:J3}{o:rf}{Q:rf->J5->Prop}(p:IsPart v o)(h:Q o s):Jj (Jn prog w) A (Builtin.Slice.slicePartIndex v) Q E s:=by
 cases p with
 |none=>exact slicePart_none h
 |int i t=>exact slicePart_int h
def jZ{f:pd}{vl e:J3}{a b:rf}{n:Nat}{Q:Int×Int×Nat->J5->Prop}(g:s.heap.IsSliceOf f vl e .none)(pl:IsPart vl a)(i:IsPart e b)
 (h:Q (((sIx n 0 a:Nat):Int),1,sIx n n b-sIx n 0 a) s):Jj (Jn prog w) A (Builtin.Slice.sliceApplied (.ref f) (pure (n:Int))) Q E s:=by
 let[os,c,j,d]:=id g
 unfold Builtin.Slice.sliceApplied Builtin.Slice.sliceFields
 refine J0 (J0 (wpAny_field c d (x:=vl) rfl (J0 (wpAny_field c d (x:=e) rfl (J0 (wpAny_field c d (x:=.none) rfl (J9 ?_)))))))
 refine J0 (slicePart_none ?_)
 show Jj _ _ (if((1:Int)==0)=MC then _ else _) _ _ s
 rw[ME ⋯]
 refine J0 (lM pl (J0 (lM i (J0 (J9 ?_)))))
 show Jj _ _ (match Builtin.Slice.sliceAdjust a b 1 (n:Int)with|(a,b)=>pure (a,(1:Int),Builtin.Slice.slicePlaces a b 1)) _ _ s
 rw[tP a b n]
 show Jj _ _ (pure (((sIx n 0 a:Nat):Int),(1:Int),Builtin.Slice.slicePlaces ((sIx n 0 a:Nat):Int) ((sIx n n b:Nat):Int) 1)) _ _ s
 rw[tm]
 exact J9 h
def xU(xs:Array J3)(i k:Nat):((Jq k).filterMap λ(m:Nat)=>xs[((i:Int)+(m:Int)*1).toNat]?).toArray=((xs.toList.drop i).take k).toArray:=by
 let e:(λ(m:Nat)=>xs[((i:Int)+(m:Int)*1).toNat]?)=λm=>xs[i+m]?:=by
  funext m
  have:((i:Int)+(m:Int)*1).toNat=i+m:=()
  rw[this]
 rw[e];have:=pick_run xs i k;rw[List.filterMap_map]at this;let e2:((λx=>xs[x]?)∘λx=>i+x)=λm=>xs[i+m]?:=rfl;rw[e2]at this;rw[this]
def je{t e:pd}{items:Array J3}{vl k:J3}{b c:rf}{Q:J3->J5->Prop}(d:IsTup s.heap t items)(l:s.heap.IsSliceOf e vl k .none)(pl:IsPart vl b)(n:IsPart k c)
 (hw:¬(sIx items.size 0 b=0/\sIx items.size items.size c=items.size))
 (h:Q (.ref s.z) { s with heap:=s.heap.push { cls:=.type "tuple",data:=.seq ((items.toList.drop (sIx items.size 0 b)).take (sIx items.size items.size c-sIx items.size 0 b)).toArray } })
 (hsz:items.size<=Jo):Jj (Jn prog w) A (getItem (.ref t) (.ref e)) Q E s:=by
 let a:sizeOk (.seq ((items.toList.drop (sIx items.size 0 b)).take (sIx items.size items.size c-sIx items.size 0 b)).toArray):=by
  show((items.toList.drop (sIx items.size 0 b)).take (sIx items.size items.size c-sIx items.size 0 b)).toArray.size<=Jo
  rw[Jl,Lc,List.length_drop,Kw]
  omega
 let p:sIx items.size items.size c<=items.size:=DH _ _ (Je _) c
 let[os,f,g,o]:=id l
 let i:s.TypeIs (.ref e) "slice":=#[os,f,g]
 unfold getItem
 try with_reducible refine Kn ?_
 first|refine J0 (J9 ?_)|skip
 refine J0 (wpAny_sequenceKey d.typeIs ⋯ ?_)
 refine J0 (Ly (name:=Ks "__getitem__") d.typeIs PyProof.Rows.slot_tuple_getitem
  (Lo PyProof.Rows.slot_tuple_getitem d.typeIs entry_tuple_getitem ?_ (args_tuple_getitem _ _)))
 show Jj _ _ (Builtin.Tuple.tupleItemsOf (.ref t) >>= _) _ _ s
 refine J0 (tupleItemsOf_ d ?_)
 refine J0 (wpAny_typeOf i ?_)
 rw[MF ⋯]
 refine J0 (jZ l pl n ?_)
 let j:¬((((sIx items.size 0 b:Nat):Int)==0&&(1:Int)==1&&(sIx items.size items.size c-sIx items.size 0 b)==items.size)=MC):=by
  intro q
  rw[Kp,Kp]at q
  let r:((sIx items.size 0 b:Nat):Int)=0:=eq_of_beq q.1.1
  let u:sIx items.size items.size c-sIx items.size 0 b=items.size:=eq_of_beq q.2
  exact hw #[(),()]
 show Jj _ _ (if(((sIx items.size 0 b:Nat):Int)==0&&(1:Int)==1&&(sIx items.size items.size c-sIx items.size 0 b)==items.size)=MC then _ else _) _ _ s
 rw[ME j,xU]
 first
  |exact J0 (m:=Builtin.Tuple.tupleExact _) (K9 (J9 #[7,J9 h]) a)
  |exact J0 (m:=Builtin.Tuple.tupleExact _) (K9 (J0 (J9 (J9 #[7,J9 h]))) a)
  |exact J0 (J0 (m:=Builtin.Tuple.tupleExact _) (K9 (J9 (J9 #[7,J9 h])) a))
  |exact J0 (J0 (m:=Builtin.Tuple.tupleExact _) (K9 (J9 #[7,J9 h]) a))
end
end HT
namespace L2
open PySem PySem.Spec PyProof.Rows
abbrev TO:=St->Hp->(rf->Hp->Prop)->Prop
def PO(X:Cx)(e:Option pv)(t:TO):Prop:=
 ∀(MP:p4)(s:J5)(σ:St)(H:Hp)(Q:rf->Hp->Prop),Inv X MP σ H s->t σ H Q->
  Jj (Jn X.prog X.w) X.A (evalPart e X.env) (λu b=>∃o a,Inv X MP σ a b/\IsPart u o/\Q o a) X.xe s
def BM:TO:=λ_ H Q=>Q MB H
def FH(t:TE):TO:=λσ H Q=>t σ H λx H1=>∃i,x=.int i/\Q (MA i) H1
def intsAre_of{ns:q_}:∀{us:List J3},Vals (ns.map V.int) us->KN us ns:=by
 induction ns with
 |nil=>intro us r;rw[Lp]at r;cases r;exact .nil
 |cons n ns a=>
  intro us r
  rw[Ji]at r
  cases r with
  |cons b c=>
   let[t,e]:=b
   subst e
   exact .cons n t (a c)
section
variable{X:Cx}{e:pv}{te:TE}{lo hi:Option pv}{tl th:TO}{pos p2:Pos}
def A7:PO X MB BM:=by intro MP s σ H Q I h;rw[evalPart_none];exact J9 #[MB,H,I,.none,h]
def Ax(h:PE X e te):PO X (MA e) (FH te):=by intro MP s σ H Q I b;rw[evalPart_some];refine NJ (h MP s σ H _ I b) λu g a=>?_;let[x,H1,c,d,f]:=a;let[i,5,q]:=f;let[t,5]:=d;exact #[MA i,H1,c,.int i t,q]
def SF(X:Cx)(r:V->rf->rf->Hp->VK->Prop):Prop:=
 ∀(MP:p4)(s:J5)(σ:St)(H:Hp)(x:V)(v vl a:J3)(lo hi:rf)(b:pd)(Q:VK),Inv X MP σ H s->RelV x v->s.heap.IsSliceOf b vl a .none->IsPart vl lo->IsPart a hi->r x lo hi H Q->
  ∃T id,typeLookup (.type T) "__getitem__"=pure (MA (.builtin id))/\s.TypeIs v T/\Jj (Jn X.prog X.w) X.A (getItem v (.ref b)) (EP X MP σ Q) X.xe s
def SF.or{r a:V->rf->rf->Hp->VK->Prop}(h:SF X r)(h':SF X a):SF X (λx lo hi H Q=>r x lo hi H Q\/a x lo hi H Q):=by
 intro MP s σ H x v vl b lo hi c Q I d f g i q;rcases q with q|q
 .exact h MP s σ H x v vl b lo hi c Q I d f g i q
 .exact h' MP s σ H x v vl b lo hi c Q I d f g i q
def tSl(r:V->rf->rf->Hp->VK->Prop)(te:TE)(tl th:TO):TE:=λσ H Q=>te σ H λx H1=>tl σ H1 λl a=>th σ a λu b=>r x l u b Q
def zO{r:V->rf->rf->Hp->VK->Prop}(i:SF X r)(j:PE X e te)(k:PO X lo tl)(m:PO X hi th):PE X (.Subscript e (.Slice lo hi MB p2) pos) (tSl r te tl th):=by intro MP s σ H Q I h;refine Subscript_ (NJ (j MP s σ H _ I h) λv n c=>?_);let[x,H1,o,p,t]:=c;refine wpAny_Slice (NJ (k MP n σ H1 _ o t) λvl y ⟨l,z,B,C,D⟩=>NJ (m MP y σ z _ B D) λf a d=>?_);let[u,g,E,F,G]:=d;rw[evalPart_none];refine J9 ?_;let J:Inv X MP σ g { a with heap:=a.heap.push { cls:=.type "slice",data:=.fields (List.toArray [vl,f,.none]) } }:=E.kept (t':=a.toks) λb N q=>J6 _ q;let[T,id,K,L,M]:=i MP { a with heap:=a.heap.push { cls:=.type "slice",data:=.fields (List.toArray [vl,f,.none]) } } σ g x v vl f l u a.z Q J p (Heap.IsSliceOf.new ..) C F G;show Jj (Jn X.prog X.w) X.A (subscriptTail e (.Slice lo hi MB p2) v (.ref a.z)) (EP X MP σ Q) X.xe { a with heap:=a.heap.push { cls:=.type "slice",data:=.fields (List.toArray [vl,f,.none]) } };exact tail_any (ops:=[.ref a.z,v]) L K M (by with_unfolding_all rfl)
def qA(xs:r4)(lo hi:rf):r4:=(xs.drop (HT.sIx xs.length 0 lo)).take (HT.sIx xs.length xs.length hi-HT.sIx xs.length 0 lo)
def kr(xs:r4)(lo hi:rf):(qA xs lo hi).length<=xs.length:=by unfold qA;rw[Lc,List.length_drop];omega
def Ja(K:J1):V->rf->rf->Hp->VK->Prop:=λx lo hi H Q=>∃a xs,x=.ref a/\NW K H a xs/\
 ¬(HT.sIx xs.length 0 lo=0/\HT.sIx xs.length xs.length hi=xs.length)/\∀p,H p=MB->Q (.ref p) (upd H p (.tup (qA xs lo hi)))
def ET:SF X (Ja X.K):=by
 intro MP s σ H x v vl n lo hi p Q I i j k l h;let[a,xs,5,hx,m,q]:=h;cases i;let[d,r,f,g]:=I.tuple hx;let c:d.toArray.size=xs.length:=by rw[Jl];exact r.length.symm
 exists "tuple",_,PyProof.Rows.slot_tuple_getitem.lookup,f.typeIs;refine HT.je f j k l (by rw[c];exact m) ?_ (by rw[c];exact g);rw[c];refine #[.ref s.z,_,I.laid (t':=s.toks) (o:=.tup (qA xs lo hi)) (λb t q=>J6 _ q) (Je _) ?_,5,q _ (I.hok.fresh (Je _))];exact #[JT (kr xs lo hi) g,_,(r.drop (HT.sIx xs.length 0 lo)).take (HT.sIx xs.length xs.length hi-HT.sIx xs.length 0 lo),IsTup.new _ _,SJ.new _ _]
def IK(K:J1):R2:=λx y H Q=>∃a b ns c,x=.ref a/\y=.ref b/\NW K H a (ns.map V.int)/\NW K H b (c.map V.int)/\Q (.bl (HT.lexLt ns c)) H
def E4(g:X.A.units<Kh):Nq X (JY .Lt) (IK X.K):=by intro MP s σ H x y v u Q I i j h;let[a,b,ns,f,5,5,k,l,q]:=h;cases i;cases j;let[d,m,n,_]:=I.tuple k;let[c,o,p2,_]:=I.tuple l;let p:KN d.toArray.toList ns:=intsAre_of m;let r:KN c.toArray.toList f:=intsAre_of o;exact HT.mf n p2 p r g #[.bl (HT.lexLt ns f),H,I,5,q]
def HD(K:J1):R2:=λx y H Q=>∃a b xs c,x=.ref a/\y=.ref b/\NW K H a xs/\NW K H b c/\xs≠[]/\xs.length+c.length<=Jo/\
 (c=[]->Q (.ref a) H)/\(c≠[]->∀p,H p=MB->Q (.ref p) (upd H p (.tup (xs++c))))
def Vals.pN{xs:r4}{us:List J3}(r:Vals xs us):us=[]↔xs=[]:=by
 cases r with
 |nil=>simp
 |cons _ _=>simp
def BS:Nq X (Ll .Add) (HD X.K):=by intro MP s σ H x y v u Q I i j h;let[a,b,xs,k,5,5,l,m,hx,f,n,p]:=h;cases i;cases j;let[r,d,t,_]:=I.tuple l;let[g,c,p2,_]:=I.tuple m;refine HT.AN t p2 (λz=>hx (d.pN.mp z)) (λz=>#[.ref a,H,I,5,n (c.pN.mp z)]) (λz=>?_) (by rw[<-d.length,<-c.length];exact f);refine #[.ref s.z,_,I.laid (t':=s.toks) (o:=.tup (xs++k)) (λb A q=>J6 _ q) (Je _) ?_,5,p (λw=>z (c.pN.mpr w)) _ (I.hok.fresh (Je _))];exact #[by rw[Ke];exact f,_,d.append c,IsTup.new _ _,SJ.new _ _]
end
def ixN(n:Nat)(i:Int):Option Nat:=if 0<=i then(if i<n then MA i.toNat else MB)else if -(n:Int)<=i then MA (i+n).toNat else MB
def atI{a:Type}(xs:List a)(i:Int):Option a:=(ixN xs.length i).bind λj=>xs[j]?
def uM{n:Nat}{i:Int}{j:Nat}(h:ixN n i=MA j):seqIndex? i n=MA j/\j<n/\-(n:Int)<=i/\i<n:=by
 unfold ixN at h;by_cases h0:0<=i
 .rw[MF h0]at h;by_cases h1:i<n
  .rw[MF h1]at h;let e:i.toNat=j:=Option.some.inj h;exact #[by rw[seqIndex_of h0 h1,e],(),(),h1]
  .rw[ME h1]at h;cases h
 .rw[ME h0]at h;by_cases h1:-(n:Int)<=i
  .rw[MF h1]at h;let e:(i+n).toNat=j:=Option.some.inj h;exact #[by rw[seqIndex_neg () h1,e],(),h1,()]
  .rw[ME h1]at h;cases h
def pG{a:Type}{xs:List a}{i:Int}{v:a}(h:atI xs i=MA v):∃j,seqIndex? i xs.length=MA j/\xs[j]?=MA v/\j<xs.length/\-(xs.length:Int)<=i/\i<xs.length:=by
 unfold atI at h;cases e:ixN xs.length i with
 |none=>rw[e]at h;cases h
 |some j=>
  rw[e]at h
  let[h1,h2,b,c]:=uM e
  exact #[j,h1,h,h2,b,c]
def bM{a:Type}{xs:List a}{j:Nat}{v:a}(h:xs[j]?=MA v):atI xs (j:Int)=MA v:=by
 let b:j<xs.length:=(J8.mp h).1;let e:ixN xs.length (j:Int)=MA j:=by unfold ixN;rw[MF (),MF ()];simp
 unfold atI;rw[e];exact h
def oR(b:pv):Prop:=∀o i,subscripted b MD o i=operate [o,i] (getItem o i)
def QK(X:Cx)(r:R2):Prop:=
 ∀(b a:pv)(MP:p4)(s:J5)(σ:St)(H:Hp)(x y:V)(v u:J3)(Q:VK),Inv X MP σ H s->RelV x v->RelV y u->r x y H Q->
  subscripted a MD v u=operate [v,u] (getItem v u)->Jj (Jn X.prog X.w) X.A (subscriptTail b a v u) (EP X MP σ Q) X.xe s
def Zq(X:Cx)(id:String)(r:V->r4->Hp->VK->Prop):Prop:=
 ∀(MP:p4)(s:J5)(σ:St)(H:Hp)(x:V)(xs:r4)(v:J3)(us:List J3)(Q:VK),Inv X MP σ H s->RelV x v->Vals xs us->r x xs H Q->
  Jj (Jn X.prog X.w) X.A (call (.builtin id) (v::us)) (EP X MP σ Q) X.xe s
section
variable{X:Cx}{a b:pv}{ta tb:TE}{pos:Pos}
def QK.or{r e:R2}(h:QK X r)(h':QK X e):QK X (λx y H Q=>r x y H Q\/e x y H Q):=by
 intro c d MP s σ H x y v u Q I f g q i;rcases q with q|q
 .exact h c d MP s σ H x y v u Q I f g q i
 .exact h' c d MP s σ H x y v u Q I f g q i
def GC{r:R2}(c:QK X r)(d:PE X a ta)(e:PE X b tb)(f:oR b):PE X (.Subscript a b pos) (SX r ta tb):=by intro MP s σ H Q I h;exact Subscript_ (C7 d e I h λv u g x y i j k l q=>c a b MP g σ i x y v u Q j k l q (f _ _))
def GJ(K:J1):R2:=λx y H Q=>∃p xs i v,x=.ref p/\y=.int i/\NX K H p xs/\atI xs i=MA v/\Q v H
def FV(K:J1):R2:=λx y H Q=>∃p xs i v,x=.ref p/\y=.int i/\NW K H p xs/\atI xs i=MA v/\Q v H
def HK:R2:=λx y H Q=>∃z i c,x=.str z/\y=.int i/\z.length<=Jo/\atI z.cps.toList i=MA c/\Q (.str ⟨#[c]⟩) H
def AR:QK X (GJ X.K):=by
 intro d e MP s σ H x y v u Q I o A h m;let[p,xs,i,z,5,5,B,C,q]:=h;cases o;let[t,5]:=A;let[f,r,g,J]:=I.list B;let[j,h1,h2,L,D,E]:=pG C;let[w,n,k]:=r.get h2;let F:=r.length;let M:=jU;let c:EP X MP σ Q w s:=#[z,H,I,k,q];by_cases h0:0<=i
 .have l:i.toNat=j:=by rw[seqIndex_of h0 E]at h1;exact Option.some.inj h1
  exact item_listR g.isList h0 () (by rw[l];simpa using n) c m
 .have l:(i+(f.toArray.size:Int)).toNat=j:=by rw[seqIndex_neg () D]at h1;rw[Jl,<-F];exact Option.some.inj h1
  exact subscriptTail_builtinR (x:=w) g.isList.typeIs slot_list_getitem.lookup (wpAny_getItem_list_neg (Q:=λr G=>r=w/\EP X MP σ Q r G) g.isList () (by rw[Jl]<;>omega) () (by rw[l];simpa using n) #[5,c]) m
def Ec:QK X (FV X.K):=by intro c d MP s σ H x y v u Q I k l h m;let[p,xs,i,z,5,5,n,o,q]:=h;cases k;let[t,5]:=l;let[A,r,g,E]:=I.tuple n;let[j,h1,h2,F,G,J]:=pG o;let[w,B,e]:=r.get h2;let C:=r.length;let L:=jU;let f:EP X MP σ Q w s:=#[z,H,I,e,q];exact subscriptTail_builtinR (x:=w) g.typeIs slot_tuple_getitem.lookup (getItem_tuple (j:=j) (Q:=λr D=>r=w/\EP X MP σ Q r D) g () () (by rw[Jl,<-C];exact h1) ‹B› #[5,f]) m
def E7:QK X HK:=by
 intro d e MP s σ H x y v u Q I f g h k;let[z,i,c,5,5,p,l,q]:=h;let[t,5]:=f;let[r,5]:=g;let[j,h1,h2,w,m,n]:=pG l;let o:z.cps.toList.length=z.length:=by simp[Str.length]
 rw[o]at h1 m n;let A:=jU
 exact tail_any (typeIs_str s z t) slot_str_getitem.lookup (getItem_str (c:=c) (by
  let e1:decide (i < -(2^63:Int))=MD:=MG ()
  let e2:decide (i≥2^63)=MD:=MG ()
  rw[e1,e2,Bool.or_false]) (by rw[h1];simpa using h2) #[.str ⟨#[c]⟩,H,I.tok _,#[_,rfl],q]) k
def rIx(K:J1):R2:=λx y H Q=>GJ K x y H Q\/FV K x y H Q\/HK x y H Q
theorem Fj:QK X (rIx X.K):=AR.or (Ec.or E7)
def rH(its:List J3)(n j:Nat)(u:J3):Kg (·.setIfInBounds j u) { cls:=.type "list",data:=.seq its.toArray n }={ cls:=.type "list",data:=.seq (its.set j u).toArray n }:=by simp[Kg]
def Inv.lst{MP:p4}{σ:St}{H:Hp}{s:J5}{p:pd}{xs:r4}(I:Inv X MP σ H s)(h:H p=MA (.lst xs)) : ∃(its:List J3) (n:Nat),Vals xs its/\s.heap.get? p=MA { cls:=.type "list",data:=.seq its.toArray n }/\xs.length<=Jo:=by let[z,its,n,r,e]:=I.hok p _ h;exact #[its,n,r,e,z]
def Inv.Eo{MP:p4}{σ:St}{H:Hp}{s:J5}{p:pd}{xs c:r4}{its its':List J3}{n d:Nat}{f:Obj->Obj}(I:Inv X MP σ H s)(h:H p=MA (.lst xs))
 (i:s.heap.get? p=MA { cls:=.type "list",data:=.seq its.toArray n }) (g:f { cls:=.type "list",data:=.seq its.toArray n }={ cls:=.type "list",data:=.seq its'.toArray d }) (r:Vals c its') (hz:c.length<=Jo) (t:Nat) :
 Inv X MP σ (upd H p (.lst c)) { s with heap:=s.heap.update p f,toks:=t }:=by
 let e:(s.heap.update p f).get? p=MA { cls:=.type "list",data:=.seq its'.toArray d }:=by
  rw[Lm f i (by rw[g]<;>rfl),g]
 refine I.write (x:=p) (e:=p) (by rw[h];trivial) (.inl rfl) (λb u j q=>(KQ _ _ (Ne.symm j)).trans q) #[_,e] ?_
 exact #[hz,its',d,r,e]
def GO:V->V->V->Hp->(Hp->Prop)->Prop:=λo i v H Q=>∃p xs k j,o=.ref p/\i=.int k/\H p=MA (.lst xs)/\ixN xs.length k=MA j/\Q (upd H p (.lst (xs.set j v)))
def set_list:FO X GO:=by
 intro MP s σ H o i v C D u Q I x y z h;let[p,xs,k,j,5,5,g,A,q]:=h;cases x;let[t,5]:=y;let[c,n,r,d,B]:=I.lst g;let[h1,h2,l,m]:=uM A;let e:=r.length;let E:=jU;let w:Inv X MP σ (upd H p (.lst (xs.set j v))) { s with heap:=s.heap.update p (Kg (·.setIfInBounds j u)) }:=I.Eo g d (rH c n j u) (r.set z j) (by rw[List.length_set];exact B) s.toks;by_cases h0:0<=k
 .have f:k.toNat=j:=by rw[seqIndex_of h0 m]at h1;exact Option.some.inj h1
  exact PySem.W.ki_setAt d h0 () (by rw[Jl,<-e];exact m) (by rw[f];exact #[_,w,q])
 .have f:(k+(c.toArray.size:Int)).toNat=j:=by rw[seqIndex_neg () l]at h1;rw[Jl,<-e];exact Option.some.inj h1
  exact PySem.W.ki_setBack d () (by rw[Jl,<-e];exact l) () (by rw[f];exact #[_,w,q])
def pH(c d:rf)(n:Nat):(sliceBounds c d MB n).1=((HT.sIx n 0 c:Nat):Int)/\(sliceBounds c d MB n).2.1=((HT.sIx n n d:Nat):Int)/\(sliceBounds c d MB n).2.2=1:=by
 refine #[?_,?_,rfl]
 .cases c with
  |none=>simp[sliceBounds,HT.sIx]
  |some i=>
   simp only[sliceBounds,HT.sIx,Option.getD_none,show(1:Int)>0 by decide,if_true]
   by_cases h:i<0
   .simp only[h,if_true]<;>omega
   .simp only[h,if_false]<;>omega
 .cases d with
  |none=>simp[sliceBounds,HT.sIx]
  |some i=>
   simp only[sliceBounds,HT.sIx,Option.getD_none,show(1:Int)>0 by decide,if_true]
   by_cases h:i<0
   .simp only[h,if_true]<;>omega
   .simp only[h,if_false]<;>omega
def mZ(its:List J3)(c d:rf):slicePick its.toArray c d MB=((its.drop (HT.sIx its.length 0 c)).take (HT.sIx its.length its.length d-HT.sIx its.length 0 c)).toArray:=by let[h1,h2,e]:=pH c d its.toArray.size;unfold slicePick;rw[h1,h2,e];simp only[sliceRange_one,pick_run,Jl]<;>rfl
def IZ(K:J1):V->rf->rf->Hp->VK->Prop:=λx c d H Q=>∃a xs,x=.ref a/\NX K H a xs/\∀p,H p=MB->Q (.ref p) (upd H p (.lst (qA xs c d)))
def Bf:SF X (IZ X.K):=by intro MP s σ H x v vl n d e p Q I g i j k h;let[a,xs,5,hx,q]:=h;cases g;let[l,r,f,m]:=I.list hx;let c:=r.length;exists "list",_,slot_list_getitem.lookup,f.isList.typeIs;refine wpAny_getItem_list_slice f.isList i j k .none (_) ?_ (by rw[Jl]<;>omega);rw[mZ,<-c];refine #[.ref s.z,_,I.laid (t':=s.toks) (o:=.lst (qA xs d e)) (λb t q=>J6 _ q) (Je _) ?_,5,q _ (I.hok.fresh (Je _))];exact #[JT (kr xs d e) m,_,0,(r.drop (HT.sIx xs.length 0 d)).take (HT.sIx xs.length xs.length e-HT.sIx xs.length 0 d),Jh _ rfl]
def pP:bS X (.builtin "len") (λxs H Q=>∃p d,xs=[.ref p]/\(NX X.K H p d\/NW X.K H p d)/\Q (.int d.length) H):=by
 intro MP s σ H xs us Q I r h;let[p,d,5,e,q]:=h;let[u,5,j]:=vals1 r;cases j;let l:=jU;rcases e with e|e
 .obtain⟨f,g,i,k⟩:=I.list e;let c:=g.length;exact Calls.call_len_list i.isList (by simp only[Jl]<;>omega) #[.int d.length,H,I.tok _,#[s.toks+1,by rw[Jl,c]],q]
 .obtain⟨f,g,i,k⟩:=I.tuple e;let c:=g.length;exact len_tuple i (by simp only[Jl]<;>omega) #[.int d.length,H,I.tok _,#[s.toks+1,by rw[Jl,c]],q]
def bS.or{f:J3}{r c:r4->Hp->VK->Prop}(h:bS X f r)(h':bS X f c):bS X f (λxs H Q=>r xs H Q\/c xs H Q):=by
 intro MP s σ H xs us Q I d q;rcases q with q|q
 .exact h MP s σ H xs us Q I d q
 .exact h' MP s σ H xs us Q I d q
def pD:bS X (.type "list") (λxs H Q=>∃p f,xs=[.ref p]/\(NX X.K H p f\/NW X.K H p f)/\∀l,H l=MB->Q (.ref l) (upd H l (.lst f))):=by
 intro MP s σ H xs us Q I r h;let[p,f,5,j,q]:=h;let[u,5,A]:=vals1 r;cases A;let k:∀(c:List J3),Vals f c->f.length<=Jo->∀(d:pq)(g:Nat),(∀b z,s.heap.get? b=MA z->d.get? b=MA z)->d.get? s.z=MA { cls:=.type "list",dict:=MB,data:=.seq c.toArray g,slots:=#[] }->EP X MP σ Q (.ref s.z) { s with heap:=d }:=λc i m d g kp e=>#[.ref s.z,_,I.laid (t':=s.toks) kp (Je _) (show bL X.prog X.w _ d _ (.lst f)from #[m,c,g,i,e]),5,q _ (I.hok.fresh (Je _))];rcases j with j|j
 .obtain⟨c,i,v,m⟩:=I.list j;let t:=i.length;let[o,x,y,n,hd]:=v.isList;exact call_list_seq p (.inl rfl) x y hd (λd g kp e=>k c i m d g kp e) (by simp only[Jl]<;>omega)
 .obtain⟨c,i,v,m⟩:=I.tuple j;let t:=i.length;let[o,x,y,n,hd]:=v;exact call_list_seq p (.inr rfl) x y hd (λd g kp e=>k c i m d g kp e) (by simp only[Jl]<;>omega)
def m3:bS X (.type "tuple") (λxs H Q=>∃p d,xs=[.ref p]/\((NX X.K H p d/\∀l,H l=MB->Q (.ref l) (upd H l (.tup d)))\/(NW X.K H p d/\Q (.ref p) H))):=by
 intro MP s σ H xs us Q I r h;let[p,d,5,h]:=h;let[u,5,t]:=vals1 r;cases t;rcases h with⟨g,q⟩|⟨g,q⟩
 .obtain⟨c,i,j,k⟩:=I.list g;let m:=i.length;refine call_tuple_list j.isList (λf kp=>?_) (by simp only[Jl]<;>omega);let n:Inv X MP σ H { s with heap:=f }:=I.kept (t':=s.toks) kp;let v:Inv X MP σ (upd H f.objs.size (.tup d)) { s with heap:=f.push { cls:=.type "tuple",data:=.seq c.toArray } }:=n.laid (t':=s.toks) (λb o e=>J6 _ e) (Je _) (show bL X.prog X.w _ _ _ (.tup d)from #[k,c,i,IsTup.new _ _,SJ.new _ _]);exact #[.ref f.objs.size,_,v,5,q _ (n.hok.fresh (Je _))]
 .obtain⟨c,i,j,k⟩:=I.tuple g;exact call_tuple_same j #[.ref p,H,I,5,q]
def Zy(K:J1)(T:String)(x:V)(H:Hp):Prop:=match x with
 |.str _=>T="str"
 |.int _=>T="int"
 |.ref p=>(T="list"/\∃xs,NX K H p xs)\/(T="tuple"/\∃o,K.lookup p=MA o/\o.cls=.type "tuple"/\o.dict=MB)\/
  (T="dict"/\((∃kvs,H p=MA (.dK kvs))\/∃kvs,H p=MA (.dT kvs)))\/(T="set"/\∃S n,H p=MA (.set S n))
 |_=>False
def Dr{MP:p4}{σ:St}{H:Hp}{s:J5}{T:String}{x:V}{v:J3}(I:Inv X MP σ H s)(r:RelV x v)(ty:Zy X.K T x H) : s.TypeIs v T/\∀a,v=.ref a->∃f,s.heap.get? a=MA f/\f.dict=MB:=by
 cases x with
 |str z=>
  let[t,5]:=r
  cases (show T="str" from ty)
  exact #[typeIs_str s z t,λ_ e=>nomatch e]
 |int i=>
  let[t,5]:=r
  cases (show T="int" from ty)
  exact #[typeIs_int s i t,λ_ e=>nomatch e]
 |ref p=>
  cases r
  rcases ty with⟨rfl,xs,h⟩|⟨rfl,o,d,j,hd⟩|⟨rfl,d⟩|⟨rfl,S,n,d⟩
  .obtain⟨k,_,g,_⟩:=I.list h;refine #[g.isList.typeIs,λa e=>?_];cases e;let[o,n,e,c,hd,_]:=g;exact #[o,e,hd]
  .refine #[#[o,I.kIn p o d,j],λa e=>?_];cases e;exact #[o,I.kIn _ o d,hd]
  .have z:∃o,s.heap.get? p=MA o/\o.ExactDict:=by
    rcases d with⟨kvs,d⟩|⟨kvs,d⟩
    .obtain⟨_,_,_,_,o,_,_,e,ex,_⟩:=I.hok p _ d;exact #[o,e,ex]
    .obtain⟨_,_,_,_,o,_,_,e,ex,_⟩:=I.hok p _ d;exact #[o,e,ex]
   let[o,e,ex]:=z;refine #[#[o,e,ex.1],λa e2=>?_];cases e2;exact #[o,e,ex.2.1]
  .obtain⟨o,_,_,_,e,ex,_⟩:=I.hok p _ d;refine #[#[o,e,ex.1],λa e2=>?_];cases e2;exact #[o,e,ex.2.1]
 |_=>exact Jy ty
def tBM(K:J1)(T:String)(r:V->r4->Hp->VK->Prop)(to:TE)(t:TA):TE:=λσ H Q=>to σ H λx H1=>Zy K T x H1/\t σ H1 λxs c=>r x xs c Q
variable{o e:pv}{es:ro}{to:TE}{t:TA}{name:Str}{apos MT:Pos}{T id:String}{r:V->r4->Hp->VK->Prop}
def xa(p:PlainAttrs T)(slot:Slot T name id)(k:typeOf (.builtin id)=pure (.type "method_descriptor"))(q:Zq X id r)(u:PE X o to)(w:PA X (e::es) t)
 (g:Lf o name X.env (eval o X.env)=eval o X.env:=by rfl)
 (j:((Kr MT (Jk (e::es) X.env)).all (λx=>!x.1)&&(Mf MT (Lb [] X.env)).all (λx=>x.1.isSome)
  && decide ((e::es).length+([]:List Mp).length+(if([]:List Mp).isEmpty then 0 else 1)<30))=MC:=by rfl)
 (i:(apos.endLine==MT.line)=MC:=by rfl) (y:Jk (e::es) X.env=(MD,eval e X.env)::Jk es X.env:=by rfl) (c:(Kr MT (Jk es X.env)).any (·.1)=MD:=by rfl) :
 PE X (.Call (.Attribute o name apos) (e::es) [] MT) (tBM X.K T r to t):=by
 intro MP s σ H Q I h
 refine wpAny_Call_method_late g j i rfl (NJ (u MP s σ H _ I h) λv z d=>?_)
 let[x,H1,l,m,ty,A]:=d
 let[h1,h2]:=Dr l m ty
 exists T,id,p,slot,k,h1,h2
 let n:=w MT MP z σ H1 _ l A
 rw[y]at n ⊢
 refine Calls.callWith_builtin (by show(MD||(Kr MT (Jk es X.env)).any (·.1))=MD;rw[c]<;>rfl) (Calls.evalArgs_plain ?_)
 exact NJ n λus B f=>by let[vs,C,D,E,F]:=f;exact(q MP B σ C x vs v us Q D m E F)
/- xs.append(e),list.index on a module's tuple .. are Zq facts of 06m -/
end
def Zr(X:Cx)(id:String)(r:V->r4->Hp->VK->Prop):Prop:=
 ∀(MP:p4)(s:J5)(σ:St)(H:Hp)(x:V)(xs:r4)(v:J3)(us:List J3)(Q:VK),Inv X MP σ H s->RelV x v->Vals xs us->r x xs H Q->
  Jj (Jn X.prog X.w) X.A (call (.builtin id) (v::us)) (EP X MP σ Q) X.xe s
def Vals.one:∀{x:V}{us:List J3},Vals [x] us->∃u,us=[u]/\RelV x u:=by
 intro x us h;cases h with
 |cons r t=>cases t;exact #[7,r]
def Vals.two:∀{x y:V}{us:List J3},Vals [x,y] us->∃u v,us=[u,v]/\RelV x u/\RelV y v:=by
 intro x y us h;cases h with
 |cons r t=>
  cases t with
  |cons q n=>cases n;exact #[_,7,r,q]
theorem Vals.rep{xs:r4}{us:List J3}(h:Vals xs us):∀k:Nat,Vals (JJ k xs).flatten (JJ k us).flatten
 |0=>.nil
 |k+1=>by
  rw[KU,KU,LS,LS]
  exact Vals.append h (Vals.rep h k)
theorem foldl_rep(its:List J3):∀(k:Nat)(a:List J3),
 List.foldl (λx1 x2=>x1++x2) a.toArray (JJ k its.toArray)=(a++(JJ k its).flatten).toArray
 |0,a=>by simp
 |k+1,a=>by
  let e:a.toArray++its.toArray=(a++its).toArray:=by simp
  let e2:(a++its)++(JJ k its).flatten=a++(JJ (k+1) its).flatten:=by
   rw[KU,LS,List.append_assoc]
  rw[<-e2,<-foldl_rep its k (a++its),<-e,KU,List.foldl_cons]
section
variable{X:Cx}{MP:p4}{σ:St}{H:Hp}{s:J5}{l b:pd}{xs ys zs:r4}
def Inv.GZ{its its':List J3}{n:Nat}{f:Array J3->Array J3}{t':Nat}(I:Inv X MP σ H s)(a:H l=MA (.lst xs))
 (e:s.heap.get? l=MA { cls:=.type "list",data:=.seq its.toArray n }) (c:f its.toArray=its'.toArray) (hv:Vals ys its') (hz:ys.length<=Jo) :
 Inv X MP σ (upd H l (.lst ys)) { s with heap:=s.heap.update l (Kg f),toks:=t' }:=by
 let q:=PySem.IsL.update e f
 rw[c]at q
 refine I.write (x:=l) (e:=l) (by rw[a];exact trivial) (.inl rfl) (λh u d g=>(KQ s.heap (Kg f) (Ne.symm d)).trans g) #[_,q] ?_
 exact #[hz,its',_,hv,q]
theorem Inv.FJ{its:List J3}{t':Nat}(I:Inv X MP σ H s)(hv:Vals ys its)(hz:ys.length<=Jo) : Inv X MP σ (upd H s.z (.lst ys)) { s with heap:=s.heap.push { cls:=.type "list",data:=.seq its.toArray },toks:=t' }:=I.laid (λ_ _ q=>J6 _ q) (Je _) #[hz,its,0,hv,Jh _ rfl]
theorem Inv.fresh(I:Inv X MP σ H s):H s.z=MB:=I.hok.fresh (Je _)
def Inv.oQ(I:Inv X MP σ H s)(a:H l=MA (.lst xs)):xs.length<=Jo/\∃(its:List J3) (n:Nat),Vals xs its/\xs.length=its.length/\s.heap.get? l=MA { cls:=.type "list",data:=.seq its.toArray n }:=by let[z,its,n,r,e]:=I.hok l _ a;exact #[z,its,n,r,r.length,e]
def xB{n:Nat}(h:n<=Jo):Builtin.List.listTooLong n=MD:=by unfold Builtin.List.listTooLong;exact MG ()
end
section
variable{X:Cx}
def BZ:V->r4->Hp->VK->Prop:=λx vs H Q=>∃l xs y,x=.ref l/\vs=[y]/\H l=MA (.lst xs)/\xs.length<Jo/\Q .non (upd H l (.lst (xs++[y])))
def jR:Zr X "list.append" BZ:=by intro MP s σ H x vs v us Q I c d h;let[l,xs,y,5,5,b,g,q]:=h;cases c;let[u,5,f]:=d.one;let[z,a,n,r,i,e]:=I.oQ b;refine call_meets F.slot_list_append #[_,e,rfl] F.entry_list_append (F.args_list_append_2 _ _) (PySem.list_append l a.toArray n u (by rw[Jl];omega)) #[e,?_];refine #[.non,_,I.GZ (its':=a++[u]) b e (_) (r.append (.cons f .nil)) ?_,5,q];rw[Ke,List.length_singleton];omega
def IH:R2:=λx y H Q=>∃l b xs a,x=.ref l/\y=.ref b/\H l=MA (.lst xs)/\H b=MA (.lst a)/\xs.length+a.length<=Jo/\∀p,H p=MB->Q (.ref p) (upd H p (.lst (xs++a)))
def Fo:Nq X (Ll .Add) IH:=by
 intro MP s σ H x y v u Q I d f h;let[l,b,xs,m,5,5,g,i,o,q]:=h;cases d;cases f;let[z,c,n,r,p,e]:=I.oQ g;let[t,a,n2,j,k,e2]:=I.oQ i;refine PySem.P.add_list e e2 ?_ (by rw[Jl,Jl];omega);let ea:c.toArray++a.toArray=(c++a).toArray:=by simp
 rw[ea];exact #[.ref _,_,I.FJ (t':=s.toks) (r.append j) (by rw[Ke];omega),5,q _ I.fresh]
def Ii:R2:=λx y H Q=>∃l k xs,x=.ref l/\y=.int k/\H l=MA (.lst xs)/\-(2^63)<=k/\k<2^63/\xs.length*k.toNat<=Jo/\
 ∀p,H p=MB->Q (.ref p) (upd H p (.lst (JJ k.toNat xs).flatten))
def len_rep{a:Type}(xs:List a)(k:Nat):(JJ k xs).flatten.length=k*xs.length:=by
 induction k with
 |zero=>simp
 |succ k b=>rw[KU,LS,Ke,b,Nat.succ_mul,Nat.add_comm]
def EN:Nq X (Ll .Mult) Ii:=by
 intro MP s σ H x y v u Q I p w h;let[l,k,xs,5,5,A,h1,h2,o,q]:=h;cases p;let[t,5]:=w;let[z,b,n,r,B,e]:=I.oQ A;let d:b.toArray.size*k.toNat<=Jo:=by rw[Jl,<-B];exact o
 let f:¬b.toArray.size*k.toNat>(2^63-1)/8:=by
  have:(Jo:Nat)<=(2^63-1)/8:=⋯
  omega
 let g:¬(!Builtin.List.listFitsIndex k)=MC:=by rw[fitsIndex_both h1 h2];exact Js
 let c:¬Builtin.List.listTooLong (b.toArray.size*k.toNat)=MC:=by rw[xB d];exact Js
 let i:List.foldl (λx1 j=>x1++j) #[] (JJ (if b.toArray.isEmpty=MC then 0 else k.toNat) b.toArray)=(JJ k.toNat b).flatten.toArray:=by
  let C:∀m:Nat,List.foldl (λx1 j=>x1++j) #[] (JJ m b.toArray)=(JJ m b).flatten.toArray:=λm=>by
   have:=foldl_rep b m []
   rw[List.nil_append]at this
   exact this
  rw[C]
  cases b with
  |nil=>simp
  |cons a E=>rw[ME (_)]
 refine wpAny_binaryOp_repeat_ref (T:="list") (U:="int") ⋯ #[_,e,rfl] (λD=>typeIs_int D k t) noFill_list_mul F.fills_int_mul F.slot_int_rmul repeat_list F.slot_int_index.lookup
  (call_meets F.slot_int_rmul (typeIs_int s k t) F.entry_int_rmul (F.args_int_rmul_2 _ _) (int___rmul___int_list k t l b.toArray n)
   #[e,5,#[_,e,rfl],call_meets F.slot_list_mul #[_,e,rfl] F.entry_list_mul (F.args_list_mul_2 _ _) (AutoListH.list___mul___list_int_3 l b.toArray n k t g f c) #[e,?_]])
 rw[i];exact #[.ref _,_,I.FJ (t':=s.toks) (r.rep k.toNat) (by rw[len_rep,Nat.mul_comm];exact o),5,q _ I.fresh]
end
end L2
namespace Att
open PySem PySem.W PySem.Calls PyProof.Rows
def kX{P:Jw}{h:pq}:∀(ns:q_)(vs:List J3),WellAll P h vs (ns.map WData.int)->KN vs ns:=by
 intro ns
 induction ns with
 |nil=>
  intro vs w
  rw[Lp]at w
  cases w
  exact .nil
 |cons n ns c=>
  intro vs w
  rw[Ji]at w
  cases w with
  |cons a b=>
   cases a
   exact .cons _ _ (c _ b)
def wK{l:OpenLaw}{n:Nat}(o:l.most=MA n){P:Jw}{h:pq}{args:List WData}{b:List J3}
 (c:l.row.toRowW.claim.pre args=MC) (j:WellAll P h b args) :
 ∃a vs ns,b=[Kd a]/\args=[WData.list (ns.map WData.int)]/\h.get? a=MA { cls:=.type "list",data:=.seq vs.toArray }/\KN vs ns/\ns.length<=n:=by
 let k:WShape.hasAll [] args [.list .int]=MC:=(pre_splitW c).1
 let m:l.pre.holds [] { args:=args }=MC:=(pre_splitW c).2
 let[d,r,5,h1,h2]:=hasAllW_cons k
 obtain rfl:=hasAllW_nil h2
 let[xs,5,p]:=hasW_list h1
 let[ns,5]:=items_int p
 let e:ns.length<=n:=by
  unfold OpenLaw.pre at m
  let g:(WTm.not (.lt (.lit (.int (n:Int))) (.len (.arg 0)))).holds [] { args:=[.list (ns.map .int)] }=MC:=by
   let g:=(holds_andW m).1
   rw[o]at g
   exact g
  let i:=condW_of g (w_not (w_lt w_lit (w_len_list (w_arg rfl))))
  rw[J4]at i
  refine Nat.le_of_not_lt λq=>?_
  let s:(n:Int)<((ns.length:Nat):Int):=()
  first
   |(rw[MI s]at i;exact absurd i ⋯)
   |(simp at i;omega)
 cases j with
 |cons t u=>
  cases u
  cases t with
  |list v f=>exact #[_,_,ns,5,5,v,kX ns _ f,e]
theorem wt(l:OpenLaw)(args:List WData):l.row.toRowW.claim.post args (.bool MC) args=MC:=
 postW_of (r:=l.row.toRowW) (X:=(MC==MC))
  (show WShape.has [] (.bool MC) .bool=MC by first|rfl|decide|simp[WShape.has,WShape.arms,WShape.armsAll])
  (show(WTm.eq .res (.lit (.bool MC))).value [] { args:=args,res:=MA (.bool MC),after:=args }=MA (.bool (MC==MC))from w_eq_bool (w_res rfl) w_lit) rfl
def qR{l:OpenLaw}{n:Nat}{q:Ju}{c:rq}{x:(Str->Option J3)->pq->Prop}{y:JV->pq->Prop}{d:DefRec}
 (C:l.most=MA n) (m:d.params.defaults=[])
 (call:∀(w:JV)(s₀ b:J5)(mg p:Str->Option J3)(fa:pd)(o:Obj)(s cd e:J3)(a:pd)(vs:List J3)(ns:q_),
  Ground q c [] x w s₀ mg p b.heap->y w b.heap->
  b.heap.get? fa=MA o->o.data=.func (docDef d.name d.params d.body d.scope s cd e)->b.heap.CodeRec cd d.name->mg d.name=MA (.ref fa)->
  b.heap.get? a=MA { cls:=.type "list",data:=.seq vs.toArray }->KN vs ns->ns.length<=n->b.gens=#[]->
  Lh (Jn l.prog w) callerA (.call (.ref fa) #[[.ref a],[]]) (λr k=>r=.ok (.ret (.bool MC))/\OldK b.heap k.heap/\k.os=b.os/\AllBare k.gens) b) :
 WalkO q c x y l.row.toRowW d [] (λf vs=>PySem.call f vs):=by
 intro w s₀ b mg p G Y fa o s cd e D kV E hd t z u F args A N h B H v I
 obtain rfl:D=.none:=Dflts.none z m
 obtain rfl:kV=.none:=Dflts.noKw z
 let[a,vs,ns,5,5,i,g,j]:=wK C h v
 refine enter_call (codeAny_mono (call w s₀ b mg p fa o s cd e a vs ns G Y E (fd_plain hd) t u i g j F) λr k J=>?_)
 let[5,h2,K,L]:=J
 exact #[.inl #[.bool MC,.bool MC,[],5,λ_=>rfl,.bool MC,wt l _,λ_=>#[List.Pairwise.nil,λ_ M=>(nomatch M)]],h2,K,L]
section
variable{prog:Ju}{w:JV}{A:JP}{E:J3->J5->Prop}{s:J5}{K:Frag}
end
end Att
namespace L2
open PySem PySem.Spec PyProof.Rows
theorem ic:∀{vs:List J3}{ns:q_},KN vs ns->Vals (ns.map V.int) vs
 |_,_,.nil=>.nil
 |_,_,.cons n t h=>.cons #[t,rfl] (ic h)
abbrev KOf{K:J1}{h:pq}(_:K.In h):J1:=K
def aZ(s:pe):Arguments:=match s with
 |.FunctionDef _ a _ _ _ _ _ _ _ _=>a
 |_=>{ posonlyargs:=[],args:=[],vararg:=MB,kwonlyargs:=[],kw_defaults:=[],kwarg:=MB,defaults:=[] }
def aL(s:pe):ri:=match s with
 |.FunctionDef _ _ b _ _ _ _ _ _ _=>b
 |_=>[]
def ao(s:pe):L9:=match s with
 |.FunctionDef _ _ _ _ _ _ sc _ _ _=>sc
 |_=>{ kind:=.function,names:=[],isGenerator:=MD,isCoroutine:=MD }
abbrev OT:Rc:=λ_ _ _ _ _ _=>False
abbrev E0:XK:=λ_ _ _=>False
theorem uI{X:Cx}:Passes OT X E0:=λ_ _ _ _ _ _ _ h=>h.elim
structure RX(K:J1)(x qual:Str)(st:pe)(f:pd)(fd:FuncData):Prop where
 ex:∃(oc:J3) (od:Option pd) (kV doc pm:J3) (an:Option pd) (cdv ct:J3) (osl:Array (Option J3)),
  fd=Kc x qual (aZ st) (aL st) (ao st) .none kV doc pm an cdv ct/\K.lookup f=MA #[oc,od,.func fd,osl]/\Lv K cdv qual=MC
 kp:Ky K (.ref f)=MC
section
variable{P:Ju}{w:JV}{K:J1}{mg:Str->Option J3}{base:pq}
def RX.ok{x qual:Str}{st:pe}{f:pd}{fd:FuncData}{N ps:rq}{k:Nat}{sp:Sp}(F:RX K x qual st f fd)(S:NB N ps (ao st))(len:∀vs H Q E,sp vs H Q E->vs.length=ps.length)
 (a:∀(cdv:J3)(A:JP)(outer:List Env)(s:J5)(H:Hp)(vs:r4)(Q:VK)(E:XK),NL k (A.deeper (Mg qual (ao st) s.z f cdv))->sp vs H Q E->
  ∃t,PM (gJ OT P w K mg base N qual (ao st) f cdv A outer s H E).nox (aL st) t/\t { nx:=λ_ d=>Q .non d,rt:=Q } (start N vs) H):Ni P w K mg base OT (k+1) f fd ps sp:=by
 let[oc,od,kV,e,j,an,cdv,ct,osl,5,g,b]:=F.ex
 refine Ci g b S len λA outer s H vs Q E i c=>?_
 let[t,h,q]:=a cdv A outer s H vs Q E i c
 exact #[t,h.nox,q]
def RX.binds{x qual:Str}{st:pe}{f:pd}{fd:FuncData}{ps:rq}(F:RX K x qual st f fd) (h:∀(kV a b:J3)(an:Option pd)(cdv ct:J3)(us:List J3),us.length=ps.length->LR (Kc x qual (aZ st) (aL st) (ao st) .none kV a b an cdv ct) #[us,[]]=pure (ps.zip us)):Binds K fd ps []:=by let[oc,od,kV,a,b,an,cdv,ct,osl,5,d,c]:=F.ex;exact .all (h kV a b an cdv ct)
theorem oO{x qual:Str}{st:pe}{f:pd}{oc:J3}{od an:Option pd}{osl:Array (Option J3)}{kV a b cdv ct:J3}(l:K.lookup f=MA #[oc,od,.func (Kc x qual (aZ st) (aL st) (ao st) .none kV a b an cdv ct),osl]) (c:Lv K cdv qual=MC) (k:Ky K (.ref f)=MC):RX K x qual st f (Kc x qual (aZ st) (aL st) (ao st) .none kV a b an cdv ct):=#[#[oc,od,kV,a,b,an,cdv,ct,osl,5,l,c],k]
end
def ju{A B:Prop}(h:A):if MC=MC then A else B:=by rw[MF rfl];exact h
def bF{c A B:Prop}[Decidable c](h1:c->A)(h2:¬c->B):if c then A else B:=by
 by_cases h:c
 .rw[MF h];exact h1 h
 .rw[ME h];exact h2 h
section
variable{κ:Type}[DecidableEq κ]
def fK(kvs:List (κ×V))(k:κ):Option V:=(kvs.find? λa=>decide (a.1=k)).map (·.2)
def putK(kvs:List (κ×V))(k:κ)(v:V):List (κ×V):=
 if(kvs.any λa=>decide (a.1=k))=MC then kvs.map (λa=>if a.1=k then(a.1,v)else a)else kvs++[(k,v)]
def b8{p:κ×V}{r:List (κ×V)}{k:κ}(e:p.1=k):fK (p::r) k=MA p.2:=by simp[fK,JK,e]
def cw{p:κ×V}{r:List (κ×V)}{k:κ}(e:¬p.1=k):fK (p::r) k=fK r k:=by simp[fK,JK,e]
theorem eK(k:κ):∀kvs:List (κ×V),(kvs.any λa=>decide (a.1=k))=(fK kvs k).isSome
 |[]=>rfl
 |p::r=>by
  rw[LH]
  by_cases e:p.1=k
  .simp only[b8 e,MI e,Bool.true_or,Option.isSome_some]
  .rw[cw e,MG e,Bool.false_or];exact eK k r
theorem qI(k j:κ)(y:V):∀kvs:List (κ×V),fK (kvs.map λa=>if a.1=k then(a.1,y)else a) j=(fK kvs j).map λx=>if j=k then y else x
 |[]=>rfl
 |p::r=>by
  let b:=qI k j y r
  rw[Ji]
  by_cases h:p.1=k
  .rw[MF h]
   by_cases e:p.1=j
   .rw[b8 (p:=(p.1,y)) e,b8 e,Option.map_some,MF (e.symm.trans h)]
   .rw[cw (p:=(p.1,y)) e,cw e,b]
  .rw[ME h]
   by_cases e:p.1=j
   .rw[b8 (p:=p) e,b8 e,Option.map_some,ME (λz=>h (e.trans z))]
   .rw[cw (p:=p) e,cw e,b]
theorem nK(k j:κ)(y:V):∀kvs:List (κ×V),fK kvs k=MB->fK (kvs++[(k,y)]) j=if j=k then MA y else fK kvs j
 |[],_=>by
  by_cases e:k=j
  .rw[MF e.symm];exact b8 (p:=(k,y)) e
  .rw[ME (λz=>e z.symm)];exact cw (p:=(k,y)) e
 |p::r,hn=>by
  rw[List.cons_append]
  let a:¬p.1=k:=λz=>by rw[b8 z]at hn;cases hn
  rw[cw a]at hn
  let b:=nK k j y r hn
  by_cases e:p.1=j
  .rw[b8 e,b8 e,ME (λz=>a (e.trans z))]
  .rw[cw e,cw e,b]
def zE(kvs:List (κ×V))(k j:κ)(y:V):fK (putK kvs k y) j=if j=k then MA y else fK kvs j:=by
 unfold putK;by_cases a:(kvs.any λb=>decide (b.1=k))=MC
 .rw[MF a,qI];rw[eK]at a;by_cases e:j=k
  .obtain⟨x,hx⟩:=Option.isSome_iff_exists.mp a;rw[MF e,e,hx,Option.map_some,MF rfl]
  .rw[ME e];cases fK kvs j with
   |none=>rfl
   |some x=>rw[Option.map_some,ME e]
 .rw[ME a];refine nK k j y kvs ?_;rw[eK]at a;cases q:fK kvs k with
  |none=>rfl
  |some x=>rw[q]at a;exact(a rfl).elim
def gz(kvs:List (κ×V))(k:κ)(v:V):(putK kvs k v).length<=kvs.length+1:=by
 unfold putK;split
 .rw[J4];omega
 .rw[Ke,Jz,List.length_nil];omega
def jd.jF{o:Option V}{u:Option J3}(r:jd o u):o.isSome=u.isSome:=by
 cases o with
 |none=>cases u with
  |none=>rfl
  |some _=>exact(show False from r).elim
 |some _=>cases u with
  |none=>exact(show False from r).elim
  |some _=>rfl
def KV.val{kvs:List (κ×V)}{vs:List (κ×J3)}(r:KV kvs vs)(k:κ):jd (fK kvs k) (valueAt vs k):=by
 unfold KV at r
 induction r with
 |nil=>exact LJ
 |@cons p q ps qs h t ih=>
  let[h1,h2]:=h
  by_cases e:p.1=k
  .have a:q.1=k:=h1.symm.trans e;let b:valueAt (q::qs) k=MA q.2:=by simp[valueAt,JK,a]
   rw[b8 e,b];exact h2
  .have a:¬q.1=k:=λz=>e (h1.trans z);let b:valueAt (q::qs) k=valueAt qs k:=by simp[valueAt,JK,a]
   rw[cw e,b];exact ih
def KV.any{kvs:List (κ×V)}{vs:List (κ×J3)}(r:KV kvs vs)(k:κ):(kvs.any λa=>decide (a.1=k))=vs.any λa=>decide (a.1=k):=by
 unfold KV at r
 induction r with
 |nil=>rfl
 |cons h t b=>rw[LH,LH,b,h.1]
def KV.Fe{kvs:List (κ×V)}{vs:List (κ×J3)}(r:KV kvs vs)(k:κ){y:V}{u:J3}(b:RelV y u) :
 KV (kvs.map λa=>if a.1=k then(a.1,y)else a) (vs.map λa=>if a.1=k then(a.1,u)else a):=by
 unfold KV at r ⊢
 induction r with
 |nil=>exact .nil
 |@cons p q ps qs h t ih=>
  rw[Ji,Ji]
  refine .cons ?_ ih
  let[h1,h2]:=h
  by_cases e:p.1=k
  .rw[MF e,MF (h1.symm.trans e)];exact #[h1,b]
  .rw[ME e,ME (λz=>e (h1.trans z))];exact #[h1,h2]
def KV.put{kvs:List (κ×V)}{vs:List (κ×J3)}(r:KV kvs vs)(k:κ){y:V}{u:J3}(a:RelV y u):KV (putK kvs k y) (stored vs k u):=by
 unfold putK stored;rw[r.any k];by_cases e:(vs.any λb=>decide (b.1=k))=MC
 .rw[MF e,MF e];exact r.Fe k a
 .rw[ME e,ME e];exact Paired.snoc r #[5,a]
theorem KV.length{kvs:List (κ×V)}{vs:List (κ×J3)}(r:KV kvs vs):kvs.length=vs.length:=Paired.length r
end
def yU{P:Ju}{w:JV}{k:Key}{u:J3}(r:RelV (kV k) u):(bX P w).is k u=MC:=by
 cases k with
 |inl i=>let[t,e]:=(show ∃t,u=Value.int i t from r);subst e;exact qf P w i t
 |inr x=>let[t,e]:=(show ∃t,u=Value.str x t from r);subst e;exact rk P w x t
theorem nT{P:Ju}{w:JV}:∀{ks:List Key}{us:List J3},Vals (ks.map kV) us->ItemsAre (bX P w) ks us
 |[],_,r=>by rw[Lp]at r;cases r;exact .nil
 |k::ks,_,r=>by
  rw[Ji]at r
  cases r with
  |cons h t=>exact .cons (yU h) (nT t)
abbrev KT(H:Hp):List (List Key×V)->List (List Key×pd×J3)->Prop:=Mq λp q=>p.1=q.1/\H q.2.1=MA (.tup (p.1.map kV))/\RelV p.2 q.2.2
def KT.val{H:Hp}{kvs:List (List Key×V)}{xs:List (List Key×pd×J3)}(r:KT H kvs xs)(k:List Key):jd (fK kvs k) ((atKey xs k).map (·.2)):=by
 induction r with
 |nil=>exact LJ
 |@cons p q ps qs h t ih=>
  let[h1,_,h2]:=h
  by_cases e:p.1=k
  .have a:q.1=k:=h1.symm.trans e;let b:atKey (q::qs) k=MA q.2:=by simp[atKey,JK,a]
   rw[b8 e,b];exact h2
  .have a:¬q.1=k:=λz=>e (h1.trans z);let b:atKey (q::qs) k=atKey qs k:=by simp[atKey,JK,a]
   rw[cw e,b];exact ih
def KT.Fe{H:Hp}{kvs:List (List Key×V)}{xs:List (List Key×pd×J3)}(r:KT H kvs xs)(k:List Key){y:V}{u:J3}(b:RelV y u) :
 KT H (kvs.map λa=>if a.1=k then(a.1,y)else a) (xs.map (putAt k u)):=by
 induction r with
 |nil=>exact .nil
 |@cons p q ps qs h t ih=>
  rw[Ji,Ji]
  refine .cons ?_ ih
  let[h1,h2,c]:=h
  unfold putAt
  by_cases e:p.1=k
  .rw[MF e,MF (h1.symm.trans e)];exact #[h1,h2,b]
  .rw[ME e,ME (λz=>e (h1.trans z))];exact #[h1,h2,c]
def KT.put{H:Hp}{kvs:List (List Key×V)}{xs:List (List Key×pd×J3)}(r:KT H kvs xs)(k:List Key){b:pd}{y:V}{u:J3}(c:H b=MA (.tup (k.map kV)))(a:RelV y u) :
 KT H (putK kvs k y) (storedH xs k b u):=by
 let e:(kvs.any λd=>decide (d.1=k))=(atKey xs k).isSome:=by
  rw[eK,(r.val k).jF,Option.isSome_map]
 unfold putK storedH
 rw[e]
 by_cases q:(atKey xs k).isSome=MC
 .rw[MF q,MF q];exact r.Fe k a
 .rw[ME q,ME q];exact Paired.snoc r #[5,c,a]
theorem KT.keeps{H a:Hp}{kvs:List (List Key×V)}{xs:List (List Key×pd×J3)}(r:KT H kvs xs)(d:∀b c,H b=MA (.tup c)->a b=MA (.tup c)):KT a kvs xs:=Paired.FG r λ_ _ z=>#[z.1,d _ _ z.2.1,z.2.2]
section
variable{P:Ju}{w:JV}{H:Hp}{h:pq}{a:pd}
theorem Cu{u:HO}(ok:OD P w H h)(e:Rd H a u):bL P w H h a u:=e.ok ok
theorem CF{kvs:List (Key×V)}(ok:OD P w H h)(e:Rd H a (.dK kvs)):kvs.length<=Jo/\(a==L8)=MD/\∃vs,KV kvs vs/\h.DictOf (bX P w) a vs:=show bL P w H h a (.dK kvs)from Cu ok e
theorem FK{kvs:List (Key×V)}(ok:OD P w H h)(e:H a=MA (.dK kvs)):kvs.length<=Jo/\(a==L8)=MD/\∃vs,KV kvs vs/\h.DictOf (bX P w) a vs:=CF ok (.inl e)
def rQ{ks:List Key}(ok:OD P w H h)(e:H a=MA (.tup (ks.map kV))):(tupleKind (bX P w)).is h ks a:=by obtain⟨_,b,r,⟨o,h1,h2,n,c⟩,_⟩:=(show bL P w H h a (.tup (ks.map kV))from ok a _ e);exact #[o,b.toArray,n,h1,h2,c,‹nT r›]
def CJ{kvs:List (List Key×V)}(ok:OD P w H h)(e:Rd H a (.dT kvs)):kvs.length<=Jo/\(a==L8)=MD/\
 ∃xs,KT H kvs xs/\h.DictOfH (tupleKind (bX P w)) a xs:=by
 let[z,y,xs,r,o,b,c,h1,h2,d,f,g]:=(show bL P w H h a (.dT kvs)from Cu ok e)
 refine #[z,y,xs,r,o,b,c,h1,h2,d,f,λx hx=>?_,g]
 let all:∀{l:List (List Key×V)} {m:List (List Key×pd×J3)},KT H l m->∀x∈m,(tupleKind (bX P w)).is h x.1 x.2.1:=by
  intro l m q
  induction q with
  |nil=>intro x hx;exact nomatch hx
  |@cons p q ps qs hq t ih=>
   intro x hx
   rcases JM.mp hx with e|hx
   .subst e
    exact rQ ok (by rw[<-hq.1];exact hq.2.1)
   .exact ih x hx
 exact all r x hx
theorem GR{kvs:List (List Key×V)}(ok:OD P w H h)(e:H a=MA (.dT kvs)):kvs.length<=Jo/\(a==L8)=MD/\∃xs,KT H kvs xs/\h.DictOfH (tupleKind (bX P w)) a xs:=CJ ok (.inl e)
end
def CW(H:Hp)(a:pd)(y:V)(r:Option V):Prop:=
 (∃kvs k,Rd H a (.dK kvs)/\y=kV k/\r=fK kvs k)\/∃kvs k b,Rd H a (.dT kvs)/\y=.ref b/\H b=MA (.tup (k.map kV))/\r=fK kvs k
def Gk(H:Hp)(a:pd)(y v:V)(c:Hp):Prop:=
 (∃kvs k,H a=MA (.dK kvs)/\y=kV k/\kvs.length<Jo/\c=upd H a (.dK (putK kvs k v)))\/
 ∃kvs k b,H a=MA (.dT kvs)/\y=.ref b/\H b=MA (.tup (k.map kV))/\kvs.length<Jo/\c=upd H a (.dT (putK kvs k v))
section
variable{X:Cx}{MP:p4}{σ:St}{H:Hp}{s:J5}{a:pd}{y v:V}{u r:J3}{o:Option V}{A:JP}{E:J3->J5->Prop}
def Inv.big(I:Inv X MP σ H s):L8<s.z:=by let h:K6<s.z:=(I.mod.glob.keeps I.bk).lt;exact Nat.lt_trans ⋯ h
def Bc{Q:J3->J5->Prop}(m:A.units+1<Kh)(I:Inv X MP σ H s)(g:CW H a y o)(i:RelV y u)(h:∀j,Inv X MP σ H j->Q (.bool (!o.isSome)) j) : Jj (Jn X.prog X.w) A (JY .NotIn u (.ref a)) Q E s:=by
 rcases g with⟨kvs,k,e,d,l⟩|⟨kvs,k,b,e,d,eb,l⟩
 .subst d;let[z,hd,vs,c,f]:=CF I.hok e;refine wpAny_notIn_of (yU i) hd f.mapOf ?_;rw[<-(c.val k).jF,<-l];exact h _ (I.tok _)
 .subst d;cases (show u=Kd b from i);let[z,hd,xs,c,f]:=CJ I.hok e;refine wpAny_notIn_heap (tupleKind_room_in1 m) (rQ I.hok eb) hd f ?_;let q:=(c.val k).jF;rw[Option.isSome_map]at q;rw[<-q,<-l];exact h _ (I.tok _)
theorem jl{h':pq}{t':Nat}{c:HO}(I:Inv X MP σ H s)(d:Xm (H a))(f:Lg a s.heap h')(g:∃q,h'.get? a=MA q)(new:bL X.prog X.w (upd H a c) h' a c) : Inv X MP σ (upd H a c) { s with heap:=h',toks:=t' }:=I.write (x:=a) (e:=a) d (.inl rfl) (λb q h z=>(f.2 b h).trans z) g new
theorem D4{P:Ju}{w:JV}{c:Hp}{h':pq}{kvs:List (Key×V)}{vs:List (Key×J3)}(z:kvs.length<=Jo)(hd:(a==L8)=MD)(b:KV kvs vs)(d:h'.DictOf (bX P w) a vs) : bL P w c h' a (.dK kvs):=#[z,hd,vs,b,d]
def vj{B:Hp}{Q:Unit->J5->Prop}(K:A.units+1<Kh)(I:Inv X MP σ H s)(g:Gk H a y v B)(C:RelV y u)(D:RelV v r)(h:∀F,Inv X MP σ B F->Q .unit F) : Jj (Jn X.prog X.w) A (setItem (.ref a) u r) Q E s:=by
 rcases g with⟨kvs,k,e,j,l,m⟩|⟨kvs,k,b,e,j,eb,l,m⟩
 .subst j m;let[z,hd,vs,d,n]:=FK I.hok e;let p:vs.length<=Jo:=by rw[<-d.length];exact z
  let t:(putK kvs k v).length<=Jo:=by have:=gz kvs k v;omega
  refine wpAny_setItem_pairs (hsz:=p) (yU C) n λG f x=>h _ ?_;let L:∃q,G.get? a=MA q:=let⟨q,_,_,i,_⟩:=f;#[q,i]
  exact jl I (by rw[e];exact LJ) x L (D4 t hd (d.put k D) f)
 .subst j m;cases (show u=Kd b from C);let[z,hd,xs,d,n]:=GR I.hok e;let p:xs.length<=Jo:=by rw[<-Paired.length d];exact z
  let t:(putK kvs k v).length<=Jo:=by have:=gz kvs k v;omega
  refine wpAny_setItem_heap (hsz:=p) (tupleKind_room_in1 K) (rQ I.hok eb) n λG f x=>h _ ?_;let[q,M,N,i,h2,O,P,_,R]:=f;refine jl I (by rw[e];exact LJ) x #[q,i] #[t,hd,_,(d.put k eb D).keeps λc S J=>?_,q,M,N,i,h2,O,P,R];rw[aE (Hb J e (λz=>nomatch z))];exact J
end
def FX(i:pv):Prop:=∀a b,subscripted i MD a b=operate [a,b] (getItem a b)
def A3(ty c:TE):TE:=λσ H Q=>ty σ H λy H1=>c σ H1 λx b=>∃a o,x=.ref a/\CW b a y o/\Q (.bl (!o.isSome)) b
def Hl(c ty d:TE):TS:=λD σ H=>d σ H λv H1=>c σ H1 λx e=>ty σ e λy f=>∃a b,x=.ref a/\Gk f a y v b/\D.nx σ b
section
variable{X:Cx}{o i e value:pv}{pos pos' MR:Pos}{td ty tv:TE}
def vd(b:X.A.units+1<Kh)(c:PE X i ty)(d:PE X o td):PC X .NotIn i o (A3 ty td):=by intro MP s σ H Q I h;refine NJ (c MP s σ H _ I h) λv f ⟨y,H1,j,k,l⟩=>NJ (d MP f σ H1 _ j l) λu w ⟨x,m,n,p,a,q,ex,g,r⟩=>?_;subst ex;obtain rfl:u=Kd a:=p;exact Bc b n g k λz t=>#[.bl (!q.isSome),m,t,5,r]
def AH(b:X.A.units+1<Kh)(c:PE X o td)(d:PE X i ty)(hv:PE X value tv)(f:La value (MA (.Subscript o i pos')) pos.line X.env=pure MD) : PS X (.Assign [.Subscript o i pos'] value pos) (Hl td ty tv):=by intro MP s σ H D I h;refine wpAny_Assign_Subscript (NJ (hv MP s σ H _ I h) λr j ⟨v,H1,k,l,m⟩=>NJ (c MP j σ H1 _ k m) λu n ⟨x,p,q,t,w⟩=>NJ (d MP n σ p _ q w) λG J ⟨y,K,z,B,a,C,ex,g,E⟩=>?_) f;subst ex;obtain rfl:u=Kd a:=t;exact vj b z g B l λL F=>#[σ,C,F,E]
end
theorem yD{P:Ju}{w:JV}{H:Hp}(h:pq)(a:L8<h.objs.size):bL P w H (h.push { cls:=.type "dict",data:=.dict #[] }) h.objs.size (.dK []):=#[K3 _,beq_eq_false_iff_ne.mpr (Ne.symm (JF a)),[],.nil,Heap.DictOf.new h]
def Du:TE:=λ_ H Q=>∀p,H p=MB->Q (.ref p) (upd H p (.dK []))
section
variable{X:Cx}{pos:Pos}
theorem xF:PE X (.Dict [] [] pos) Du:=λMP s σ H Q I h=>wpAny_Dict_empty #[.ref s.z,_,I.laid (a:=s.z) (o:=.dK []) (t':=s.toks) (λ_ _ q=>J6 _ q) (Je _) (yD s.heap I.big),5,h _ (I.hok.fresh (Je _))]
end
end L2
namespace SD
def yt{c:Type}{l:List c}(h:l.length=1):∃a,l=[a]:=by
 cases l with
 |nil=>cases h
 |cons a l=>
  cases l with
  |nil=>exact #[a,rfl]
  |cons b l=>cases h
def CS{b:Type}{n:Nat}{l:List b}(h:l.length=n+1):∃a r,l=a::r/\r.length=n:=by
 cases l with
 |nil=>cases h
 |cons a l=>exact #[a,l,5,Nat.succ.inj h]
def rN{c:Type}{l:List c}(h:l.length=2):∃a b,l=[a,b]:=by let[a,r,5,h2]:=CS h;let[b,5]:=yt h2;exact #[a,b,rfl]
def GY{d:Type}{l:List d}(h:l.length=3):∃a b c,l=[a,b,c]:=by let[a,r,5,h2]:=CS h;let[b,c,5]:=rN h2;exact #[a,b,c,rfl]
def Ib{e:Type}{l:List e}(h:l.length=4):∃a b c d,l=[a,b,c,d]:=by let[a,r,5,h2]:=CS h;let[b,c,d,5]:=GY h2;exact #[a,b,c,d,rfl]
open PySem PySem.Spec PyProof.Rows L2
inductive D where
 |non|bl (b:Bool)|int (i:Int)|str (x:Str)|ty (n:String)|ref (a:pd)|rol (ds:List D)|tup (ds:List D)
abbrev _root_.sq(g:Nat):SD.D:=.int (g:Int)
abbrev _root_.sk:=Option D
abbrev _root_.sg:=List D
abbrev _root_.r_:=List (sk)
def SV(K:J1)(H:Hp)(a:pd)(xs:r4):Prop:=
 (∃o,H a=MA (.frz o (.lst xs)))\/
  ∃(o:Obj) (b:Array J3) (n:Nat),K.lookup a=MA o/\o.cls=.type "list"/\o.dict=MB/\o.data=.seq b n/\b.size<=Jo/\Vals xs b.toList
def SV.sql{K:J1}{H:Hp}{a:pd}{xs:r4}(h:SV K H a xs):NX K H a xs:=by
 rcases h with h|h
 .exact .inl (.inr h)
 .exact .inr h
mutual
def Rep(K:J1)(H:Hp):D->V->Prop
 |.non,v=>v=.non
 |.bl b,v=>v=.bl b
 |.int i,v=>v=.int i
 |.str x,v=>v=.str x
 |.ty n,v=>v=.ty n
 |.ref a,v=>v=.ref a
 |.rol ds,v=>∃a xs,v=.ref a/\SV K H a xs/\aD K H ds xs
 |.tup ds,v=>∃a xs,v=.ref a/\NW K H a xs/\aD K H ds xs
def aD(K:J1)(H:Hp):sg->r4->Prop
 |[],xs=>xs=[]
 |d::ds,xs=>∃x r,xs=x::r/\Rep K H d x/\aD K H ds r
end
structure ND(K:J1)(H H':Hp):Prop where
 t:∀a xs,NW K H a xs->NW K H' a xs
 f:∀a xs,SV K H a xs->SV K H' a xs
theorem ND.refl{K:J1}{H:Hp}:ND K H H:=#[λ_ _ h=>h,λ_ _ h=>h]
theorem ND.trans{K:J1}{H H1 c:Hp}(a:ND K H H1)(b:ND K H1 c):ND K H c:=#[λx y h=>b.t x y (a.t x y h),λx y h=>b.f x y (a.f x y h)]
def ND.put{K:J1}{H:Hp}{p:pd}{o:HO}(h1:∀xs,H p≠MA (.tup xs))(h2:∀u xs,H p≠MA (.frz u xs)):ND K H (upd H p o):=by
 refine #[λa xs h=>?_,λa xs h=>?_]
 .rcases h with(h|⟨u,h⟩)|h
  .exact .inl (.inl (by rw[aE (by intro e;subst e;exact h1 _ h)];exact h))
  .exact .inl (.inr #[u,by rw[aE (by intro e;subst e;exact h2 _ _ h)];exact h])
  .exact .inr h
 .rcases h with⟨u,h⟩|h
  .exact .inl #[u,by rw[aE (by intro e;subst e;exact h2 _ _ h)];exact h]
  .exact .inr h
theorem ND.new{K:J1}{H:Hp}{p:pd}{o:HO}(h:H p=MB):ND K H (upd H p o):=.put (λxs e=>by rw[h]at e;cases e) (λu xs e=>by rw[h]at e;cases e)
theorem ND.lst{K:J1}{H:Hp}{p:pd}{o:HO}{xs:r4}(h:H p=MA (.lst xs)):ND K H (upd H p o):=.put (λa e=>by rw[h]at e;cases e) (λu a e=>by rw[h]at e;cases e)
mutual
theorem Rep.mono{K:J1}{H b:Hp}(g:ND K H b):∀{d:D}{v:V},Rep K H d v->Rep K b d v
 |.non,_,h=>h
 |.bl _,_,h=>h
 |.int _,_,h=>h
 |.str _,_,h=>h
 |.ty _,_,h=>h
 |.ref _,_,h=>h
 |.rol ds,_,h=>by
  rw[Rep]at h ⊢
  let[a,xs,e,h1,h2]:=h
  exact #[a,xs,e,g.f _ _ h1,aD.mono g h2]
 |.tup ds,_,h=>by
  rw[Rep]at h ⊢
  let[a,xs,e,h1,h2]:=h
  exact #[a,xs,e,g.t _ _ h1,aD.mono g h2]
theorem aD.mono{K:J1}{H a:Hp}(g:ND K H a):∀{ds:sg}{xs:r4},aD K H ds xs->aD K a ds xs
 |[],_,h=>h
 |d::ds,_,h=>by
  rw[aD]at h ⊢
  let[x,r,e,h1,h2]:=h
  exact #[x,r,e,Rep.mono g h1,aD.mono g h2]
end
section
variable{K:J1}{H H':Hp}
def aD.nil:aD K H [] []:=by rw[aD]
def aD.cons{d:D}{ds:sg}{x:V}{r:r4}(a:Rep K H d x)(b:aD K H ds r):aD K H (d::ds) (x::r):=by rw[aD];exact #[x,r,5,a,b]
theorem aD.length:∀{ds:sg}{xs:r4},aD K H ds xs->ds.length=xs.length
 |[],xs,h=>by rw[aD]at h;subst h;rfl
 |d::ds,xs,h=>by
  rw[aD]at h
  let[x,r,5,_,h2]:=h
  simp[aD.length h2]
theorem aD.get:∀{ds:sg}{xs:r4}{i:Nat}{d:D},aD K H ds xs->ds[i]?=MA d->∃x,xs[i]?=MA x/\Rep K H d x
 |[],_,_,_,_,e=>by simp at e
 |_::_,xs,0,_,h,e=>by
  rw[aD]at h
  let[x,r,5,h1,_]:=h
  simp at e;subst e
  exact #[x,5,h1]
 |_::ds,xs,i+1,d,h,e=>by
  rw[aD]at h
  let[x,r,5,_,h2]:=h
  simpa using aD.get (i:=i) (d:=d) h2 ‹e›
theorem aD.set{d:D}{x:V}(a:Rep K H d x):∀{ds:sg}{xs:r4}(i:Nat),aD K H ds xs->aD K H (ds.set i d) (xs.set i x)
 |[],_,_,h=>by rw[aD]at h;subst h;simp[aD.nil]
 |_::_,_,0,h=>by
  rw[aD]at h
  let[y,r,5,_,h2]:=h
  exact .cons a h2
 |_::ds,_,i+1,h=>by
  rw[aD]at h
  let[y,r,5,h1,h2]:=h
  exact .cons h1 (aD.set a i h2)
theorem aD.append:∀{ds es:sg}{xs a:r4},aD K H ds xs->aD K H es a->aD K H (ds++es) (xs++a)
 |[],_,_,_,h,k=>by rw[aD]at h;subst h;exact k
 |_::ds,_,_,_,h,k=>by
  rw[aD]at h
  let[y,r,5,h1,h2]:=h
  exact .cons h1 (aD.append h2 k)
theorem aD.of_get:∀{ds:sg}{xs:r4},ds.length=xs.length->(∀(i:Nat) d x,ds[i]?=MA d->xs[i]?=MA x->Rep K H d x)->aD K H ds xs
 |[],[],_,_=>.nil
 |[],_::_,h,_=>by simp at h
 |_::_,[],h,_=>by simp at h
 |d::ds,x::xs,h,k=>.cons (k 0 d x rfl rfl) (aD.of_get ‹h› λi d x a b=>k (i+1) d x ‹a› ‹b›)
def aD.take{ds:sg}{xs:r4}(n:Nat)(h:aD K H ds xs):aD K H (ds.take n) (xs.take n):=by
 refine .of_get (by simp[h.length]) λi d x a b=>?_
 let c:i<n:=by
  rw[List.getElem?_take]at a;split at a
  .assumption
  .cases a
 rw[List.getElem?_take_of_lt c]at a b;let[y,e,r]:=h.get a;rw[e]at b;cases b;exact r
def aD.drop{ds:sg}{xs:r4}(n:Nat)(h:aD K H ds xs):aD K H (ds.drop n) (xs.drop n):=by refine .of_get (by simp[h.length]) λi d x a b=>?_;rw[List.getElem?_drop]at a b;let[y,e,r]:=h.get a;rw[e]at b;cases b;exact r
theorem fE:∀(ns:q_),aD K H (ns.map D.int) (ns.map V.int)
 |[]=>.nil
 |n::ns=>.cons (by rw[Rep]) (fE ns)
end
def IF(a C:pd):pq->Prop:=λh=>∃o,h.get? a=MA o/\o.cls=.ref C
inductive MO where
 |lst (ds:sg)|err (C:pd)
 |dct (n:Nat) (P:q_->Bool)
 |gen (A:J1->Hp->pd->Prop)
abbrev MH:=pd->Option MO
def mQ(K:J1)(H:Hp)(a:pd):MO->Prop
 |.lst c=>∃xs,H a=MA (.lst xs)/\aD K H c xs
 |.err C=>H a=MA (.ext (IF a C))
 |.dct n P=>∃kvs:List (List Key×V),H a=MA (.dT kvs)/\kvs.length<=n/\∀k:q_,(kvs.any λd=>decide (d.1=k.map Sum.inl))=P k
 |.gen A=>A K H a/\H a≠MB/\∀b,ND K H b->b a=H a->A K b a
def NM(K:J1)(H:Hp)(M:MH):Prop:=∀a o,M a=MA o->mQ K H a o
def av(M:MH)(a:pd)(o:MO):MH:=λb=>if b=a then MA o else M b
def ag{M:MH}{a:pd}{o:MO}:av M a o a=MA o:=by unfold av;rw[MF rfl]
def ak{M:MH}{a b:pd}{o:MO}(h:b≠a):av M a o b=M b:=by unfold av;rw[ME h]
def bE{M:MH}{a:pd}{o u:MO}:av (av M a o) a u=av M a u:=by funext b;unfold av;split<;>rfl
section
variable{K:J1}{H H':Hp}{M:MH}
def mQ.some{a:pd}{o:MO}(h:mQ K H a o):H a≠MB:=by
 cases o with
 |lst b=>
  let[xs,h1,_]:=h
  rw[h1];simp
 |err C=>rw[show H a=_ from h];simp
 |dct n P=>
  let[kvs,h1,_]:=h
  rw[h1];simp
 |gen A=>exact h.2.1
def NM.fresh(h:NM K H M){p:pd}(a:H p=MB):M p=MB:=by
 cases e:M p with
 |none=>rfl
 |some o=>exact absurd a (h p o e).some
def mQ.fJ{a:pd}{o:MO}(g:ND K H H')(e:H' a=H a)(h:mQ K H a o):mQ K H' a o:=by
 cases o with
 |lst d=>
  let[xs,h1,h2]:=h
  exact #[xs,e.trans h1,h2.mono g]
 |err C=>exact e.trans h
 |dct n P=>
  let[kvs,h1,h2]:=h
  exact #[kvs,e.trans h1,h2]
 |gen A=>exact #[h.2.2 H' g e,λz=>h.2.1 (by rw[<-e];exact z),λb c e2=>h.2.2 b (g.trans c) (e2.trans e)]
theorem NM.new{p:pd}{o:HO}(h:NM K H M)(b:H p=MB):NM K (upd H p o) M:=λa u e=>by
 let ne:a≠p:=λz=>by subst z;rw[h.fresh b]at e;cases e
 exact(h a u e).fJ (.new b) (aE ne)
theorem NM.j4{p:pd}{xs:r4}{ds:sg}(h:NM K H M)(b:H p=MB)(r:aD K H ds xs):NM K (upd H p (.lst xs)) (av M p (.lst ds)):=λa u e=>by
 by_cases ne:a=p
 .subst ne;rw[ag]at e;cases e;exact #[xs,aF,r.mono (.new b)]
 .rw[ak ne]at e;exact(h a u e).fJ (.new b) (aE ne)
theorem NM.vg{p:pd}{xs b:r4}{ds:sg}(h:NM K H M)(c:H p=MA (.lst xs))(r:aD K H ds b):NM K (upd H p (.lst b)) (av M p (.lst ds)):=λa u e=>by
 by_cases ne:a=p
 .subst ne;rw[ag]at e;cases e;exact #[b,aF,r.mono (.lst c)]
 .rw[ak ne]at e;exact(h a u e).fJ (.lst c) (aE ne)
theorem NM.sub{b:MH}(h:NM K H M)(s:∀a o,b a=MA o->M a=MA o):NM K H b:=λa o e=>h a o (s a o e)
end
abbrev DS:=r_
structure Slots(K:J1)(H:Hp)(δ:DS)(σ:L2.St):Prop where
 len:δ.length=σ.length
 at':∀(i:Nat) d,δ[i]?=MA (MA d)->∃v,σ[i]?=MA (MA v)/\Rep K H d v
section
variable{K:J1}{H H':Hp}{δ:DS}{σ:L2.St}
theorem Slots.mono(g:ND K H H')(h:Slots K H δ σ):Slots K H' δ σ:=#[h.len,λi d e=>let⟨v,a,b⟩:=h.at' i d e;#[v,a,b.mono g]]
def Slots.set{d:D}{v:V}(r:Rep K H d v)(i:Nat)(h:Slots K H δ σ):Slots K H (δ.set i (MA d)) (σ.set i (MA v)):=by
 refine #[by simp[h.len],λj e q=>?_];rw[List.getElem?_set]at q;by_cases a:i=j
 .subst a;rw[MF rfl]at q;by_cases b:i<δ.length
  .rw[MF b]at q;cases q;exact #[v,by rw[List.getElem?_set,MF rfl,MF (by rw[<-h.len];exact b)],r]
  .rw[ME b]at q;cases q
 .rw[ME a]at q;let[c,e1,e2]:=h.at' j e q;exact #[c,by rw[List.getElem?_set,ME a];exact e1,e2]
def kn{N:rq}{ds:sg}{vs:r4}(r:aD K H ds vs):Slots K H (ds.map MA++JJ (N.length-ds.length) MB) (L2.start N vs):=by
 let b:=r.length;refine #[by unfold L2.start;simp[b],λi d e=>?_];unfold L2.start;by_cases a:i<ds.length
 .rw[JW ‹a›,Jf]at e;cases q:ds[i]? with
  |none=>rw[q]at e;cases e
  |some c=>
   rw[q]at e;cases e
   let[x,e1,e2]:=r.get q
   refine #[x,?_,e2]
   rw[JW (by simp;omega),Jf,e1];rfl
 .rw[JR ‹a›,List.getElem?_replicate]at e;split at e<;>cases e
end
abbrev DK:=D->MH->Prop
abbrev TD:=DS->MH->DK->Prop
abbrev Nh:=DS->MH->(Bool->MH->Prop)->Prop
abbrev N7:=DS->MH->(sg->MH->Prop)->Prop
structure EndsD where
 nx:DS->MH->Prop
 rt:DK
 bk:DS->MH->Prop:=λ_ _=>False
 ct:DS->MH->Prop:=λ_ _=>False
@[reducible] def EndsD.nxt(B:EndsD)(n:DS->MH->Prop):EndsD:={ B with nx:=n }
@[reducible] def EndsD.lp(B:EndsD)(w:DS->MH->Prop):EndsD:={ B with nx:=w,ct:=w,bk:=B.nx }
abbrev Nu:=EndsD->DS->MH->Prop
section
variable(K:J1)
def Fin(H:Hp)(R:DK)(Q:VK):Prop:=∀d b v a,ND K H a->Rep K a d v->NM K a b->R d b->Q v a
def AA(H:Hp)(R:Bool->MH->Prop)(Q:Bool->Hp->Prop):Prop:=∀b c a,ND K H a->NM K a c->R b c->Q b a
def FinA(H:Hp)(R:sg->MH->Prop)(Q:r4->Hp->Prop):Prop:=∀b c vs a,ND K H a->aD K a b vs->NM K a c->R b c->Q vs a
def lift(t:TD):TE:=λσ H Q=>∃δ M R,Slots K H δ σ/\NM K H M/\t δ M R/\Fin K H R Q
def liftT(t:Nh):TT:=λσ H Q=>∃δ M R,Slots K H δ σ/\NM K H M/\t δ M R/\AA K H R Q
def xT(t:N7):TA:=λσ H Q=>∃δ M R,Slots K H δ σ/\NM K H M/\t δ M R/\FinA K H R Q
structure Oh(H:Hp)(B:EndsD)(E:Ends):Prop where
 nx:∀δ M σ H',ND K H H'->Slots K H' δ σ->NM K H' M->B.nx δ M->E.nx σ H'
 rt:∀d M v H',ND K H H'->Rep K H' d v->NM K H' M->B.rt d M->E.rt v H'
 bk:∀δ M σ H',ND K H H'->Slots K H' δ σ->NM K H' M->B.bk δ M->E.bk σ H'
 ct:∀δ M σ H',ND K H H'->Slots K H' δ σ->NM K H' M->B.ct δ M->E.ct σ H'
def CA(t:Nu):TS:=λE σ H=>∃δ M,Slots K H δ σ/\NM K H M/\∃B,Oh K H B E/\t B δ M
end
namespace Zq
@[scoped irreducible]def _root_.SD.DE(X:Cx)(e:pv)(t:TD):Prop:=PE X e (lift X.K t)
@[scoped irreducible]def _root_.SD.DT(X:Cx)(e:pv)(t:Nh):Prop:=PT X e (liftT X.K t)
@[scoped irreducible]def _root_.SD.DW(X:Cx)(e:pv)(t:Nh):Prop:=PW X e (liftT X.K t)
@[scoped irreducible]def _root_.SD.DA(X:Cx)(es:ro)(t:N7):Prop:=PA X es (xT X.K t)
@[scoped irreducible]def _root_.SD.DSt(X:Cx)(st:pe)(t:Nu):Prop:=PS X st (CA X.K t)
@[scoped irreducible]def _root_.SD.DSs(X:Cx)(st:ri)(t:Nu):Prop:=PM X st (CA X.K t)
end Zq
theorem aX{X:Cx}{e:pv}{t t':TE}(h:PE X e t)(k:∀σ H Q,t' σ H Q->t σ H Q):PE X e t':=λMP s σ H Q I q=>h MP s σ H Q I (k σ H Q q)
theorem jC{X:Cx}{e:pv}{t t':TT}(h:PT X e t)(k:∀σ H Q,t' σ H Q->t σ H Q):PT X e t':=λMP s σ H Q I q=>h MP s σ H Q I (k σ H Q q)
theorem xH{X:Cx}{e:pv}{t t':TT}(h:PW X e t)(k:∀σ H Q,t' σ H Q->t σ H Q):PW X e t':=λa MP s σ H Q I q=>h a MP s σ H Q I (k σ H Q q)
theorem xY{X:Cx}{e:ro}{t t':TA}(h:PA X e t)(k:∀σ H Q,t' σ H Q->t σ H Q):PA X e t':=λpos MP s σ H Q I q=>h pos MP s σ H Q I (k σ H Q q)
theorem cn{X:Cx}{e:pe}{t t':TS}(h:PS X e t)(k:∀D σ H,t' D σ H->t D σ H):PS X e t':=λMP s σ H D I q=>h MP s σ H D I (k D σ H q)
theorem oz{X:Cx}{e:ri}{t t':TS}(h:PM X e t)(k:∀D σ H,t' D σ H->t D σ H):PM X e t':=λMP s σ H D I q=>h MP s σ H D I (k D σ H q)
section
variable{K:J1}{H H1 H':Hp}
theorem Fin.go{R:DK}{Q:VK}(g:ND K H H1)(h:Fin K H R Q):Fin K H1 R Q:=λd M v H' a=>h d M v H' (g.trans a)
theorem AA.go{R:Bool->MH->Prop}{Q:Bool->Hp->Prop}(g:ND K H H1)(h:AA K H R Q):AA K H1 R Q:=λb M H' a=>h b M H' (g.trans a)
theorem Oh.go{B:EndsD}{E:Ends}(g:ND K H H1)(h:Oh K H B E):Oh K H1 B E:=#[λd M v H' a=>h.nx d M v H' (g.trans a),λd M v H' a=>h.rt d M v H' (g.trans a),λd M v H' a=>h.bk d M v H' (g.trans a),λd M v H' a=>h.ct d M v H' (g.trans a)]
end
section
variable{X:Cx}
inductive Pz(i:Nat)(δ:DS)(M:MH)(Q:DK):Prop
 |mk (d:D)(h:δ[i]?=MA (MA d))(q:Q d M):Pz i δ M Q
def SY(d:D):TD:=λ_ M Q=>Q d M
theorem dv(i:Nat){x:Str}{pos:Pos}(c:X.N[i]?=MA x:=by rfl)(hv:Xh X.env.scope x:=by first|exact Or.inl rfl|exact Or.inr (Or.inl rfl)|exact Or.inr (Or.inr rfl))(hd:(x==("__debug__":Str))=MD:=by decide)
 (a:(x==("__classdict__":Str))=MD:=by decide):DE X (.Name x pos) (Pz i):=
 aX (Ds c hv hd a) λσ H Q f=>by
  obtain⟨δ,M,R,g,h,⟨d,e,r⟩,b⟩:=f
  let[v,e1,e2]:=g.at' i d e
  exact #[v,e1,b d M v H .refl e2 h r]
theorem dc{e:pv}{v:V}{d:D}(h:PE X e (tC v))(r:∀H,Rep X.K H d v):DE X e (SY d):=aX h λσ H Q a=>by let[δ,M,R,f,c,q,b]:=a;exact(b d M v H .refl (r H) c q)
theorem ai{i j pos}:DE X (.Constant (.int i) j pos) (SY (.int i)):=dc yu λ_=>by rw[Rep]
theorem kh{i j pos}:DE X (.Constant (.bool i) j pos) (SY (.bl i)):=dc Hm λ_=>by rw[Rep]
theorem oP{j pos}:DE X (.Constant .none j pos) (SY .non):=dc El λ_=>by rw[Rep]
theorem j5{x j pos}:DE X (.Constant (.str x) j pos) (SY (.str x)):=dc E5 λ_=>by rw[Rep]
end
abbrev Nx:=D->D->MH->DK->Prop
def jH(K:J1)(r:Nx):R2:=λv u H Q=>∃x y M R,Rep K H x v/\Rep K H y u/\NM K H M/\r x y M R/\Fin K H R Q
def OC(X:Cx)(f:J3->J3->Sem J3)(r:Nx):Prop:=Nq X f (jH X.K r)
def vy(r:Nx)(a b:TD):TD:=λδ M Q=>a δ M λx c=>b δ c λy d=>r x y d Q
theorem iS{X:Cx}{f:J3->J3->Sem J3}{r c:R2}(h:Nq X f r)(k:∀x y H Q,c x y H Q->r x y H Q):Nq X f c:=λMP s σ H x y v u Q I a b q=>h MP s σ H x y v u Q I a b (k _ _ _ _ q)
def lE{K:J1}{r:Nx}{b c:TD}{σ:L2.St}{H:Hp}{Q:VK}(h:lift K (vy r b c) σ H Q):SX (jH K r) (lift K b) (lift K c) σ H Q:=by let[δ,M,R,d,f,q,a]:=h;refine #[δ,M,_,d,f,q,λx g v H1 g1 i j k=>?_];exact #[δ,g,_,d.mono g1,j,k,λy l u p e m n o=>#[x,y,l,R,i.mono e,m,n,o,a.go (g1.trans e)]]
section
variable{X:Cx}{a b:pv}{ta tb:TD}{pos:Pos}
theorem aw{op:Operator}{r:Nx}(c:OC X (Ll op) r)(d:DE X a ta)(e:DE X b tb):DE X (.BinOp a op b pos) (vy r ta tb):=aX (FI c d e) λ_ _ _ h=>lE h
theorem bV{op:CmpOp}{r:Nx}(c:OC X (JY op) r)(d:DE X a ta)(e:DE X b tb)(f:LY op b=MD:=by exact yf _):DE X (.Compare a [op] [b] pos) (vy r ta tb):=aX (BA c d e f) λ_ _ _ h=>lE h
inductive Ra(x:D)(M:MH)(Q:Bool->MH->Prop):Prop
 |mk (c:Bool)(h:x=.bl c)(q:Q c M):Ra x M Q
def tBD(t:TD):Nh:=λδ M Q=>t δ M λx c=>Ra x c Q
def jV{K:J1}{t:TD}{t':TE}(i:∀σ H Q,lift K t σ H Q->t' σ H Q){σ:L2.St}{H:Hp}{Q:Bool->Hp->Prop}(h:liftT K (tBD t) σ H Q):yQ t' σ H Q:=by let[δ,M,R,j,k,q,f]:=h;refine i _ _ _ #[δ,M,_,j,k,q,λx l v H1 g1 g m d=>?_];let[c,e,n]:=d;subst e;rw[Rep]at g;exact #[c,g,f c l H1 g1 m n]
theorem aJ{op:CmpOp}{r:Nx}(c:OC X (JY op) r)(d:DE X a ta)(e:DE X b tb)(f:LY op b=MD:=by exact yf _):DT X (.Compare a [op] [b] pos) (tBD (vy r ta tb)):=jC (B2 c d e f) λ_ _ _ h=>jV (λ_ _ _ h=>lE h) h
theorem eD{e:pv}{t:TD}(h:DE X e t)(d:∀c,isTrue e X.env c=(do let v <-c;standAt e.pos;holding [v] (truthy v)):=by intro _;rfl):DT X e (tBD t):=
 jC (Dk h d) λ_ _ _ h=>jV (t':=lift X.K t) (λ_ _ _ h=>h) h
end
section
variable{X:Cx}{a b c:pv}{ta tb:TD}{tA MQ:Nh}{rest:ro}{pos:Pos}
def CL(t u:Nh):Nh:=λδ M Q=>t δ M λc d=>if c=MC then u δ d Q else Q MD d
def G9(t u:Nh):Nh:=λδ M Q=>t δ M λc d=>if c=MC then Q MC d else u δ d Q
def gm(t:Nh):Nh:=λδ M Q=>t δ M λc d=>Q (!c) d
theorem ib(d:DT X a tA):DW X (.BoolOp .And [a] pos) tA:=BK d
theorem rV(d:DT X a tA):DW X (.BoolOp .Or [a] pos) tA:=Dv d
theorem jS(i:DT X a tA)(j:DW X (.BoolOp .And (b::rest) pos) MQ):DW X (.BoolOp .And (a::b::rest) pos) (CL tA MQ):=
 xH (D5 i j) λσ H Q d=>by let[δ,M,R,g,k,q,e]:=d;exact(#[δ,M,_,g,k,q,λc l H1 g1 h f=>by
  cases c with
  |true=>rw[MF rfl]at f ⊢;exact #[δ,l,R,g.mono g1,h,f,e.go g1]
  |false=>rw[ME Js]at f ⊢;exact e _ _ _ g1 h f])
theorem xl(i:DT X a tA)(j:DW X (.BoolOp .Or (b::rest) pos) MQ):DW X (.BoolOp .Or (a::b::rest) pos) (G9 tA MQ):=
 xH (Gw i j) λσ H Q d=>by let[δ,M,R,g,k,q,e]:=d;exact(#[δ,M,_,g,k,q,λc l H1 g1 h f=>by
  cases c with
  |true=>rw[MF rfl]at f ⊢;exact e _ _ _ g1 h f
  |false=>rw[ME Js]at f ⊢;exact #[δ,l,R,g.mono g1,h,f,e.go g1]])
theorem oS{e:pv}{t:Nh}(h:DW X e t):DT X e t:=PW.pt h
theorem yz(f:DT X a tA):DT X (.UnaryOp .Not a pos) (gm tA):=jC (C0 f) λσ H Q d=>by let[δ,M,R,g,h,q,e]:=d;exact(#[δ,M,_,g,h,q,λc k H1 g1 i j=>e _ _ _ g1 i j])
def ya(ta tb:TD):TD:=λδ M Q=>ta δ M λx d=>Ra x d λc d=>if c=MC then tb δ d Q else Q (.bl MD) d
def EG(ta:TD):TD:=λδ M Q=>ta δ M λx d=>Ra x d λc d=>Q (.bl (!c)) d
theorem pJ{op}{t:TD}(h:DE X a t):DE X (.BoolOp op [a] pos) t:=Es h
theorem mL(j:DE X a ta)(k:DE X (.BoolOp .And (b::rest) pos) tb):DE X (.BoolOp .And (a::b::rest) pos) (ya ta tb):=
 aX (EA j k) λσ H Q ⟨δ,M,R,g,l,q,d⟩=>#[δ,M,_,g,l,q,λx m v H1 g1 h i n=>by
  let[c,e,f]:=n
  subst e
  rw[Rep]at h
  exists c,h
  cases c with
  |true=>rw[MF rfl]at f ⊢;exact #[δ,m,R,g.mono g1,i,f,d.go g1]
  |false=>rw[ME Js]at f ⊢;exact d _ _ _ _ g1 (by rw[Rep]) i f]
theorem yC(h:DE X a ta):DE X (.UnaryOp .Not a pos) (EG ta):=
 aX (Dc h) λσ H Q d=>by let[δ,M,R,i,j,q,f]:=d;exact(#[δ,M,_,i,j,q,λx n v H1 g1 g k l=>by
  let[c,e,m]:=l
  subst e
  rw[Rep]at g
  exact #[c,g,f _ _ _ _ g1 (by rw[Rep]) k m]])
def IW(t:Nh)(ta tb:TD):TD:=λδ M Q=>t δ M λc d=>if c=MC then ta δ d Q else tb δ d Q
theorem j7(j:DT X c tA)(k:DE X a ta)(l:DE X b tb):DE X (.IfExp c a b pos) (IW tA ta tb):=
 aX (x8 j k l) λσ H Q d=>by let[δ,M,R,g,m,q,e]:=d;exact(#[δ,M,_,g,m,q,λc h H1 g1 i f=>by
  cases c with
  |true=>rw[MF rfl]at f ⊢;exact #[δ,h,R,g.mono g1,i,f,e.go g1]
  |false=>rw[ME Js]at f ⊢;exact #[δ,h,R,g.mono g1,i,f,e.go g1]])
end
def ID(r:D->MH->DK->Prop)(a:TD):TD:=λδ M Q=>a δ M λx b=>r x b Q
def Cs(K:J1)(r:D->MH->DK->Prop):V->Hp->VK->Prop:=λv H Q=>∃x M R,Rep K H x v/\NM K H M/\r x M R/\Fin K H R Q
theorem nN{X:Cx}{a:pv}{d:TD}{pos:Pos}{op:UnaryOp}{r:D->MH->DK->Prop}(e:Xi X (unaryOp op) (Cs X.K r))(f:DE X a d):DE X (.UnaryOp op a pos) (ID r d):=aX (FZ e f) λσ H Q b=>by let[δ,M,R,g,h,q,c]:=b;exact(#[δ,M,_,g,h,q,λx i v H1 g1 j k l=>#[x,i,R,j,k,l,c.go g1]])
def zG:N7:=λ_ M Q=>Q [] M
def tG(a:TD)(b:N7):N7:=λδ M Q=>a δ M λx c=>b δ c λxs d=>Q (x::xs) d
section
variable{X:Cx}{e:pv}{es:ro}{te:TD}{t:N7}{pos:Pos}
theorem af:DA X [] zG:=xY yA λσ H Q a=>by let[δ,M,R,d,c,q,b]:=a;exact(b _ _ _ _ .refl .nil c q)
theorem ae(f:DE X e te)(g:DA X es t)(b:Jk (e::es) X.env=(MD,eval e X.env)::Jk es X.env:=by rfl):DA X (e::es) (tG te t):=
 xY (va f g b) λσ H Q a=>by let[δ,M,R,b,h,q,c]:=a;exact(#[δ,M,_,b,h,q,λx i v H1 g1 j k l=>
  #[δ,i,_,b.mono g1,k,l,λxs p vs r d m n o=>c _ _ _ _ (g1.trans d) (.cons (j.mono d) m) n o]])
def FY(t:N7):TD:=λδ M Q=>t δ M λxs a=>xs.length<=Jo/\Q (.tup xs) a
def F6(t:N7):TD:=λδ M Q=>t δ M λxs a=>xs.length<=Jo/\∀p,a p=MB->Q (.ref p) (av a p (.lst xs))
theorem aG{x1}(h:DA X es t):DE X (.Tuple es x1 pos) (FY t):=aX (Dm h) λσ H Q a=>by let[δ,M,R,g,i,q,c]:=a;exact(#[δ,M,_,g,i,q,λxs l vs H1 g1 f j b=>by let[z,k]:=b;exact(#[by rw[<-f.length];exact z,λp d=>c _ _ _ _ (g1.trans (.new d)) (by rw[Rep];exact #[p,vs,5,NW.of aF,f.mono (.new d)]) (j.new d) k])])
theorem bD(h:DA X es t):DE X (.List es pos) (F6 t):=aX (EH h) λσ H Q a=>by let[δ,M,R,i,j,q,c]:=a;exact(#[δ,M,_,i,j,q,λxs l vs H1 g1 f g b=>by let[z,k]:=b;exact(#[by rw[<-f.length];exact z,λp d=>c _ _ _ _ (g1.trans (.new d)) (by rw[Rep]) (g.j4 d f) (k p (g.fresh d))])])
end
def IxD(X:Cx)(r:Nx):Prop:=QK X (jH X.K r)
theorem D9{X:Cx}{r c:R2}(h:QK X r)(k:∀x y H Q,c x y H Q->r x y H Q):QK X c:=λe1 e2 MP s σ H x y v u Q I a b q=>h e1 e2 MP s σ H x y v u Q I a b (k _ _ _ _ q)
theorem E3{X:Cx}{a b:pv}{c d:TD}{pos:Pos}{r:Nx}(e:IxD X r)(f:DE X a c)(g:DE X b d)(i:oR b):DE X (.Subscript a b pos) (vy r c d):=aX (GC e f g i) λ_ _ _ h=>lE h
inductive Zv(ds:sg)(i:Int)(M:MH)(Q:DK):Prop
 |mk (d:D)(h:atI ds i=MA d)(q:Q d M):Zv ds i M Q
inductive AtM(a:pd)(i:Int)(M:MH)(Q:DK):Prop
 |mk (ds:sg)(d:D)(h:M a=MA (.lst ds))(q:atI ds i=MA d/\Q d M):AtM a i M Q
def De:Nx:=λx y M Q=>match x,y with
 |.tup ds,.int i=>Zv ds i M Q
 |.rol ds,.int i=>Zv ds i M Q
 |.ref a,.int i=>AtM a i M Q
 |_,_=>False
def aD.atI{K:J1}{H:Hp}{ds:sg}{xs:r4}{i:Int}{d:D}(h:aD K H ds xs)(e:L2.atI ds i=MA d):∃x,L2.atI xs i=MA x/\Rep K H d x:=by
 unfold L2.atI at e ⊢;rw[<-h.length];cases q:ixN ds.length i with
 |none=>rw[q]at e;cases e
 |some j=>
  rw[q]at e
  exact h.get e
def vh{K:J1}{v u:V}{H:Hp}{Q:VK}(h:jH K De v u H Q):rIx K v u H Q:=by
 let[x,y,M,R,c,g,a,q,b]:=h;unfold De at q;split at q
 .obtain⟨d,e,q⟩:=q;obtain rfl:u=.int _:=g;rw[Rep]at c;let[p,xs,5,i,f]:=c;let[x,e1,e2]:=f.atI e;exact .inr (.inl #[p,xs,_,x,5,5,i,e1,b _ _ _ _ .refl e2 a q])
 .obtain⟨d,e,q⟩:=q;obtain rfl:u=.int _:=g;rw[Rep]at c;let[p,xs,5,i,f]:=c;let[x,e1,e2]:=f.atI e;exact .inl #[p,xs,_,x,5,5,i.sql,e1,b _ _ _ _ .refl e2 a q]
 .obtain⟨k,d,j,e,q⟩:=q;obtain rfl:u=.int _:=g;obtain rfl:v=.ref _:=c;let[xs,hx,f]:=a _ _ j;let[x,e1,e2]:=f.atI e;exact .inl #[_,xs,_,x,5,5,NX.of hx,e1,b _ _ _ _ .refl e2 a q]
 .exact q.elim
theorem az{X:Cx}{a b:pv}{c d:TD}{pos:Pos}(e:DE X a c)(f:DE X b d)(g:oR b:=by exact λ_ _=>rfl):DE X (.Subscript a b pos) (vy De c d):=E3 (D9 Fj λ_ _ _ _ h=>vh h) e f g
def Bd(n:Nat)(i:Int):Prop:=i.natAbs<2^n
instance(n:Nat)(i:Int):Decidable (Bd n i):=inferInstanceAs (Decidable (i.natAbs<2^n))
theorem Bd.mono{m n:Nat}{i:Int}(h:Bd m i)(l:m<=n):Bd n i:=JD h (Nat.pow_le_pow_right ⋯ l)
def Bd.bits{n:Nat}{i:Int}(h:Bd n i):Builtin.Int.intBits i<=n:=by
 unfold Builtin.Int.intBits;split
 .exact K3 _
 .rename_i hz;let h0:i.natAbs≠0:=λe=>hz ‹Int.natAbs_eq_zero.mp e›;exact(Nat.log2_lt h0).mpr h
def Bd.log2{n:Nat}{i:Int}(h:Bd n i)(a:0<n):i.natAbs.log2<n:=by
 by_cases h0:i.natAbs=0
 .rw[h0];simpa using a
 .exact(Nat.log2_lt h0).mpr h
def Bd.mul{m n:Nat}{i j:Int}(a:Bd m i)(b:Bd n j):Bd (m+n) (i*j):=by unfold Bd at *;rw[Int.natAbs_mul,Nat.pow_add];exact Nat.mul_lt_mul'' a b
def Bd.add{n:Nat}{i j:Int}(a:Bd n i)(b:Bd n j):Bd (n+1) (i+j):=by unfold Bd at *;rw[Nat.pow_succ];have:=Int.natAbs_add_le i j;omega
def Bd.sub{n:Nat}{i j:Int}(a:Bd n i)(b:Bd n j):Bd (n+1) (i-j):=by unfold Bd at *;rw[Nat.pow_succ];have:=Int.natAbs_sub_le i j;omega
def Bd.neg{n:Nat}{i:Int}(a:Bd n i):Bd n (-i):=by unfold Bd at *;rw[Int.natAbs_neg];exact a
theorem Bd.of_le{n:Nat}{i j:Int}(a:Bd n i)(b:j.natAbs<=i.natAbs):Bd n j:=Nat.lt_of_le_of_lt b a
theorem bN{n:Nat}{i:Int}(h:i.natAbs<2^64)(l:64<=n:=by decide):Bd n i:=Bd.mono (m:=64) h l
theorem eR{i j:Int}(a:Bd 1000000 i)(b:Bd 1000000 j):IntMulOk i j:=.of_bits (JT a.bits ⋯) (JT b.bits ⋯)
theorem aK{i j:Int}(a:Bd 64 i):IntMulOk i j:=.of_left a.bits
theorem B7{i j:Int}(a:Bd 64 j):IntMulOk i j:=.of_right a.bits
def QH(C:Int->Int->Prop)(g:Int->Int->D):Nx:=λx y M Q=>match x,y with
 |.int i,.int j=>C i j/\Q (g i j) M
 |_,_=>False
section
variable{X:Cx}
theorem dW{f:J3->J3->Sem J3}{C:Int->Int->Prop}{g:Int->Int->V}{g':Int->Int->D}(h:Nq X f (rI C g))(e:∀i j H,Rep X.K H (g' i j) (g i j)):OC X f (QH C g'):=
 iS h λv u H Q c=>by
  let[x,y,M,R,d,k,a,q,b]:=c
  unfold QH at q
  split at q
  .obtain rfl:v=.int _:=d
   obtain rfl:u=.int _:=k
   exact #[_,7,5,q.1,b _ _ _ _ .refl (e _ _ _) a q.2]
  .exact q.elim
theorem Sd{f:J3->J3->Sem J3}{g:Int->Int->V}(h:Nq X f (R3 g)):Nq X f (rI (λ_ _=>True) g):=iS h λx y H Q c=>by let[i,j,a,b,_,q]:=c;exact(#[i,j,a,b,q])
def F9:Nx:=QH (λ_ _=>True) λi j=>.int (i-j)
def Hs:Nx:=QH IntMulOk λi j=>.int (i*j)
def CFd(i j:Int):Prop:=j≠0/\Bd 8000 j
def Iv:Nx:=QH CFd λi j=>.int (i.fdiv j)
def FR:Nx:=QH (λ_ j=>j≠0) λi j=>.int (i.fmod j)
def Fv:Nx:=QH FW λi j=>.int (i^j.toNat)
def HX:Nx:=QH (λ_ _=>True) λi j=>.bl (decide (i<j))
def IJ:Nx:=QH (λ_ _=>True) λi j=>.bl (decide (i<=j))
def Iy:Nx:=QH (λ_ _=>True) λi j=>.bl (decide (j<i))
theorem bg:OC X (Ll .Sub) F9:=dW (Sd DM) λ_ _ _=>by rw[Rep]
theorem aI:OC X (Ll .Mult) Hs:=dW (Xx λ_ _ _ _ _ _ _ a q=>mul_int q a) λ_ _ _=>by rw[Rep]
theorem gn:OC X (Ll .FloorDiv) Iv:=dW (Xx λ_ _ _ _ _ _ _ a q=>floordiv_int a.1 q (.inl (PyProof.noPylong_of_log2 (Nat.lt_trans (a.2.log2 ⋯) ⋯)))) λ_ _ _=>by rw[Rep]
theorem fV:OC X (Ll .Mod) FR:=dW AS λ_ _ _=>by rw[Rep]
theorem gT:OC X (Ll .Pow) Fv:=dW DJ λ_ _ _=>by rw[Rep]
theorem GV:OC X (JY .Lt) HX:=dW (Sd F8) λ_ _ _=>by rw[Rep]
theorem G0:OC X (JY .LtE) IJ:=dW (Sd Hg) λ_ _ _=>by rw[Rep]
theorem Gj:OC X (JY .Gt) Iy:=dW (Sd GU) λ_ _ _=>by rw[Rep]
def CK:D->MH->DK->Prop:=λx M Q=>match x with
 |.int i=>Q (.int (-i)) M
 |_=>False
theorem g9:Xi X (unaryOp .USub) (Cs X.K CK):=λMP s σ H x v Q I r b=>by let[d,M,R,e,a,q,c]:=b;exact(Ey MP s σ H x v Q I r (by
 unfold CK at q
 split at q
 .obtain rfl:x=.int _:=e;exact #[7,c _ _ _ _ .refl (by rw[Rep]) a q]
 .exact q.elim))
def Cp:Nx:=λx y M Q=>match x,y with
 |.int i,.int j=>Q (.int (i+j)) M
 |.tup a,.tup b=>a≠[]/\a.length+b.length<=Jo/\Q (.tup (a++b)) M
 |.ref a,.ref b=>∃xs c,M a=MA (.lst xs)/\M b=MA (.lst c)/\xs.length+c.length<=Jo/\∀p,M p=MB->Q (.ref p) (av M p (.lst (xs++c)))
 |_,_=>False
theorem aQ:OC X (Ll .Add) Cp:=iS (DZ.or (BS.or Fo)) λv u H Q k=>by
 let[x,y,M,R,g,h,a,q,b]:=k;unfold Cp at q;split at q
 .obtain rfl:v=.int _:=g;obtain rfl:u=.int _:=h;exact .inl #[_,7,5,b _ _ _ _ .refl (by rw[Rep]) a q]
 .rename_i da db;let[l,m,q]:=q;rw[Rep]at g;let[p,xs,5,hx,d]:=g;obtain⟨n,i,rfl,j,f⟩:∃a xs,u=V.ref a/\NW X.K H a xs/\aD X.K H db xs:=by rw[Rep]at h;exact h
  let l1:=d.length;let l2:=f.length;refine .inr (.inl #[p,n,xs,i,5,5,hx,j,?_,(),λe=>?_,λ_ z c=>?_])
  .intro e;subst e;exact l (Lz.mp ‹l1›)
  .subst e;obtain rfl:db=[]:=Lz.mp ‹l2›;exact b _ _ _ _ .refl (by rw[Rep,KD];exact #[p,xs,5,hx,d]) a q
  .exact b _ _ _ _ (.new c) (by rw[Rep];exact #[z,7,NW.of aF,(d.append f).mono (.new c)]) (a.new c) q
 .obtain⟨o,r,e1,e2,m,q⟩:=q;obtain rfl:v=.ref _:=g;obtain rfl:u=.ref _:=h;let[xs,hx,d]:=a _ _ e1;let[i,j,f]:=a _ _ e2;let l1:=d.length;let l2:=f.length;exact .inr (.inr #[_,_,xs,i,5,5,hx,j,(),λz c=>b _ _ _ _ (.new c) (by rw[Rep]) (a.j4 c (d.append f)) (q z (a.fresh c))])
 .exact q.elim
end
mutual
inductive Pd(M:MH):D->Lw->Prop
 |non:Pd M .non .none
 |bl (b:Bool):Pd M (.bl b) (.bool b)
 |int (i:Int):Pd M (.int i) (.int i)
 |str (x:Str):Pd M (.str x) (.str x)
 |tup {ds:sg} {ps:List Lw}:Pl M ds ps->Pd M (.tup ds) (.tuple ps)
 |rol {ds:sg} {ps:List Lw}:Pl M ds ps->Pd M (.rol ds) (.list ps)
 |lst {a:pd} {ds:sg} {ps:List Lw}:M a=MA (.lst ds)->Pl M ds ps->Pd M (.ref a) (.list ps)
inductive Pl(M:MH):sg->List Lw->Prop
 |nil:Pl M [] []
 |cons {d:D} {ds:sg} {p:Lw} {ps:List Lw}:Pd M d p->Pl M ds ps->Pl M (d::ds) (p::ps)
end
mutual
def RN:D->Option Lw
 |.non=>MA .none
 |.bl b=>MA (.bool b)
 |.int i=>MA (.int i)
 |.str x=>MA (.str x)
 |.tup a=>match rG a with
  |some ps=>MA (.tuple ps)
  |none=>MB
 |_=>MB
def rG:sg->Option (List Lw)
 |[]=>MA []
 |d::ds=>match RN d,rG ds with
  |some p,MA ps=>MA (p::ps)
  |_,_=>MB
end
mutual
theorem Pd.of{M:MH}:∀{d:D}{p:Lw},RN d=MA p->Pd M d p
 |.non,p,h=>by rw[RN]at h;cases h;exact .non
 |.bl b,p,h=>by rw[RN]at h;cases h;exact .bl b
 |.int i,p,h=>by rw[RN]at h;cases h;exact .int i
 |.str x,p,h=>by rw[RN]at h;cases h;exact .str x
 |.ty _,p,h=>by simp[RN]at h
 |.ref _,p,h=>by simp[RN]at h
 |.rol _,p,h=>by simp[RN]at h
 |.tup ds,p,h=>by
  rw[RN]at h
  cases e:rG ds with
  |none=>rw[e]at h;cases h
  |some ps=>rw[e]at h;cases h;exact .tup (Pl.of e)
theorem Pl.of{M:MH}:∀{ds:sg}{ps:List Lw},rG ds=MA ps->Pl M ds ps
 |[],ps,h=>by rw[rG]at h;cases h;exact .nil
 |d::ds,ps,h=>by
  rw[rG]at h
  cases e1:RN d with
  |none=>rw[e1]at h;cases h
  |some p=>
   cases e2:rG ds with
   |none=>rw[e1,e2]at h;cases h
   |some qs=>rw[e1,e2]at h;cases h;exact .cons (Pd.of e1) (Pl.of e2)
end
section
variable{X:Cx}{MP:p4}{σ:L2.St}{H:Hp}{s:J5}{M:MH}
mutual
theorem bw(I:Inv X MP σ H s)(l:NM X.K H M):∀{d:D}{p:Lw}{v:V}{u:J3},Pd M d p->Rep X.K H d v->L2.RelV v u->∃c,Reads s.heap u p c
 |_,_,_,_,.non,r,e=>by rw[Rep]at r;subst r;cases e;exact #[_,.none]
 |_,_,_,_,.bl b,r,e=>by rw[Rep]at r;subst r;cases e;exact #[_,.bool b]
 |_,_,_,_,.int i,r,e=>by rw[Rep]at r;subst r;let[t,5]:=e;exact #[_,.int i t]
 |_,_,_,_,.str x,r,e=>by rw[Rep]at r;subst r;let[t,5]:=e;exact #[_,.str x t]
 |_,_,_,_,.tup hp,r,e=>by
  rw[Rep]at r
  let[a,xs,5,m,f]:=r
  cases e
  obtain⟨g,h,⟨o,h1,h2,n,j⟩,_⟩:=I.tuple m
  let[c,k]:=iq I l hp f h
  exact #[c,reads_tuple_at h1 h2 j ‹k›]
 |_,_,_,_,.rol hp,r,e=>by
  rw[Rep]at r
  let[a,xs,5,m,f]:=r
  cases e
  obtain⟨g,h,⟨o,n,h1,h2,_,j⟩,_⟩:=I.list m.sql
  let[c,k]:=iq I l hp f h
  exact #[_,reads_list_at h1 h2 j ‹k›]
 |_,_,_,_,.lst ha hp,r,e=>by
  rw[Rep]at r
  subst r
  cases e
  let[xs,hx,f]:=l _ _ ha
  obtain⟨g,h,⟨o,n,h1,h2,_,j⟩,_⟩:=I.list (NX.of hx)
  let[c,k]:=iq I l hp f h
  exact #[_,reads_list_at h1 h2 j ‹k›]
theorem iq(I:Inv X MP σ H s)(a:NM X.K H M):∀{ds:sg}{ps:List Lw}{vs:r4}{us:List J3},Pl M ds ps->aD X.K H ds vs->Vals vs us->∃b,ReadsAll s.heap us ps b
 |_,_,_,_,.nil,r,e=>by rw[aD]at r;subst r;cases e;exact #[_,.nil]
 |_,_,_,_,.cons h1 h2,r,e=>by
  rw[aD]at r
  let[x,r,5,c,d]:=r
  cases e with
  |cons e1 e2=>
   let[b,f]:=bw I a h1 c e1
   let[bs,g]:=iq I a h2 d e2
   exact #[_,.cons f g]
end
end
inductive RM(g:Bool->Bool)(x y:D)(M:MH)(Q:DK):Prop
 |mk (p q:Lw)(h1:Pd M x p)(h2:Pd M y q)(h3:L4 p=MC)(h4:L4 q=MC)(hq:Q (.bl (g (JS p q))) M):RM g x y M Q
def Gn:Nx:=λx y M Q=>match x,y with
 |.int i,.int j=>Q (.bl (decide (i=j))) M
 |.bl i,.bl j=>Q (.bl (decide (i=j))) M
 |x,y=>RM (λb=>b) x y M Q
def FT:Nx:=λx y M Q=>match x,y with
 |.int i,.int j=>Q (.bl (!decide (i=j))) M
 |.bl i,.bl j=>Q (.bl (!decide (i=j))) M
 |x,y=>RM (λb=>!b) x y M Q
section
variable{X:Cx}
def Ej(d:X.A.units+64<Kh):OC X (JY .Eq) (RM λb=>b):=by intro MP s σ H v u t w Q I e f h;obtain⟨x,y,M,R,g,i,a,⟨p,q,j,k,l,m,n⟩,c⟩:=h;let[z,o]:=bw I a j g e;let[bs,r]:=bw I a k i f;exact eq_dataH o r l m d #[.bl _,H,I,5,c _ _ _ _ .refl (by rw[Rep]) a n]
def D8(d:X.A.units+64<Kh):OC X (JY .NotEq) (RM λb=>!b):=by intro MP s σ H v u t w Q I e f h;obtain⟨x,y,M,R,g,i,a,⟨p,q,j,k,l,m,n⟩,c⟩:=h;let[z,o]:=bw I a j g e;let[bs,r]:=bw I a k i f;exact ne_dataH o r l m d #[.bl _,H,I,5,c _ _ _ _ .refl (by rw[Rep]) a n]
def oZ{i j:Int}:(i==j)=decide (i=j):=by by_cases h:i=j<;>simp[h]
def p8{i j:Bool}:(i==j)=decide (i=j):=by cases i<;>cases j<;>rfl
theorem bZ(c:X.A.units+64<Kh):OC X (JY .Eq) Gn:=iS (Ej c) λv u H Q d=>by
 let[x,y,M,R,e,f,a,q,b]:=d;refine #[x,y,M,R,e,f,a,?_,b];unfold Gn at q;split at q
 .exact #[_,_,.int _,.int _,5,5,by simpa[JS,oZ]using q]
 .exact #[_,_,.bl _,.bl _,5,5,by simpa[JS,p8]using q]
 .exact q
theorem jv(c:X.A.units+64<Kh):OC X (JY .NotEq) FT:=iS (D8 c) λv u H Q d=>by
 let[x,y,M,R,e,f,a,q,b]:=d;refine #[x,y,M,R,e,f,a,?_,b];unfold FT at q;split at q
 .exact #[_,_,.int _,.int _,5,5,by simpa[JS,oZ]using q]
 .exact #[_,_,.bl _,.bl _,5,5,by simpa[JS,p8]using q]
 .exact q
def isC(x y:D):Option Bool:=match y with
 |.non=>MA (match x with
  |.non=>MC
  |_=>MD)
 |.bl b=>MA (match x with
  |.bl a=>decide (a=b)
  |_=>MD)
 |_=>MB
inductive Se(g:Bool->Bool)(x y:D)(M:MH)(Q:DK):Prop
 |mk (b:Bool)(h:isC x y=MA b)(q:Q (.bl (g b)) M):Se g x y M Q
def IE:Nx:=Se λb=>b
def vf{K:J1}{H:Hp}{x y:D}{b:Bool}{v u:V}{k l:J3}(h:isC x y=MA b)(g:Rep K H x v)(m:Rep K H y u)(i:L2.RelV v k)(j:L2.RelV u l):plainIs k l=MC/\(k==l)=b:=by
 let f:∀{c:J3}{d:Bool},l=c->MA d=MA b->plainIs k c=MC->(k==c)=d->plainIs k l=MC/\(k==l)=b:=λe h p q=>by cases h;subst e;exact #[p,q]
 cases y with
 |non=>
  rw[Rep]at m;subst m
  cases x<;>rw[Rep]at g
  case non=>subst g;cases (show k=L7 from i);exact f j h rfl rfl
  case bl=>subst g;cases (show k=Value.bool _ from i);exact f j h rfl rfl
  case int=>subst g;let[t,5]:=i;exact f j h rfl rfl
  case str=>subst g;let[t,5]:=i;exact f j h rfl rfl
  case ty=>subst g;cases i;exact f j h rfl rfl
  case ref=>subst g;cases i;exact f j h rfl rfl
  all_goals (let[a,xs,5,_]:=g;cases i;exact f j h rfl rfl)
 |bl c=>
  rw[Rep]at m;subst m
  cases x<;>rw[Rep]at g
  case non=>subst g;cases (show k=L7 from i);exact f j h rfl rfl
  case bl c'=>subst g;cases (show k=Value.bool _ from i);exact f j h rfl (by cases c<;>cases c'<;>rfl)
  case int=>subst g;let[t,5]:=i;exact f j h rfl rfl
  case str=>subst g;let[t,5]:=i;exact f j h rfl rfl
  case ty=>subst g;cases i;exact f j h rfl rfl
  case ref=>subst g;cases i;exact f j h rfl rfl
  all_goals (let[a,xs,5,_]:=g;cases i;exact f j h rfl rfl)
 |_=>cases h
def Ge:OC X (JY .Is) IE:=by intro MP s σ H v u j k Q I d f h;obtain⟨x,y,M,R,g,i,a,⟨b,e,q⟩,c⟩:=h;let[e1,e2]:=vf e g i d f;exact wpAny_is_plain e1 #[.bl b,H,I,by rw[e2];rfl,c _ _ _ _ .refl (by rw[Rep]) a q]
end
abbrev RC:=sg->MH->DK->Prop
def Ck(K:J1)(r:RC):r4->Hp->VK->Prop:=λvs H Q=>∃a M R,aD K H a vs/\NM K H M/\r a M R/\Fin K H R Q
def d5(X:Cx)(f:J3)(r:RC):Prop:=bS X f (Ck X.K r)
theorem cg{X:Cx}{f:J3}{r b:r4->Hp->VK->Prop}(h:bS X f r)(k:∀xs H Q,b xs H Q->r xs H Q):bS X f b:=λMP s σ H xs us Q I a q=>h MP s σ H xs us Q I a (k _ _ _ q)
def DL(r:RC)(t:N7):TD:=λδ M Q=>t δ M λa b=>r a b Q
def uy{K:J1}{r:RC}{t:N7}{σ:L2.St}{H:Hp}{Q:VK}(h:lift K (DL r t) σ H Q):YE (Ck K r) (xT K t) σ H Q:=by let[δ,M,R,b,c,q,a]:=h;exact #[δ,M,_,b,c,q,λd e vs H1 g1 f g i=>#[d,e,R,f,g,i,a.go g1]]
section
variable{X:Cx}{x:Str}{p pos:Pos}{e:pv}{es:ro}{t:N7}{id T:String}{r:RC}
theorem aO(c:d5 X (.builtin id) r)(d:Gl X x)(f:X.mg x=MB)(hv:Kq x=MA (.builtin id))(g:DA X (e::es) t)(i:x≠"__name__":=by decide)(a:(x==("__debug__":Str))=MD:=by decide) (j:Jk (e::es) X.env=(MD,eval e X.env)::Jk es X.env:=by rfl) (b:(Kr pos (Jk es X.env)).any (·.1)=MD:=by rfl):DE X (.Call (.Name x p) (e::es) [] pos) (DL r t):=aX (Ak c d f hv g i a j b) λ_ _ _ h=>uy h
theorem cL(c:d5 X (.type T) r)(d:Gl X x)(f:X.mg x=MB)(hv:Kq x=MA (.type T))(g:DA X (e::es) t)(i:x≠"__name__":=by decide)(a:(x==("__debug__":Str))=MD:=by decide) (j:Jk (e::es) X.env=(MD,eval e X.env)::Jk es X.env:=by rfl) (b:(Kr pos (Jk es X.env)).any (·.1)=MD:=by rfl):DE X (.Call (.Name x p) (e::es) [] pos) (DL r t):=aX (nh c d f hv g i a j b) λ_ _ _ h=>uy h
def bP{K:J1}{H:Hp}{d:D}{vs:r4}(h:aD K H [d] vs):∃v,vs=[v]/\Rep K H d v:=by rw[aD]at h;let[x,r,5,h1,h2]:=h;rw[aD]at h2;subst h2;exact #[x,5,h1]
def fF{K:J1}{H:Hp}{d e:D}{vs:r4}(h:aD K H [d,e] vs):∃v u,vs=[v,u]/\Rep K H d v/\Rep K H e u:=by rw[aD]at h;let[x,r,5,h1,h2]:=h;let[u,5,a]:=bP h2;exact #[x,u,5,h1,a]
def Im:RC:=λa M Q=>match a with
 |[.int i]=>Q (.int (i.natAbs:Int)) M
 |_=>False
theorem tD:d5 X (.builtin "abs") Im:=cg yT λvs H Q f=>by
 let[b,M,R,g,a,q,c]:=f;rcases b with _|⟨d,b⟩
 .exact Jy q
 cases d<;>rcases b with _|⟨e,b⟩<;>try exact Jy q
 .rename_i i;let[v,5,r]:=bP g;rw[Rep]at r;subst r;let e:(if i<0 then -i else i)=(i.natAbs:Int):=by split<;>omega
  exact #[7,c _ _ _ _ .refl (by rw[Rep,e]) a q]
def IG:RC:=λa M Q=>match a with
 |[.int i,.int j]=>Q (.int (max i j)) M
 |_=>False
def IU:RC:=λa M Q=>match a with
 |[.int i,.int j]=>Q (.int (min i j)) M
 |_=>False
theorem Et(h:X.calm=MC):d5 X (.builtin "max") IG:=cg (v8 h) λvs H Q k=>by
 let[b,M,R,l,a,q,c]:=k;rcases b with _|⟨d,b⟩
 .exact Jy q
 cases d<;>rcases b with _|⟨e,b⟩<;>try exact Jy q
 all_goals (cases e<;>rcases b with _|⟨f,b⟩<;>try exact Jy q)
 .rename_i i j;let[v,u,5,r,g]:=fF l;rw[Rep]at r;subst r;let m:u=.int j:=by rw[Rep]at g;exact g
  subst m;let e:(if j>i then j else i)=max i j:=by split<;>omega
  exact #[_,7,c _ _ _ _ .refl (by rw[Rep,e]) a q]
theorem DV(h:X.calm=MC):d5 X (.builtin "min") IU:=cg (wQ h) λvs H Q k=>by
 let[b,M,R,l,a,q,c]:=k;rcases b with _|⟨d,b⟩
 .exact Jy q
 cases d<;>rcases b with _|⟨e,b⟩<;>try exact Jy q
 all_goals (cases e<;>rcases b with _|⟨f,b⟩<;>try exact Jy q)
 .rename_i i j;let[v,u,5,r,g]:=fF l;rw[Rep]at r;subst r;let m:u=.int j:=by rw[Rep]at g;exact g
  subst m;let e:(if j<i then j else i)=min i j:=by split<;>omega
  exact #[_,7,c _ _ _ _ .refl (by rw[Rep,e]) a q]
def HR:RC:=λa M Q=>match a with
 |[.tup xs]=>Q (.int (xs.length:Int)) M
 |[.rol xs]=>Q (.int (xs.length:Int)) M
 |[.ref l]=>∃xs,M l=MA (.lst xs)/\Q (.int (xs.length:Int)) M
 |_=>False
theorem b7:d5 X (.builtin "len") HR:=cg pP λvs H Q g=>by
 let[c,M,R,f,a,q,b]:=g;rcases c with _|⟨d,c⟩
 .exact Jy q
 cases d<;>rcases c with _|⟨e,c⟩<;>try exact Jy q
 .obtain⟨v,rfl,r⟩:=bP f;rw[Rep]at r;subst r;let[xs,e,q]:=q;let[h,h1,h2]:=a _ _ e;exact #[_,h,5,.inl (NX.of h1),b _ _ _ _ .refl (by rw[Rep,h2.length]) a q]
 .obtain⟨v,rfl,r⟩:=bP f;rw[Rep]at r;let[l,xs,5,h1,h2]:=r;exact #[l,xs,5,.inl h1.sql,b _ _ _ _ .refl (by rw[Rep,h2.length]) a q]
 .obtain⟨v,rfl,r⟩:=bP f;rw[Rep]at r;let[l,xs,5,h1,h2]:=r;exact #[l,xs,5,.inr h1,b _ _ _ _ .refl (by rw[Rep,h2.length]) a q]
def Fb:RC:=λa M Q=>match a with
 |[.tup xs]=>Q (.tup xs) M
 |[.rol xs]=>Q (.tup xs) M
 |[.ref l]=>∃xs,M l=MA (.lst xs)/\Q (.tup xs) M
 |_=>False
theorem mz:d5 X (.type "tuple") Fb:=cg m3 λvs H Q i=>by
 let[f,M,R,g,a,q,b]:=i;rcases f with _|⟨d,f⟩
 .exact Jy q
 cases d<;>rcases f with _|⟨e,f⟩<;>try exact Jy q
 .obtain⟨v,rfl,r⟩:=bP g;rw[Rep]at r;subst r;let[xs,e,q]:=q;let[h,h1,h2]:=a _ _ e;exact #[_,h,5,.inl #[NX.of h1,λp c=>b _ _ _ _ (.new c) (by rw[Rep];exact #[p,h,5,NW.of aF,h2.mono (.new c)]) (a.new c) q]]
 .obtain⟨v,rfl,r⟩:=bP g;rw[Rep]at r;let[l,xs,5,h1,h2]:=r;exact #[l,xs,5,.inl #[h1.sql,λp c=>b _ _ _ _ (.new c) (by rw[Rep];exact #[p,xs,5,NW.of aF,h2.mono (.new c)]) (a.new c) q]]
 .obtain⟨v,rfl,r⟩:=bP g;rw[Rep]at r;let[l,xs,5,h1,h2]:=r;exact #[l,xs,5,.inr #[h1,b _ _ _ _ .refl (by rw[Rep];exact #[l,xs,5,h1,h2]) a q]]
def HE:RC:=λa M Q=>match a with
 |[.int i]=>Q (.int i) M
 |[.bl k]=>Q (.int (if k=MC then 1 else 0)) M
 |_=>False
theorem Ao:d5 X (.type "int") HE:=cg ve λvs H Q g=>by
 let[c,M,R,f,a,q,b]:=g;rcases c with _|⟨d,c⟩
 .exact Jy q
 cases d<;>rcases c with _|⟨e,c⟩<;>try exact Jy q
 .obtain⟨v,rfl,r⟩:=bP f;rw[Rep]at r;subst r;exact .inr #[7,b _ _ _ _ .refl (by rw[Rep]) a q]
 .obtain⟨v,rfl,r⟩:=bP f;rw[Rep]at r;subst r;exact .inl #[7,b _ _ _ _ .refl (by rw[Rep]) a q]
end
abbrev Pr:=D->DS->MH->(DS->MH->Prop)->Prop
abbrev sD:=sg->DS->MH->(DS->MH->Prop)->Prop
section
variable(K:J1)
def yJ(H:Hp)(R:DS->MH->Prop)(Q:L2.St->Hp->Prop):Prop:=∀a d b c,ND K H c->Slots K c a b->NM K c d->R a d->Q b c
def Gf(t:Pr):TG:=λv σ H Q=>∃d δ M R,Rep K H d v/\Slots K H δ σ/\NM K H M/\t d δ M R/\yJ K H R Q
def Eg(t:sD):R6:=λvs σ H Q=>∃a δ M R,aD K H a vs/\Slots K H δ σ/\NM K H M/\t a δ M R/\yJ K H R Q
end
theorem yJ.go{K:J1}{H H1:Hp}{R:DS->MH->Prop}{Q:L2.St->Hp->Prop}(g:ND K H H1)(h:yJ K H R Q):yJ K H1 R Q:=λd M v a b=>h d M v a (g.trans b)
namespace Zq
@[scoped irreducible]def _root_.SD.DG(X:Cx)(e:pv)(t:Pr):Prop:=PG X e (Gf X.K t)
@[scoped irreducible]def _root_.SD.DGs(X:Cx)(es:ro)(t:sD):Prop:=SH X es (Eg X.K t)
end Zq
theorem tH{X:Cx}{e:pv}{t t':TG}(h:PG X e t)(k:∀v σ H Q,t' v σ H Q->t v σ H Q):PG X e t':=λMP s σ H v u Q I r q=>h MP s σ H v u Q I r (k _ _ _ _ q)
theorem ur{X:Cx}{e:ro}{t t':R6}(h:SH X e t)(k:∀v σ H Q,t' v σ H Q->t v σ H Q):SH X e t':=λMP s σ H v u Q I r q=>h MP s σ H v u Q I r (k _ _ _ _ q)
section
variable{X:Cx}{pos:Pos}
def aU(i:Nat):Pr:=λd δ M Q=>Q (δ.set i (MA d)) M
theorem ay(i:Nat){x:Str}(e:X.N.Nodup)(f:X.N[i]?=MA x:=by rfl)(hx:Loc X.env.scope x:=by first|exact Or.inl rfl|exact Or.inr rfl)(g:X.fn x=MC\/X.env.scope.names.lookup x=MA .local:=by first|exact .inl rfl|exact .inr rfl|assumption):DG X (.Name x pos) (aU i):=tH (uz e f hx g) λv σ H Q b=>by let[d,δ,M,R,r,h,a,q,c]:=b;exact(c _ _ _ _ .refl (h.set r i) a q)
def FD:sD:=λa δ M Q=>a=[]/\Q δ M
inductive RP(t:Pr)(u:sD)(ds:sg)(δ:DS)(M:MH)(Q:DS->MH->Prop):Prop
 |mk (d:D)(r:sg)(h:ds=d::r)(q:t d δ M λδ' M'=>u r δ' M' Q):RP t u ds δ M Q
theorem aS:DGs X [] FD:=ur lj λvs σ H Q d=>by obtain⟨g,δ,M,R,c,f,a,⟨e,q⟩,b⟩:=d;subst e;rw[aD]at c;exact #[c,b _ _ _ _ .refl f a q]
theorem aA{e:pv}{es:ro}{t:Pr}{u:sD}(h1:DG X e t)(h2:DGs X es u) (b:(LZ (e::es) X.env).map (·.2)=Me e X.env::(LZ es X.env).map (·.2):=by rfl):DGs X (e::es) (RP t u):=ur (eE h1 h2 b) λvs σ H Q i=>by obtain⟨s,δ,M,R,g,b,a,⟨d,r,e,q⟩,c⟩:=i;subst e;rw[aD]at g;let[x,xs,5,j,k]:=g;exact #[x,xs,5,d,δ,M,_,j,b,a,q,λf l m v h n o p=>#[r,f,l,R,k.mono h,n,o,p,c.go h]]
inductive Rt(n:Nat)(t:sD)(d:D)(δ:DS)(M:MH)(Q:DS->MH->Prop):Prop
 |mk (ds:sg)(h:d=.tup ds)(q:ds.length=n/\t ds δ M Q):Rt n t d δ M Q
theorem bj{es:ro}{k:Nat}{t:sD}{n:Nat}(f:X.calm=MC)(h:DGs X es t) (g:(LZ es X.env).length=n:=by rfl) (b:(LZ es X.env).findIdx? (·.1)=MB:=by rfl):DG X (.Tuple es k pos) (Rt n t):=tH (ph f h g b) λv σ H Q i=>by obtain⟨d,δ,M,R,r,j,a,⟨l,e,m,q⟩,c⟩:=i;subst e;rw[Rep]at r;let[p,xs,5,h1,h2]:=r;exact #[p,xs,5,h1,by rw[<-h2.length];exact m,l,δ,M,R,h2,j,a,q,c]
def CG:D->D->D->MH->(MH->Prop)->Prop:=λo i v M Q=>match o,i with
 |.ref p,.int k=>∃a j,M p=MA (.lst a)/\ixN a.length k=MA j/\Q (av M p (.lst (a.set j v)))
 |_,_=>False
def He(to a:TD):Pr:=λv δ M Q=>to δ M λo b=>a δ b λi c=>CG o i v c λd=>Q δ d
theorem oH{o i:pv}{to g:TD}(m:DE X o to)(n:DE X i g)
 (p:∀v,Me (.Subscript o i pos) X.env v=(do
  let ov <-holding [v] (eval o X.env)
  let iv <-holding [v,ov] (eval i X.env)
  standAt pos
  holding [v,ov,iv] (setItem ov iv v)
  release [v,ov,iv] []):=by intro _;rfl):DG X (.Subscript o i pos) (He to g):=
 tH (DN m n set_list p) λv σ H Q s=>by
  let[d,δ,M,R,r,c,a,q,e]:=s
  exact #[δ,M,_,c,a,q,λo t u H1 g1 w x y=>#[δ,t,_,c.mono g1,x,y,λi B z h f A k b=>by
   unfold CG at b
   split at b
   .obtain⟨C,j,e1,e2,b⟩:=b
    obtain rfl:u=.ref _:=w
    obtain rfl:z=.int _:=A
    let[xs,h1,h2]:=k _ _ e1
    refine #[_,xs,_,j,5,5,h1,by rw[<-h2.length];exact e2,?_]
    let l:ND X.K h (upd h _ (.lst (xs.set j v))):=.lst h1
    exact e _ _ _ _ ((g1.trans f).trans l) (c.mono ((g1.trans f).trans l)) (k.vg h1 (h2.set (r.mono (g1.trans f)) j)) b
   .exact b.elim]]
end
section
variable{X:Cx}{pos:Pos}{st:pe}{rest:ri}{t u:Nu}
def dj:Nu:=λB δ M=>B.nx δ M
def fI(t u:Nu):Nu:=λB δ M=>t (B.nxt (u B)) δ M
theorem aR:DSs X [] dj:=oz BO λE σ H b=>by let[δ,M,c,a,B,ok,q]:=b;exact(ok.nx _ _ _ _ .refl c a q)
theorem aj(h1:DSt X st t)(h2:DSs X rest u):DSs X (st::rest) (fI t u):=oz (y6 h1 h2) λE σ H b=>by let[δ,M,d,a,B,ok,q]:=b;exact(#[δ,M,d,a,B.nxt (u B),#[λc e f k g h i j=>#[c,e,h,i,B,ok.go g,j],ok.rt,ok.bk,ok.ct],q])
theorem aq(h1:DSt X st t):DSs X [st] t:=AG h1
def ug:Nu:=λ_ _ _=>False
theorem yM:DSt X st ug:=cn zy λE σ H b=>by let[δ,M,c,a,B,ok,q]:=b;exact(q.elim)
theorem vK{c:ri}:DSs X c ug:=oz vL λE σ H b=>by let[δ,M,d,a,B,ok,q]:=b;exact(q.elim)
def dF(te:TD):Nu:=λB δ M=>te δ M λ_ a=>B.nx δ a
theorem cz{e:pv}{te:TD}(f:DE X e te)(c:La e MB pos.line X.env=pure MD:=by rfl):DSt X (.Expr e pos) (dF te):=cn (AW f c) λE σ H b=>by let[δ,M,c,a,B,ok,q]:=b;exact(#[δ,M,_,c,a,q,λd i v H1 g1 j g h=>ok.nx _ _ _ _ g1 (c.mono g1) g h])
def fD(te:TD):Nu:=λB δ M=>te δ M B.rt
theorem aB{e:pv}{te:TD}(c:DE X e te):DSt X (.Return (MA e) pos) (fD te):=cn (Fp c) λE σ H b=>by let[δ,M,f,a,B,ok,q]:=b;exact(#[δ,M,_,f,a,q,λd j v H1 g1 g h i=>ok.rt _ _ _ _ g1 g h i])
def gh(c:Nh)(t u:Nu):Nu:=λB δ M=>c δ M λb a=>if b=MC then t B δ a else u B δ a
theorem br{c:pv}{a b:ri}{tc:Nh}(i:DT X c tc)(j:DSs X a t)(k:DSs X b u):DSt X (.If c a b pos) (gh tc t u):=
 cn (HG i j k) λE σ H d=>by let[δ,M,f,a,B,ok,q]:=d;exact(#[δ,M,_,f,a,q,λc g H1 g1 h e=>by
  cases c with
  |true=>rw[MF rfl]at e ⊢;exact #[δ,g,f.mono g1,h,B,ok.go g1,e]
  |false=>rw[ME Js]at e ⊢;exact #[δ,g,f.mono g1,h,B,ok.go g1,e]])
def c7(te:TD)(g:Pr):Nu:=λB δ M=>te δ M λd a=>g d δ a B.nx
theorem bO{tg e:pv}{te:TD}{g:Pr}(f:DE X e te)(h:DG X tg g)(c:swapsWithSole [tg] e pos.line X.env=pure MD:=by rfl)(hw:swappedStores [tg] e X.env=pure MB:=by rfl)
 (h1:(LZ [tg] X.env).map (·.2)=[Me tg X.env]:=by rfl):DSt X (.Assign [tg] e pos) (c7 te g):=
 cn (C1 f h c hw h1) λE σ H b=>by let[δ,M,c,a,B,ok,q]:=b;exact(#[δ,M,_,c,a,q,λd i v H1 g1 j k l=>
  #[d,δ,i,B.nx,j,c.mono g1,k,l,λm w n x o p r s=>ok.nx _ _ _ _ (g1.trans o) p r s]])
theorem aC(i:Nat){x:Str}{e:pv}{te:TD}{c:Pos}(g:X.N.Nodup)(h:DE X e te)(j:X.N[i]?=MA x:=by rfl)(hx:Loc X.env.scope x:=by first|exact Or.inl rfl|exact Or.inr rfl)(f:La e (MA (.Name x c)) pos.line X.env=pure MD:=by rfl) (k:X.fn x=MC\/X.env.scope.names.lookup x=MA .local:=by first|exact .inl rfl|exact .inr rfl|assumption):DSt X (.Assign [.Name x c] e pos) (c7 te (aU i)):=cn (Dt g j hx h f k) λE σ H b=>by let[δ,M,f,a,B,ok,q]:=b;exact(#[δ,M,_,f,a,q,λd o v H1 g1 l m n=>ok.nx _ _ _ _ g1 ((f.mono g1).set l i) m n])
def GA(i j:Nat)(a:N7):Nu:=λB δ M=>a δ M λb c=>∃d e,b=[d,e]/\B.nx ((δ.set i (MA d)).set j (MA e)) c
theorem iD(i j:Nat){x y:Str}{a b:pv}{o:N7}{h k pt:Pos}{l m f}(p:X.calm=MC)(r:X.N.Nodup)(s:DA X [a,b] o)(n:i≠j:=by decide)(w:X.N[i]?=MA x:=by rfl)(A:X.N[j]?=MA y:=by rfl)
 (hx:X.env.scope.names.lookup x=MA .local:=by rfl) (C:X.env.scope.names.lookup y=MA .local:=by rfl)
 (hw:swappedStores [.Tuple [.Name x h,.Name y k] l pt] (.Tuple [a,b] m f) X.env=pure (MA [x,y]):=by rfl)
 (g:swapsWithSole [.Tuple [.Name x h,.Name y k] l pt] (.Tuple [a,b] m f) pos.line X.env=pure MD:=by rfl) :
 DSt X (.Assign [.Tuple [.Name x h,.Name y k] l pt] (.Tuple [a,b] m f) pos) (GA i j o):=
 cn (EV p r w A n hx C s hw g) λE σ H c=>by let[δ,M,g,a,B,ok,q]:=c;exact(#[δ,M,_,g,a,q,λL O vs H1 g1 D F G=>by
  let[d,e,z,I]:=G
  subst z
  let[v,u,5,J,K]:=fF D
  exact #[v,u,5,ok.nx _ _ _ _ g1 (((g.mono g1).set J i).set K j) F I]])
def Bb(c:Nh)(f:Nu):Nu:=λB δ M=>∃W:Nat->DS->MH->Prop,(∃m,W m δ M)/\∀m δ M,W m δ M->
 c δ M λb d=>if b=MC then f (B.lp λa g=>∃e,e<m/\W e a g) δ d else B.nx δ d
theorem gu{c:pv}{body:ri}{tc:Nh}{G:Nu}(J:PassesOwn (Jn X.prog X.w) X.A X.env X.xe)(L:DT X c tc)(N:DSs X body G):DSt X (.While c body [] pos) (Bb tc G):=
 cn (zB J L N) λE σ H O=>by
  obtain⟨δ,M,p,a,B,ok,W,⟨m,z⟩,q⟩:=O
  exists λm σ e=>ND X.K H e/\∃δ M,Slots X.K e δ σ/\NM X.K e M/\W m δ M,#[m,.refl,δ,M,p,a,z]
  rintro m σ e ⟨g,δ,M,p,a,z⟩
  refine #[δ,M,_,p,a,q m δ M z,λb P H1 g1 I x=>?_]
  cases b with
  |true=>
   rw[MF rfl]at x ⊢
   refine #[λC D=>∃o,o<m/\(ND X.K H D/\∃δ M,Slots X.K D δ C/\NM X.K D M/\W o δ M),λk e h=>h,δ,P,p.mono g1,I,_,?_,x]
   refine #[λf y k e n r s i=>by let[o,l,F]:=i;exact(#[o,l,(g.trans g1).trans n,f,y,r,s,F]),λd M v e n=>ok.rt d M v e ((g.trans g1).trans n),λf y k e n r s Q=>ok.nx _ _ _ _ ((g.trans g1).trans n) r s Q,λf y k e n r s j=>by let[o,l,F]:=j;exact(#[o,l,(g.trans g1).trans n,f,y,r,s,F])]
  |false=>
   rw[ME Js]at x ⊢
   exact ok.nx _ _ _ _ (g.trans g1) (p.mono g1) I x
inductive Xo(g:Pr)(tb:Nu)(B:EndsD)(n:Nat)(δ0:DS)(M0:MH):Prop
 |mk (W:Nat->DS->MH->Prop)(w0:W 0 δ0 M0)(turn:∀i δ M,i<n->W i δ M->g (.int (i:Int)) δ M λδ2 M2=>tb (B.lp (W (i+1))) δ2 M2)(done:∀δ M,W n δ M->B.nx δ M):Xo g tb B n δ0 M0
inductive Xp(g:Pr)(tb:Nu)(B:EndsD)(ds:sg)(δ0:DS)(M0:MH):Prop
 |mk (n:Nat)(e:ds=[.int (n:Int)])(q:n<2^60/\Xo g tb B n δ0 M0):Xp g tb B ds δ0 M0
def E2(a:N7)(g:Pr)(b:Nu):Nu:=λB δ M=>a δ M λc d=>Xp g b B c δ d
theorem gZ{tg e:pv}{body:ri}{I:N7}{g:Pr}{J:Nu}{p L:Pos}(N:PassesOwn (Jn X.prog X.w) X.A X.env X.xe)(O:X.calm=MC)(P:Gl X "range")(Q:X.mg "range"=MB)(R:DA X [e] I)(S:DG X tg g)(T:DSs X body J)
 (o:Jk [e] X.env=[(MD,eval e X.env)]:=by rfl) (U:∀x,JG (.Call (.Name "range" p) [e] [] L) X.env x=pure x:=by intro _;rfl):DSt X (.For tg (.Call (.Name "range" p) [e] [] L) body [] pos) (E2 I g J):=
 cn (zI N O (nO P Q R o) S T U) λE σ H ⟨δ,M,o,a,B,ok,q⟩=>#[δ,M,_,o,a,q,λds V vs H1 g1 Y Z z9=>by
  let[n,e,hn,W,w0,j,done]:=z9
  subst e
  let[v,5,r]:=bP Y
  rw[Rep]at r;subst r
  exists (n:Int),5,(),()
  rw[show((n:Int)).toNat=n from by simp]
  refine wy (λi σ c=>ND X.K H c/\∃δ M,Slots X.K c δ σ/\NM X.K c M/\W i δ M) #[g1,δ,V,o.mono g1,Z,w0] ?_ ?_
  .rintro i σ H2 hi ⟨h,δ,M,z,C,D⟩
   refine #[.int (i:Int),δ,M,_,by rw[Rep];simp,z,C,j i δ M hi D,λF M3 a0 H3 s s3 a3 q3=>?_]
   refine #[F,M3,s3,a3,_,?_,q3]
   exact #[λb y k c f l m G=>#[(h.trans s).trans f,b,y,l,m,G],λd M v c f=>ok.rt d M v c ((h.trans s).trans f),λb y k c f l m q'=>ok.nx _ _ _ _ ((h.trans s).trans f) l m q',λb y k c f l m G=>#[(h.trans s).trans f,b,y,l,m,G]]
  .rintro σ H2 ⟨h,δ,M,z,C,D⟩
   exact ok.nx _ _ _ _ h z C (done δ M D)]
end
def zD{b:Bool}{A B:Prop}(e:b=MC)(h:A):if b=MC then A else B:=by rw[MF e];exact h
def pI{b:Bool}{A B:Prop}(e:b=MD)(h:B):if b=MC then A else B:=by rw[ME (by rw[e];exact Js)];exact h
theorem zH{b c:TD}{δ:DS}{M:MH}{Q:DK}(a d:Bool)(f:∀K:DK,K (.bl a) M->b δ M K)(g:a=MC->∀K:DK,K (.bl d) M->c δ M K)(e:Q (.bl (a&&d)) M):ya b c δ M Q:=
 f _ #[a,5,by
  cases a with
  |true=>rw[MF rfl];exact g rfl _ e
  |false=>rw[ME Js];exact e]
theorem orT{b c:Nh}{δ:DS}{M:MH}{Q:Bool->MH->Prop}(a d:Bool)(f:∀K:Bool->MH->Prop,K a M->b δ M K)(g:a=MD->∀K:Bool->MH->Prop,K d M->c δ M K)(e:Q (a||d) M):G9 b c δ M Q:=
 f _ (by
  cases a with
  |true=>rw[MF rfl];exact e
  |false=>rw[ME Js];exact g rfl _ e)
theorem yr{b c:Nh}{δ:DS}{M:MH}{Q:Bool->MH->Prop}(a d:Bool)(f:∀K:Bool->MH->Prop,K a M->b δ M K)(g:a=MC->∀K:Bool->MH->Prop,K d M->c δ M K)(e:Q (a&&d) M):CL b c δ M Q:=
 f _ (by
  cases a with
  |true=>rw[MF rfl];exact g rfl _ e
  |false=>rw[ME Js];exact e)
def uC(r b:Nx)(c d tc:TD):TD:=λδ M Q=>c δ M λx e=>d δ e λy f=>r x y f λz a=>∃k,z=.bl k/\if k=MC then tc δ a λu g=>b y u g Q else Q (.bl MD) a
theorem dA{t u:Nu}{B:EndsD}{δ:DS}{M:MH}(W:DS->MH->Prop)(c:∀a b,W a b->u B a b)(d:(∀a b,W a b->u B a b)->t (B.nxt (u B)) δ M):fI t u B δ M:=d c
def Sub(b M:MH):Prop:=∀a o,b a=MA o->M a=MA o
theorem Sub.refl{M:MH}:Sub M M:=λ_ _ h=>h
theorem Sub.trans{M c M2:MH}(a:Sub M c)(b:Sub c M2):Sub M M2:=λx o h=>b x o (a x o h)
theorem Sub.new{M b:MH}{p:pd}{o:MO}(c:M p=MB)(s:Sub b M):Sub b (av M p o):=λa u h=>by rw[ak (λe=>by subst e;rw[s _ _ h]at c;cases c)];exact s _ _ h
inductive Rx(Q:DK)(d:D)(M:MH):Prop
 |mk (M':MH)(s:Sub M' M)(q:Q d M'):Rx Q d M
@[reducible] def jA(Q:DK):EndsD:={ nx:=λ_ a=>Rx Q .non a,rt:=Rx Q }
theorem NP{Q:DK}{d:D}{M:MH}(q:Q d M):Rx Q d M:=#[M,.refl,q]
abbrev Nl:=sg->MH->DK->Prop
def dN(K:J1)(sp:Nl):Sp:=λvs H Q _=>∃a M R,aD K H a vs/\NM K H M/\sp a M R/\Fin K H R Q
def Cal(P:Ju)(w:JV)(K:J1)(mg:Str->Option J3)(base:pq)(k:Nat)(x:Str)(sp:Nl):Prop:=
 ∃f fd ps,Ni P w K mg base OT k f fd ps (dN K sp)/\mg x=MA (.ref f)/\Ky K (.ref f)=MC/\Binds K fd ps []
theorem Cal.mono{P:Ju}{w:JV}{K:J1}{mg:Str->Option J3}{base:pq}{j k:Nat}{x:Str}{sp:Nl}(h:Cal P w K mg base j x sp)(l:j<=k):Cal P w K mg base k x sp:=let⟨f,fd,ps,F,r⟩:=h;#[f,fd,ps,F.mono l,r]
section
variable{X:Cx}{k:Nat}{x:Str}{sp:Nl}{p pos:Pos}{e:pv}{es:ro}{t:N7}
def si(sp:Nl)(t:N7):TD:=λδ M Q=>t δ M λa b=>sp a b Q
def au(C:Cal X.prog X.w X.K X.mg X.base k x sp)(g:NL k X.A)(h:DA X (e::es) t)(i:Gl X x:=by rfl)(b:(x==("__debug__":Str))=MD:=by decide)
 (j:Jk (e::es) X.env=(MD,eval e X.env)::Jk es X.env:=by rfl) (c:(Kr pos (Jk es X.env)).any (·.1)=MD:=by rfl):DE X (.Call (.Name x p) (e::es) [] pos) (si sp t):=by
 let[f,fd,ps,F,l,m,n]:=C
 refine aX (AD F g i l m n .nil uI h b j c) λσ H Q a=>?_
 let[δ,M,R,o,r,q,d]:=a
 refine #[δ,M,_,o,r,q,λs u vs H1 g1 v y z=>?_]
 show dN X.K sp (vs++[]) H1 Q E0
 rw[KD]
 exact #[s,u,R,v,y,z,d.go g1]
end
def dw(N:rq)(ds:sg):DS:=ds.map MA++JJ (N.length-ds.length) MB
section
variable{P:Ju}{w:JV}{K:J1}{mg:Str->Option J3}{base:pq}
def X5{x qual:Str}{st:pe}{f:pd}{fd:FuncData}{N ps:rq}{k:Nat}{sp:Nl}(F:RX K x qual st f fd)(S:NB N ps (ao st))(len:∀ds M Q,sp ds M Q->ds.length=ps.length)
 (l:∀X:Cx,X.prog=P->True) (body:∀(cdv:J3)(A:JP)(outer:List Env)(s:J5)(H:Hp)(E:XK),NL k (A.deeper (Mg qual (ao st) s.z f cdv))->
  ∃t,DSs (gJ OT P w K mg base N qual (ao st) f cdv A outer s H E).nox (aL st) t/\∀ds M Q,sp ds M Q->t (jA Q) (dw N ds) M):Ni P w K mg base OT (k+1) f fd ps (dN K sp):=by
 refine F.ok S (λvs H Q E b=>by let[ds,M,R,m,_,q,_]:=b;rw[<-m.length];exact len _ _ _ q) λcdv A outer s H vs Q E y c=>?_
 let[ds,M,R,m,a,q,i]:=c
 let[t,h,B]:=body cdv A outer s H E y
 refine #[_,h,dw N ds,M,kn m,a,(jA R),#[λC D G p g I n j=>?_,λd D v p g r n e=>by let[u,o,j]:=e;exact(i _ _ _ _ g r (n.sub o) j),λ_ _ _ _ _ _ _ z=>z,λ_ _ _ _ _ _ _ z=>z],B ds M R q]
 let[u,o,j]:=j
 exact i .non u .non p g (by rw[Rep]) (n.sub o) j
def Txt(K:J1)(mg:Str->Option J3)(x:Str)(st:pe):Prop:=∃f fd,RX K x x st f fd/\mg x=MA (.ref f)
theorem Txt.mk{h:pq}{x:Str}{st:pe}{f:pd}{oc:J3}{od an:Option pd}{osl:Array (Option J3)}{kV b d cdv ct:J3}(X:K.In h)(G:h.Ns K6 mg)(a:LG K K6 x=MA (MA (.ref f))) (l:K.lookup f=MA #[oc,od,.func (Kc x x (aZ st) (aL st) (ao st) .none kV b d an cdv ct),osl]) (c:Lv K cdv x=MC) (k:Ky K (.ref f)=MC):Txt K mg x st:=#[f,_,oO l c k,PySem.W.mg_of X G a]
def wC{x:Str}{st:pe}{N ps:rq}{k:Nat}{sp:Nl}(T:Txt K mg x st)(S:NB N ps (ao st))
 (b:∀(kV a c:J3)(an:Option pd)(cdv ct:J3)(us:List J3),us.length=ps.length->LR (Kc x x (aZ st) (aL st) (ao st) .none kV a c an cdv ct) #[us,[]]=pure (ps.zip us))
 (len:∀ds M Q,sp ds M Q->ds.length=ps.length)
 (body:∀(f:pd)(cdv:J3)(A:JP)(outer:List Env)(s:J5)(H:Hp)(E:XK),NL k (A.deeper (Mg x (ao st) s.z f cdv))->
  ∃t,DSs (gJ OT P w K mg base N x (ao st) f cdv A outer s H E).nox (aL st) t/\∀ds M Q,sp ds M Q->t (jA Q) (dw N ds) M):Cal P w K mg base (k+1) x sp:=by
 let[f,fd,F,d]:=T
 exact #[f,fd,ps,X5 F S len (λ_ _=>trivial) (body f),d,F.kp,F.binds b]
end
def sW:Kq "abs"=MA (.builtin "abs"):=by decide +kernel
def sH:Kq "max"=MA (.builtin "max"):=by decide +kernel
def yY:Kq "min"=MA (.builtin "min"):=by decide +kernel
def ck:Kq "len"=MA (.builtin "len"):=by decide +kernel
def mM:Kq "tuple"=MA (.type "tuple"):=by decide +kernel
def k7:Kq "list"=MA (.type "list"):=by decide +kernel
def xP:Kq "int"=MA (.type "int"):=by decide +kernel
section
variable{P:Ju}{w:JV}{K:J1}{mg:Str->Option J3}
def HY{x:Str}{st:pe}{N:rq}{p:Str}{k:Nat}{sp:Nl}{fa:pd}(T:Txt K mg x st)(b:mg x=MA (.ref fa))(S:NB N [p] (ao st))
 (d:∀(kV a c:J3)(an:Option pd)(cdv ct:J3)(us:List J3),us.length=[p].length->LR (Kc x x (aZ st) (aL st) (ao st) .none kV a c an cdv ct) #[us,[]]=pure ([p].zip us))
 (len:∀ds M Q,sp ds M Q->ds.length=[p].length)
 (body:∀(base:pq)(f:pd)(cdv:J3)(A:JP)(outer:List Env)(s:J5)(H:Hp)(E:XK),NL k (A.deeper (Mg x (ao st) s.z f cdv))->
  ∃t,DSs (gJ OT P w K mg base N x (ao st) f cdv A outer s H E).nox (aL st) t/\∀ds M Q,sp ds M Q->t (jA Q) (dw N ds) M) :
 ∃fd,(∀(s:J5)(u:J3),BindsTo s fd #[[u],[]] [(p,u)])/\∀base:pq,Ni P w K mg base OT (k+1) fa fd [p] (dN K sp):=by
 let[f,fd,F,g]:=T
 let e:=b.symm.trans g
 cases e
 refine #[fd,λs u=>?_,λbase=>X5 F S len (λ_ _=>trivial) (body base _)]
 let[oc,od,kV,a,c,an,cdv,ct,osl,5,i,h]:=F.ex
 exact .of_eq (d kV a c an cdv ct [u] rfl)
end
end SD
namespace Ma
open PySem PySem.Spec PyProof.Rows L2 SD
abbrev fr(q:Rat):D:=.tup [.int q.num,.int (q.den:Int)]
def den_pos(q:Rat):(0:Int)<(q.den:Int):=by have:=q.den_pos;omega
def Bq(n:Nat)(q:Rat):Prop:=Bd n q.num/\Bd n (q.den:Int)
theorem Bq.mono{m n:Nat}{q:Rat}(h:Bq m q)(l:m<=n):Bq n q:=#[h.1.mono l,h.2.mono l]
theorem qk{t b:Int}(a:0<b):t.fdiv b=t/b:=K4 _ ()
def fdiv_neg{t b:Int}(hd:b ∣ t)(d:0<b):t.fdiv (-b)=-(t/b):=by
 let[c,5]:=hd;let a:b≠0:=()
 rw[Int.mul_ediv_cancel_left _ a];have:b*c=-b * -c:=by rw[Int.neg_mul_neg]
 rw[this];exact Int.mul_fdiv_cancel_left _ ()
theorem uD(t b:Int):((LN t.natAbs b.natAbs:Nat):Int) ∣ t:=Int.ofNat_dvd_left.mpr (Nat.gcd_dvd_left _ _)
theorem uG(t b:Int):((LN t.natAbs b.natAbs:Nat):Int) ∣ b:=Int.ofNat_dvd_left.mpr (Nat.gcd_dvd_right _ _)
def nH(t b:Int):Int.gcd b t=LN t.natAbs b.natAbs:=by unfold Int.gcd;exact Nat.gcd_comm _ _
theorem fv{t b:Int}(a:b≠0):0<LN t.natAbs b.natAbs:=Nat.gcd_pos_of_pos_right _ ()
def u7{t b:Int}(a:0<b):t.fdiv (LN t.natAbs b.natAbs:Nat)=(Rat.divInt t b).num/\b.fdiv (LN t.natAbs b.natAbs:Nat)=((Rat.divInt t b).den:Int):=by
 let c:=fv (t:=t) (b:=b) ();rw[qk (),qk (),Rat.num_divInt,Rat.den_divInt,ME (),JZ a,Int.one_mul,nH];exists 5;rw[Int.natCast_ediv]
 congr 1
 omega
def AE{t b:Int}(a:b<0):t.fdiv (-((LN t.natAbs b.natAbs:Nat):Int))=(Rat.divInt t b).num/\b.fdiv (-((LN t.natAbs b.natAbs:Nat):Int))=((Rat.divInt t b).den:Int):=by
 let c:=fv (t:=t) (b:=b) ();rw[fdiv_neg (uD t b) (),fdiv_neg (uG t b) (),Rat.num_divInt,Rat.den_divInt,ME (),JL a,nH];constructor
 .rw[show(-1:Int)*t=-t from by omega,Int.neg_ediv_of_dvd (uD t b)]
 .rw[Int.natCast_ediv,show((b.natAbs:Nat):Int)=-b from by omega,Int.neg_ediv_of_dvd (uG t b)]
def sR{t b:Int}(a:b≠0):(Rat.divInt t b).num.natAbs<=t.natAbs/\(Rat.divInt t b).den<=b.natAbs:=by
 constructor
 .rw[Rat.num_divInt];refine JT (Int.natAbs_ediv_le_natAbs _ _) ?_;rw[Int.natAbs_mul];rcases JB b 0 with h|h|h
  .rw[JL h];simp
  .exact absurd h a
  .rw[JZ h];simp
 .rw[Rat.den_divInt,ME a];exact Nat.div_le_self _ _
def Bq.divInt{n:Nat}{t b:Int}(a:b≠0)(h1:Bd n t)(h2:Bd n b):Bq n (Rat.divInt t b):=by let[c,d]:=sR (t:=t) a;exact #[Nat.lt_of_le_of_lt c h1,Nat.lt_of_le_of_lt ‹d› h2]
def u9(x y:Nat):Int.fmod (x:Int) (y:Int)=((x%y:Nat):Int):=by rw[Int.fmod_eq_emod_of_nonneg _ ()];rfl
def sE(q r:Rat):JS (.tuple [.int q.num,.int (q.den:Int)]) (.tuple [.int r.num,.int (r.den:Int)])=decide (q=r):=by
 simp only[JS,Kt,Bool.and_true];by_cases h:q=r
 .subst h;simp
 .rw[MG h];rw[Bool.eq_false_iff];intro z;rw[Kp,beq_iff_eq,beq_iff_eq]at z;exact h (Rat.ext z.1 (by have:=z.2;omega))
def Hz(q r:Rat):decide (q.num*(r.den:Int)<r.num*(q.den:Int))=decide (q<r):=by rw[MK,Rat.lt_iff]
abbrev spt(a b:Rat):D:=.tup [fr a,fr b]
def lF(a b c d:Rat):JS (.tuple [.tuple [.int a.num,.int (a.den:Int)],.tuple [.int b.num,.int (b.den:Int)]]) (.tuple [.tuple [.int c.num,.int (c.den:Int)],.tuple [.int d.num,.int (d.den:Int)]])=decide (a=c/\b=d):=by rw[JS,Kt,Kt,Kt,sE,sE,Bool.and_true,Bool.decide_and]
def i8(q:Rat):(q.den:Int)≠0:=by have:=q.den_pos;omega
def sub_eq(q r:Rat):Rat.divInt (q.num*(r.den:Int)-r.num*(q.den:Int)) ((q.den:Int)*(r.den:Int))=q-r:=by rw[<-Rat.divInt_sub_divInt _ _ (i8 q) (i8 r),Rat.num_divInt_den,Rat.num_divInt_den]
theorem uF(q r:Rat):(q.den:Int)*(r.den:Int)≠0:=Int.mul_ne_zero (i8 q) (i8 r)
theorem Bq.tZ{n:Nat}{q r:Rat}(a:Bq n q)(b:Bq n r):Bd (2*n+1) (q.num*(r.den:Int)-r.num*(q.den:Int)):=((a.1.mul b.2).sub (b.1.mul a.2)).mono ()
def sgn(z:Rat):Int:=if 0<z then 1 else if z<0 then -1 else 0
def cr(a b c d x y:Rat):Rat:=(c-a)*(y-b)-(d-b)*(x-a)
abbrev wll(a b c d:Rat):D:=.tup [spt a b,spt c d]
def ah(a b c d:Rat):Prop:=a<c\/a=c/\b<d
instance(a b c d:Rat):Decidable (ah a b c d):=inferInstanceAs (Decidable (_\/_))
def pos_int{i:Int}(h:0<i):(0:Rat)<(i:Rat):=by rw[Rat.lt_iff];simpa using h
end Ma
namespace SD
open PySem PySem.Spec PyProof.Rows L2
def eM(names:List (Str×Lu))(env:Env):List (Str×pd):=(names.filter λy=>y.2==.free).reverse.map λy=>(y.1,(env.cells.lookup y.1).getD 0)
def mG{scope:L9}{env:Env}(h:∀y∈scope.names,y.2=.free->∃c,env.cells.lookup y.1=MA c):closureFor scope env=pure (eM scope.names env):=by
 let key:∀(names:List (Str×Lu)) (b:List (Str×pd)),(∀y∈names,y.2=.free->∃c,env.cells.lookup y.1=MA c)->
  (forIn names b (λ(x:Str×Lu) (r:List (Str×pd))=>if(x.2==LI)=MC then do let a <-cellOf env x.1;pure (LD ((x.1,a)::r))else pure (LD r)):Sem (List (Str×pd)))=pure (eM names env++b):=by
  intro names
  induction names with
  |nil=>intro b _;rfl
  |cons y j g=>
   intro b e
   let[n,k]:=y
   rw[List.forIn_cons]
   by_cases d:(k==LI)=MC
   .obtain⟨c,i⟩:=e (n,k) (KO ..) ‹d›
    let e1:cellOf env n=pure c:=by unfold cellOf;rw[i]
    dsimp only
    rw[MF d,e1]
    simp only[pure_bind]
    rw[g _ λy f=>e y (K0 _ f)]
    unfold eM
    rw[List.filter_cons_of_pos ‹d›,List.reverse_cons,JE,List.append_assoc]
    simp[i]
   .dsimp only
    rw[ME d]
    simp only[pure_bind]
    rw[g _ λy f=>e y (K0 _ f)]
    unfold eM
    rw[List.filter_cons_of_neg ‹d›]
 have:=key scope.names [] h;rw[KD]at this;unfold closureFor;exact Eq.trans (congrArg (λt:Sem (List (Str×pd))=>t >>= λcs=>pure cs) this) rfl
def pX{env:Env}{y:Str}{c:pd}:∀{names:List (Str×Lu)},(∀z∈names,z.2=.free->∃c,env.cells.lookup z.1=MA c)->(eM names env).lookup y=MA c->env.cells.lookup y=MA c:=by intro names h e;let b:=JQ e;unfold eM at b;let[z,a,e2]:=JO.mp b;rw[List.mem_reverse,K1]at a;let[f,d]:=h z a.1 ‹a.2›;rw[d]at e2;cases e2;exact d
def pS{env:Env}{y:Str}{names:List (Str×Lu)}(a:(y,LI)∈names):∃c,(eM names env).lookup y=MA c:=by
 cases e:(eM names env).lookup y with
 |some c=>exact #[c,rfl]
 |none=>
  have:=List.lookup_eq_none_iff.mp e (y,(env.cells.lookup y).getD 0) (JO.mpr #[(y,.free),List.mem_reverse.mpr (K1.mpr #[a,rfl]),rfl])
  simp at this
theorem gC{env:Env}(d:env.scope.kind=.function):∀{names:List (Str×Lu)} {y:Str} {k:Lu},
 (names.map λ(n,k)=>if(k==LI&&env.scope.kind==.function&&env.kindOf n==MA .cell)then(n,NameKind.cell)else(n,k)).lookup y=MA k->
  names.lookup y=MA k\/(k=.cell/\names.lookup y=MA .free)
 |[],_,_,h=>by simp at h
 |(n,q)::r,y,k,h=>by
  let e:=@gC env d r y k
  rw[Ji]at h
  dsimp only at h
  by_cases b:(y==n)=MC
  .by_cases c:(q==LI&&env.scope.kind==.function&&env.kindOf n==MA .cell)=MC
   .rw[MF c,Ki,b]at h
    let f:q=.free:=by
     rw[Kp,Kp]at c
     simpa using c.1.1
    cases h
    right
    exact #[5,by rw[Ki,b,f]]
   .rw[ME c,Ki,b]at h
    left
    rw[Ki,b];exact h
  .have a:(y==n)=MD:=‹b›
   let g:(r.map λ(n,k)=>if(k==LI&&env.scope.kind==.function&&env.kindOf n==MA .cell)then(n,NameKind.cell)else(n,k)).lookup y=MA k:=by
    split at h
    .rw[Ki,a]at h;exact h
    .rw[Ki,a]at h;exact h
   rw[Ki,a]
   exact e g
theorem jW{X:Cx}{tg a:pv}{c b:TI}(h:PI X tg a c)(k:∀σ H R,b σ H R->c σ H R):PI X tg a b:=λMP s σ H R I q=>h MP s σ H R I (k _ _ _ q)
def IC(K:J1)(b:TE):TI:=λσ H R=>b σ H λx H1=>∃a,x=.ref a/\(((∃xs,NX K H1 a xs)/\R (Itl K a) H1)\/((∃xs,NW K H1 a xs)/\R (Itt K a) H1))
def EO{X:Cx}{tg l:pv}{j:TE}(k:PE X l j):PI X tg l (IC X.K j):=by
 intro MP s σ H R I h;refine NJ (k MP s σ H _ I h) λv c d=>?_;let[x,H1,f,m,n]:=d;let[a,e,z]:=n;subst e;cases m
 let fp:∀b∈[c.z],cB X MP H1 b:=λb r=>by
  obtain rfl:b=c.z:=‹r›
  exact f.oV (Je _) (f.hok.fresh (Je _))
 rcases z with⟨⟨xs,i⟩,q⟩|⟨⟨xs,i⟩,q⟩
 .obtain⟨g,t,p,u⟩:=f.list i;exact wpAny_pyIter_list p.isList #[_,[c.z],_,_,H1,5,f.kept (t':=c.toks) λb o e=>J6 _ e,v9 a _,#[_,Jh _ rfl,5,rfl],fp,q]
 .obtain⟨g,t,p,u⟩:=f.tuple i;exact wpAny_pyIter_tuple (show c.heap.IsTuple a g.toArray from p) #[_,[c.z],_,_,H1,5,f.kept (t':=c.toks) λb o e=>J6 _ e,tE a _,#[_,Jh _ rfl,5,rfl],fp,q]
structure QL where
 n:Nat
 item:Nat->sk
 C:MH->Prop
abbrev OL:=DS->MH->(QL->MH->Prop)->Prop
structure Xn(K:J1)(H1:Hp)(I:QL)(J:It):Prop where
 stop:∀H2 M2,ND K H1 H2->NM K H2 M2->I.C M2->J.stop I.n H2
 go:∀i H2 M2,i<I.n->ND K H1 H2->NM K H2 M2->I.C M2->J.go i H2
 yld:∀i H2 M2 v H3,i<I.n->ND K H1 H2->NM K H2 M2->I.C M2->J.yld i H2 v H3->ND K H2 H3/\NM K H3 M2/\∃d,I.item i=MA d/\Rep K H3 d v
def kg(K:J1)(t:OL):TI:=λσ H R=>∃δ M b,Slots K H δ σ/\NM K H M/\t δ M b/\∀I c a J,ND K H a->NM K a c->b I c->Xn K a I J->R J a
namespace Zq
@[scoped irreducible]def _root_.SD.DI(X:Cx)(tg a:pv)(t:OL):Prop:=PI X tg a (kg X.K t)
end Zq
def Fm(M:MH):D->sg->Prop
 |.tup ds,es=>es=ds
 |.rol ds,es=>es=ds
 |.ref a,es=>M a=MA (.lst es)
 |_,_=>False
inductive Rn1(ds:sg)(M:MH)(R:QL->MH->Prop):Prop
 |mk (n:Nat)(h:ds=[.int (n:Int)])(q:n<2^60/\R #[n,λi=>MA (.int (i:Int)),λ_=>True] M):Rn1 ds M R
inductive Sq1(d:D)(M:MH)(R:QL->MH->Prop):Prop
 |mk (ds:sg)(h:Fm M d ds)(q:R #[ds.length,λi=>ds[i]?,λM=>Fm M d ds] M):Sq1 d M R
def F7(a:N7):OL:=λδ M R=>a δ M λb c=>Rn1 b c R
def Io(a:TD):OL:=λδ M R=>a δ M λd b=>Sq1 d b R
section
variable{X:Cx}{tg:pv}
theorem fL{a:pv}{d:N7}{p pos:Pos}(g:Gl X "range")(h:X.mg "range"=MB)(j:DA X [a] d)(b:Jk [a] X.env=[(MD,eval a X.env)]:=by rfl):DI X tg (.Call (.Name "range" p) [a] [] pos) (F7 d):=
 jW (nO g h j b) λσ H R k=>by
  let[δ,M,x,b,l,q,c]:=k
  exact #[δ,M,_,b,l,q,λy m vs H1 g1 o s t=>by
   let[n,e,z,u]:=t
   subst e
   let[v,5,r]:=bP o
   rw[Rep]at r;subst r
   refine #[(n:Int),5,(),(),c _ m H1 _ g1 s u #[λ_ _ _ _ _=>by show((n:Int)).toNat<=n;simp,λi _ _ f _ _ _=>by show i<((n:Int)).toNat;simpa using f,?_]]
   rintro i A B v C f D w _ ⟨rfl,rfl⟩
   exact #[.refl,w,7,by rw[Rep];simp]]
theorem aP{l:pv}{E:TD}(G:DE X l E):DI X tg l (Io E):=
 jW (EO G) λσ H R I=>by
  let[δ,M,N,J,K,q,o]:=I
  exact #[δ,M,_,J,K,q,λd y v H1 g1 s z L=>by
   let[e,A,B]:=L
   cases d with
   |tup C=>
    obtain rfl:e=C:=A
    rw[Rep]at s
    let[a,xs,5,j,m]:=s
    refine #[a,5,.inr #[#[xs,j],o _ y H1 _ g1 z B #[λn _ c _ _=>#[xs,c.t _ _ j,by rw[m.length];exact Je _],λi n _ b c _ _=>?_,?_]]]
    .have g:i<xs.length:=by rw[<-m.length];exact b
     exact #[xs,xs[i],c.t _ _ j,by simp[g]]
    .rintro i n p v F b c h _ ⟨rfl,k⟩
     let b:i<e.length:=b
     let[x,e1,e2]:=(m.mono c).get (show e[i]?=MA e[i] by simp[b])
     have:=k xs (c.t _ _ j)
     rw[e1]at this;cases this
     exact #[.refl,h,_,by simp[b],e2]
   |rol C=>
    obtain rfl:e=C:=A
    rw[Rep]at s
    let[a,xs,5,j,m]:=s
    refine #[a,5,.inl #[#[xs,j.sql],o _ y H1 _ g1 z B #[λn _ c _ _=>#[xs,(c.f _ _ j).sql,by rw[m.length];exact Je _],λi n _ b c _ _=>?_,?_]]]
    .have g:i<xs.length:=by rw[<-m.length];exact b
     exact #[xs,xs[i],(c.f _ _ j).sql,by simp[g]]
    .rintro i n p v F b c h _ ⟨rfl,k⟩
     let b:i<e.length:=b
     let[x,e1,e2]:=(m.mono c).get (show e[i]?=MA e[i] by simp[b])
     have:=k xs (c.f _ _ j).sql
     rw[e1]at this;cases this
     exact #[.refl,h,_,by simp[b],e2]
   |ref a=>
    rw[Rep]at s;subst s
    let[xs,hx,m]:=z _ _ (show y a=MA (.lst e)from A)
    refine #[a,5,.inl #[#[xs,NX.of hx],o _ y H1 _ g1 z B #[λn p c h u=>?_,λi n p b c h u=>?_,?_]]]
    .obtain⟨r,k,w⟩:=h _ _ (show p a=MA (.lst e)from u)
     exact #[r,NX.of k,by rw[w.length];exact Je _]
    .obtain⟨r,k,w⟩:=h _ _ (show p a=MA (.lst e)from u)
     let g:i<r.length:=by rw[<-w.length];exact b
     exact #[r,r[i],NX.of k,by simp[g]]
    .rintro i n p v F b c h u ⟨rfl,k⟩
     let b:i<e.length:=b
     let[r,D,w]:=h _ _ (show p a=MA (.lst e)from u)
     let[x,e1,e2]:=w.get (show e[i]?=MA e[i] by simp[b])
     have:=k r (NX.of D)
     rw[e1]at this;cases this
     exact #[.refl,h,_,by simp[b],e2]
   |_=>exact A.elim]
inductive Xq(g:Pr)(tb:Nu)(B:EndsD)(I:QL)(δ0:DS)(M0:MH):Prop
 |mk (W:Nat->DS->MH->Prop)(w0:W 0 δ0 M0)(hC:∀i δ M,i<=I.n->W i δ M->I.C M)(turn:∀i d δ M,i<I.n->I.item i=MA d->W i δ M->g d δ M λδ2 M2=>tb (B.lp (W (i+1))) δ2 M2)(done:∀δ M,W I.n δ M->B.nx δ M):Xq g tb B I δ0 M0
def Gy(a:OL)(g:Pr)(b:Nu):Nu:=λB δ M=>a δ M λI c=>Xq g b B I δ c
theorem bJ{b:pv}{body:ri}{Q:OL}{g:Pr}{R:Nu}{pos:Pos}(V:PassesOwn (Jn X.prog X.w) X.A X.env X.xe)(Y:X.calm=MC)(p:DI X tg b Q)(Z:DG X tg g)(hb:DSs X body R)
 (hf:∀x,JG b X.env x=pure x:=by intro _;rfl):DSt X (.For tg b body [] pos) (Gy Q g R):=
 cn (zI V Y p Z hb hf) λE σ H ⟨δ,M,S,a,B,ok,q⟩=>#[δ,M,_,S,a,q,λI M1 H1 J g1 a1 z9 N=>by
  let[W,w0,hC,r,done]:=z9
  refine #[λi m σ h=>m=I.n-i/\i<=I.n/\ND X.K H1 h/\∃δ M,Slots X.K h δ σ/\NM X.K h M/\W i δ M,#[I.n,by simp,K3 _,.refl,δ,M1,S.mono g1,a1,w0],?_]
  rintro i m σ h ⟨rfl,p,s,j,l,T,D,t⟩
  by_cases e:i<I.n
  .refine .inr #[N.go i h l e s D (hC _ _ _ p t),λc o=>ND X.K H1 o/\∃δ M,Slots X.K o δ c/\NM X.K o M/\W (i+1) δ M,λc o z=>#[I.n-(i+1),(),5,e,z],λx o y=>?_]
   let[U,a3,d,ed,rd]:=N.yld i h l x o e s D (hC _ _ _ p t) y
   refine #[d,j,l,_,rd,T.mono U,a3,r i d j l e ed t,λO M4 a0 H4 g4 s4 a4 q4=>#[O,M4,s4,a4,_,?_,q4]]
   let G:ND X.K H1 H4:=(s.trans U).trans g4
   exact #[λf F c L k u C P=>#[G.trans k,f,F,u,C,P],λd M v L k=>ok.rt d M v L ((g1.trans G).trans k),λf F c L k u C q'=>ok.nx _ _ _ _ ((g1.trans G).trans k) u C q',λf F c L k u C P=>#[G.trans k,f,F,u,C,P]]
  .obtain rfl:i=I.n:=()
   exact .inl #[N.stop h l s D (hC _ _ _ p t),ok.nx _ _ _ _ (g1.trans s) T D (done j l t)]]
def GW(i:Nat)(te:TD)(f:Int->Int->Int):Nu:=λB δ M=>∃k,δ[i]?=MA (MA (.int k))/\te δ M λy a=>∃j,y=.int j/\B.nx (δ.set i (MA (.int (f k j)))) a
theorem tj(i:Nat){x:Str}{e:pv}{te:TD}{op:Operator}{f:Int->Int->Int}{pos c:Pos}(h:X.N.Nodup)(l:YC X op (Zo f))(m:DE X e te)(n:X.N[i]?=MA x:=by rfl)(hx:Loc X.env.scope x:=by first|exact Or.inl rfl|exact Or.inr rfl)
 (o:X.fn x=MC\/X.env.scope.names.lookup x=MA .local:=by first|exact .inl rfl|exact .inr rfl|assumption):DSt X (.AugAssign (.Name x c) op e pos) (GW i te f):=
 cn (DR h n hx m l o) λE σ H p=>by
  let[δ,M,d,a,B,ok,k,e1,q]:=p
  let[v,e2,r]:=d.at' i _ e1
  rw[Rep]at r;subst r
  refine #[_,e2,δ,M,_,d,a,q,λy z u H1 g1 g s b=>?_]
  let[j,t,w]:=b
  subst t
  rw[Rep]at g;subst g
  exact #[k,j,5,5,ok.nx _ _ _ _ g1 ((d.mono g1).set (by rw[Rep]) i) s w]
end
def hv(n:Nat):Nat:=if n=0 then 0 else n.log2+1
def Cf(f n:Nat):2^f<=n↔f<hv n:=by
 unfold hv;split
 .rename_i h;subst h;have:0<2^f:=Nat.pow_pos ⋯;omega
 .rename_i h;rw[Nat.lt_succ_iff,Nat.le_log2 h]
end SD
namespace Ma
open SD
def lU{a b:Int}(h:0<b):0<Rat.divInt a b↔0<a:=by
 let h1:=Rat.divInt_nonneg_iff_of_pos_right (a:=-a) h;rw[<-Rat.neg_divInt]at h1;have:¬(0<=-Rat.divInt a b)↔0<Rat.divInt a b:=by constructor<;>intro z<;>grind
 rw[<-this,h1];omega
def tM{a b:Int}(h:0<b):Rat.divInt a b<0↔a<0:=by
 let h1:=Rat.divInt_nonneg_iff_of_pos_right (a:=a) h;have:¬(0<=Rat.divInt a b)↔Rat.divInt a b<0:=by constructor<;>intro z<;>grind
 rw[<-this,h1];omega
def Br{t b:Int}(h:0<b):sgn (Rat.divInt t b)=if 0<t then 1 else if t<0 then -1 else 0:=by unfold sgn;simp only[lU h,tM h]
def Bl(a b c d x y:Rat) :
 Rat.divInt ((c.num*(a.den:Int)-a.num*(c.den:Int))*(y.num*(b.den:Int)-b.num*(y.den:Int))*((d.den:Int)*(b.den:Int)*((x.den:Int)*(a.den:Int))) -
  (d.num*(b.den:Int)-b.num*(d.den:Int))*(x.num*(a.den:Int)-a.num*(x.den:Int))*((c.den:Int)*(a.den:Int)*((y.den:Int)*(b.den:Int))))
  ((c.den:Int)*(a.den:Int)*((y.den:Int)*(b.den:Int))*((d.den:Int)*(b.den:Int)*((x.den:Int)*(a.den:Int))))=cr a b c d x y:=by
 rw[<-Rat.divInt_sub_divInt _ _ (Int.mul_ne_zero (uF c a) (uF y b)) (Int.mul_ne_zero (uF d b) (uF x a)),<-Rat.divInt_mul_divInt,<-Rat.divInt_mul_divInt,sub_eq,sub_eq,sub_eq,sub_eq]
 rfl
end Ma
namespace SD
open PySem PySem.Spec PyProof.Rows L2
abbrev Nn:J3->J5->Prop:=λ_ _=>False
def cN(X:Cx)(xs:rq)(js:q7):rq:=xs++js.map λj=>(X.N[j]?).getD ("":Str)
def cσ(os:L2.St)(js:q7)(σ:L2.St):L2.St:=os++js.map λj=>(σ[j]?).join
theorem cM:∀(names:List (Str×Lu)) (n:Nat) (a:List (Str×pd)),KZ n names a=KZ n names []++a
 |[],_,_=>rfl
 |(x,k)::r,n,a=>by
  unfold KZ
  split
  .rw[cM r (n+1) ((x,n)::a),cM r (n+1) [(x,n)],List.append_assoc];rfl
  .exact cM r n a
theorem jE:∀(names:List (Str×Lu)) (n:Nat) {y:Str} {c:pd},(y,c)∈KZ n names []->(y,NameKind.cell)∈names
 |[],_,_,_,h=>by cases h
 |(x,k)::r,n,y,c,h=>by
  unfold KZ at h
  split at h
  .rename_i hk
   rw[cM]at h
   rcases Jv.mp h with h|h
   .exact K0 _ (jE r _ h)
   .have e:(y,c)=(x,n):=‹h›
    cases e
    obtain rfl:k=.cell:=‹hk›
    exact KO
  .exact K0 _ (jE r _ h)
def ql{l r:List (Str×pd)}{y:Str}{c:pd}(h:(l++r).lookup y=MA c):l.lookup y=MA c\/(l.lookup y=MB/\r.lookup y=MA c):=by
 rw[List.lookup_append]at h;cases e:l.lookup y with
 |some a=>rw[e]at h;exact .inl h
 |none=>rw[e]at h;exact .inr #[5,h]
def yo{env:Env}{y:Str}{c:pd}{names:List (Str×Lu)}(h:(eM names env).lookup y=MA c):(y,LI)∈names:=by
 let b:=JQ h;unfold eM at b;let[z,a,e]:=JO.mp b;rw[List.mem_reverse,K1]at a;let[n,k]:=z;obtain rfl:k=.free:=‹a.2›
 cases e;exact a.1
theorem fQ{env:Env}{k:Lu}(b:k≠.free):∀{names:List (Str×Lu)} {x:Str},names.lookup x=MA k->
 (names.map λ(n,k)=>if(k==LI&&env.scope.kind==.function&&env.kindOf n==MA .cell)then(n,NameKind.cell)else(n,k)).lookup x=MA k
 |[],_,h=>by simp at h
 |(n,q)::r,x,h=>by
  let c:=@fQ env k b r x
  rw[Ji]
  dsimp only
  by_cases hx:(x==n)=MC
  .rw[Ki,hx]at h
   cases h
   rw[ME (by intro z;rw[Kp,Kp]at z;exact b ‹z.1.1›),Ki,hx]
  .have a:(x==n)=MD:=‹hx›
   rw[Ki,a]at h
   split<;>(rw[Ki,a];exact c h)
def oX{M:Model}{A:JP}{E:J3->J5->Prop}{s:J5}{scope:L9}{globals:pd}{cl:List (Str×pd)}{qual:Str}{env:Env}{Q:Env->J5->Prop} (h:Q { scope:=scope,locals:=s.z,globals:=globals,cells:=KZ (s.z+1) scope.names cl,qual:=qual,func:=MB,code:=env.code,frame:=env.frame,builtins:=env.builtins } { s with heap:=pushCells (s.heap.push { cls:=.type "dict",data:=.dict #[] }) scope.names }) : Jj M A (Mh scope globals cl [] qual MB .none (MA env)) Q E s:=by simp only[Mh,Option.isSome_some,if_true];refine J0 (wpAny_alloc ?_);refine J0 (wpAny_layCells _ (λname kind cells=>by cases a:kind==NameKind.cell<;>simp[a]) _ _ _ _ ?_);rw[show({ s with heap:=s.heap.push { cls:=.type "dict",data:=.dict #[] } }:J5).heap.objs.size=s.z+1 from Kz ..];refine J0 ?_;rw[List.forIn_nil];exact J9 (J9 h)
def kP(scope:L9)(C:pd)(env:Env):Env:=
 { scope:=relabel scope env,locals:=C,globals:=env.globals,cells:=KZ (C+1) scope.names (eM scope.names env),qual:=env.qual,func:=MB,code:=env.code,frame:=env.frame,builtins:=env.builtins }
def NN(X:Cx)(xs:rq)(js:q7)(scope:L9)(C:pd)(s:J5)(H:Hp)(fp:rp):Cx where
 prog:=X.prog
 w:=X.w
 K:=X.K
 mg:=X.mg
 base:=X.base
 A:=X.A
 N:=cN X xs js
 s₀:=s
 H₀:=H
 env:=kP scope C X.env
 outer:=X.stack
 stack:=X.stack
 ex:=fp
 fn:=λy=>xs.contains y
 calm:=X.calm
 pn:=[]
 xe:=λ_ _=>False
structure NC(X:Cx)(xs:rq)(js:q7)(scope:L9):Prop where
 kind:scope.kind=.function
 cell:∀y∈scope.names,y.2=.cell->y.1∈xs
 free':∀y∈scope.names,y.2=.free->y.1∉xs
 names:∀y∈scope.names,y.2=.local->scope.names.lookup y.1=MA .local
 own:∀x∈xs,scope.names.lookup x=MA .local\/scope.names.lookup x=MA .cell
 out:∀y∈scope.names,y.2=.free->X.env.kindOf y.1=MA .cell\/X.env.kindOf y.1=MA .free
 nd:(cN X xs js).Nodup
 js:∀j∈js,scope.names.lookup ((X.N[j]?).getD ("":Str))≠MA .local
section
variable{X:Cx}{xs:rq}{js:q7}{scope:L9}{MP:p4}{σ:L2.St}{H:Hp}{s:J5}{fp:rp}
theorem NC.cells(c:NC X xs js scope)(ok:X.Ok):∀y∈scope.names,y.2=.free->∃a,X.env.cells.lookup y.1=MA a:=λy b d=>ok.has _ (c.out y b d)
theorem NC.zZ(c:NC X xs js scope)(ok:X.Ok):closureFor scope X.env=pure (eM scope.names X.env):=mG (c.cells ok)
theorem NC.kindOf(c:NC X xs js scope)(ok:X.Ok){C:pd}{y:Str}{k:Lu}(e:(kP scope C X.env).kindOf y=MA k):scope.names.lookup y=MA k\/(k=.cell/\scope.names.lookup y=MA .free):=gC ok.kind e
def mw(c:NC X xs js scope)(I:Inv X MP σ H s)(E:∀b∈fp,cB X MP H b)(w:∀b∈fp,b<s.z){h':pq}(O:h'=pushCells (s.heap.push { cls:=.type "dict",data:=.dict #[] }) scope.names)(k:∀b o,s.heap.get? b=MA o->h'.get? b=MA o) :
 Inv (NN X xs js scope s.z s H fp) [] (cσ (JJ xs.length MB) js σ) H { s with heap:=h' }:=by
 let ok:=I.ok
 let U:h'.Ns s.z λ_=>MB:=by rw[O];exact(Heap.Ns.new s.heap (.type "dict")).keeps (pushCells_keeps _ _)
 let f:CellsOk h' (s.z+1) (KZ (s.z+1) scope.names []):=by
  have:=cellsFrom_ok scope.names (s.heap.push { cls:=.type "dict",data:=.dict #[] }) (s.z+1) [] #[λ_ _ x=>(nomatch x),List.Pairwise.nil] (by rw[Kz];exact Je _)
  rw[Kz]at this
  rw[O];exact this
 let cl:∀{y:Str}{a:pd},(eM scope.names X.env).lookup y=MA a->X.env.cells.lookup y=MA a:=λe=>pX (c.cells ok) e
 let A:∀{y:Str}{a:pd},X.env.cells.lookup y=MA a->a<s.z:=λe=>by let[v,z]:=I.cell _ _ e;exact z.lt
 let d:∀{y:Str}{a:pd},(kP scope s.z X.env).cells.lookup y=MA a->((y,a)∈KZ (s.z+1) scope.names []/\s.z<a)\/X.env.cells.lookup y=MA a:=λ{y a} e=>by
  let e:(KZ (s.z+1) scope.names (eM scope.names X.env)).lookup y=MA a:=e
  rw[cM]at e
  rcases ql e with z|⟨_,z⟩
  .exact .inl #[JQ z,(f.empty _ _ (JQ z)).2]
  .exact .inr (cl z)
 let free:∀{y:Str},(kP scope s.z X.env).kindOf y=MA .cell\/(kP scope s.z X.env).kindOf y=MA .free->scope.names.lookup y=MA .cell\/scope.names.lookup y=MA .free:=λ{y} e=>by
  rcases e with e|e
  .rcases c.kindOf ok e with z|⟨_,z⟩
   .exact .inl z
   .exact .inr z
  .rcases c.kindOf ok e with z|⟨z,_⟩
   .exact .inr z
   .cases z
 refine #[#[ok.mod,c.kind,ok.glob,ok.blt,Je _,λy z a h1 h2=>?_,λy G=>?_,λy a h e=>?_,ok.hd,ok.frames,.inl rfl,λb g=>#[JF (w b g),λy a e=>?_],
  I.bs,JT ok.bsz I.sz,λb o e g=>?_,λb g=>?_,I.stack,I.uU],5,I.bare,Un.kept k,?_,λy a e=>?_,I.hok.fresh (Je _),λy a e=>?_,λp W=>absurd (show p∈([]:p4)from W) (_),I.hok.kept k,?_]
 .rcases d h1 with⟨Y,l1⟩|P<;>rcases d h2 with⟨Z,l2⟩|Q
  .exact name_of_addr f.apart Y Z
  .exact absurd (A Q) (Nat.not_lt.mpr (LF l1))
  .exact absurd (A P) (Nat.not_lt.mpr (LF l2))
  .exact ok.inj y z a P Q
 .show ∃c,(KZ (s.z+1) scope.names (eM scope.names X.env)).lookup y=MA c
  rw[cM,List.lookup_append]
  rcases free G with z|z
  .obtain⟨a,e⟩:=lI (n:=s.z+1) z
   exact #[a,by rw[e];rfl]
  .obtain⟨a,e⟩:=pS (env:=X.env) (JQ z)
   cases q:(KZ (s.z+1) scope.names []).lookup y with
   |none=>exact #[a,by rw[e];rfl]
   |some F=>exact #[F,rfl]
 .have hx:y∈xs:=by simpa[NN]using h
  let e:(KZ (s.z+1) scope.names (eM scope.names X.env)).lookup y=MA a:=e
  rw[cM]at e
  rcases ql e with z|⟨_,z⟩
  .exact LF (f.empty _ _ (JQ z)).2
  .exact absurd hx (c.free' _ (yo z) rfl)
 .rcases d e with⟨_,l⟩|o
  .exact Nat.ne_of_gt (Nat.lt_trans (w b g) l)
  .exact(E b g).2.2.2.2.1 y a o
 .rcases(E b g).2.2.2.1 with z|z
  .exact ok.noex b o e z
  .exact absurd (JD (JD (Jm e) ok.bsz) z) (LX _)
 .intro z
  rcases JM.mp (I.pR b z)with y|y
  .exact(E b g).2.1 y
  .exact(E b g).2.2.1 y
 .refine #[_,U,λi y v h1 h2 h3=>?_]
  let h1:(xs++js.map λj=>(X.N[j]?).getD ("":Str))[i]?=MA y:=h1
  let h2:(JJ xs.length (MB:Option V)++js.map λj=>(σ[j]?).join)[i]?=MA (MA v):=h2
  by_cases R:i<xs.length
  .rw[JW ‹R›,List.getElem?_replicate,MF R]at h2
   cases h2
  .have t:y∉xs:=λG=>by
    rw[JR ()]at h1
    let nd:=c.nd
    unfold cN at nd
    exact(List.nodup_append.mp nd).2.2 y G y (Jg h1) rfl
   rw[JR ()]at h1
   rw[JR (by simp;omega)]at h2
   rw[List.length_replicate]at h2
   rw[Jf]at h1 h2
   cases J:js[i-xs.length]? with
   |none=>rw[J]at h1;cases h1
   |some j=>
    rw[J]at h1 h2
    let e1:(X.N[j]?).getD ("":Str)=y:=Option.some.inj h1
    let e2:(σ[j]?).join=MA v:=Option.some.inj h2
    let e3:σ[j]?=MA (MA v):=by
     cases q:σ[j]? with
     |none=>rw[q]at e2;cases e2
     |some o=>rw[q]at e2;exact congrArg MA e2
    let hj:j<X.N.length:=by rw[<-I.len];exact(J8.mp e3).1
    let e4:X.N[j]?=MA y:=by
     rw[J7 hj]at e1 ⊢
     exact congrArg MA e1
    let nl:scope.names.lookup y≠MA .local:=by
     have:=c.js j (Jg J)
     rw[e1]at this
     exact this
    let S:(kP scope s.z X.env).kindOf y=MA .cell\/(kP scope s.z X.env).kindOf y=MA .free:=by
     rcases h3 with z|z|z
     .rcases c.kindOf (C:=s.z) ok z with q|⟨q,_⟩
      .exact absurd q nl
      .cases q
     .exact .inl z
     .exact .inr z
    let x:(y,LI)∈scope.names:=by
     rcases free S with z|z
     .exact absurd (c.cell _ (JQ z) rfl) t
     .exact JQ z
    let[a,T]:=pS (env:=X.env) x
    let K:(kP scope s.z X.env).cells.lookup y=MA a:=by
     show(KZ (s.z+1) scope.names (eM scope.names X.env)).lookup y=MA a
     rw[cM,List.lookup_append]
     cases q:(KZ (s.z+1) scope.names []).lookup y with
     |none=>rw[T];rfl
     |some F=>exact absurd (c.cell _ (jE _ _ (JQ q)) rfl) t
    let B:Xh X.env.scope y:=by
     rcases c.out _ x rfl with z|z
     .exact .inr (.inl z)
     .exact .inr (.inr z)
    let[m,_,hl]:=I.loc
    let[u,r,l]:=hl j y v e4 e3 B
    exists u,r
    rcases l with⟨z,_⟩|⟨_,F,L,o,M,hd⟩
    .rcases c.out _ x rfl with q|q
     .have D:X.env.kindOf y=MA .local:=z
      rw[q]at D;cases D
     .have D:X.env.kindOf y=MA .local:=z
      rw[q]at D;cases D
    .refine .inr #[S,F,?_,o,k _ _ M,hd]
     have:=cl T
     rw[L]at this
     cases this
     exact K
 .rcases d e with⟨m,_⟩|o
  .exact #[_,(f.empty _ _ m).1]
  .obtain⟨v,o,M,hd⟩:=I.cell y a o
   exact #[v,o,k _ _ M,hd]
 .rcases d e with⟨_,l⟩|o
  .exact I.hok.fresh (LF l)
  .exact I.freeC y a o
 .show(cσ (JJ xs.length MB) js σ).length=(cN X xs js).length
  unfold cσ cN
  simp
end
def R9(X:Cx)(a:ro)(t:TT):Prop:=∀(MP:p4)(s:J5)(σ:L2.St)(H:Hp)(Q:Bool->Hp->Prop),Inv X MP σ H s->t σ H Q->
 Jj (Jn X.prog X.w) X.A (forIn a MC λc r=>if r=MC then do let ok <-isTrue c X.env (eval c X.env);pure (LD ok)else pure (LD r)) (TP X MP σ Q) X.xe s
theorem A9{X:Cx}:R9 X [] (λ_ H Q=>Q MC H):=λMP s σ H Q I q=>wpAny_tests_nil #[H,I,q]
theorem BE{X:Cx}{c:pv}{t:TT}(h:PT X c t):R9 X [c] t:=λMP s σ H Q I q=>wpAny_tests_one (h MP s σ H Q I q)
def vP{prog:Ju}{w:JV}{A:JP}{R:Result->J5->Prop}{s:J5}{d a b:pv}{f:ro}{scope:L9}{pos:Pos}{it g:J3}{env:Env}(J:Nat->J5->Prop)
 (step:∀n s,J n s->Jj (Jn prog w) A (pyNext it) (λr j=>match r with
  |none=>R (.ok .next) j
  |some v=>Jj (Jn prog w) A (Lk a it v) (λ_ l=>Jj (Jn prog w) A (Me a env v) (λ_ o=>
   Jj (Jn prog w) A (forIn f MC λc r=>if r=MC then do let ok <-isTrue c env (eval c env);pure (LD ok)else pure (LD r)) (λok k=>
    if ok=MC then Jj (Jn prog w) A (eval d env) (λx p=>Jj (Jn prog w) A (call (.builtin "list.append") [g,x]) (λ_ q=>∃m,m<n/\J m q) Nn p) Nn k
    else ∃m,m<n/\J m k) Nn o) Nn l) Nn j) Nn s)
 (n:Nat) (h:J n s):Lh (Jn prog w) A (.compLoop (.ListComp d [#[a,b,f,0]] scope pos) 0 it g env) R s:=by
 let i:∀{E:J3->J5->Prop} e t,Nn e t->E e t:=λ_ _ z=>z.elim
 refine codeAny_loop rfl J (λn s y=>?_) n h
 show Jj _ _ (Sem.onRaise (compTurn (.ListComp d [#[a,b,f,0]] scope pos) 0 it g env) (λx=>do noteFrame x env;theTreesLotGoes x)) _ _ s
 refine wpAny_noted ?_
 rw[compTurn_list]
 refine J0 (L0 (J0 (Jp (step n s y) (λr j h1=>?_) i)))
 cases r with
 |none=>exact J9 h1
 |some v=>
  refine J0 (Jp h1 (λ_ l h2=>J0 (Jp h2 (λ_ o B=>J0 (Jp B (λok k u=>?_) i)) i)) i)
  cases ok with
  |false=>exact J9 #[5,u]
  |true=>exact J0 (J0 (Jp u (λx p C=>J0 (Jp C (λ_ q D=>J9 (J9 #[5,D])) i)) i))
abbrev Own:=V->Hp->L2.St->Prop
structure OR(n:Nat)(g:TG)(own:Own):Prop where
 len:∀y H os,own y H os->os.length=n
 run:∀y H os0 tail os (Q:L2.St->Hp->Prop),os0.length=n->own y H os->Q (os++tail) H->g y (os0++tail) H Q
def CO(js:q7)(own:Own)(tc:TT)(te:TE)(σ:L2.St)(J:It)(H1:Hp)(Q:VK):Prop:=∀D,H1 D=MB->∃W:Nat->Nat->Hp->Prop,(∃m,W 0 m (upd H1 D (.lst [])))/\∀i m H,W i m H->
 (J.stop i H/\Q (.ref D) H)\/(J.go i H/\∀y c,J.yld i H y c->∃os,own y c os/\tc (cσ os js σ) c λb d=>if b=MC then
  te (cσ os js σ) d λv e=>∃xs,e D=MA (.lst xs)/\xs.length<Jo/\∃a,a<m/\W (i+1) a (upd e D (.lst (xs++[v])))else ∃a,a<m/\W (i+1) a d)
def oU(js:q7)(own:Own)(a:TI)(tc:TT)(te:TE):TE:=λσ H Q=>a σ H λJ H1=>CO js own tc te σ J H1 Q
section
variable{X:Cx}{xs:rq}{tg:pv}{pos:Pos}{js:q7}{scope:L9}{elt iter:pv}{ifs:ro}{te:TE}{tc:TT}{g:TG}{own:Own}{wi:TI}{MP:p4}{σ:L2.St}{H:Hp}{s:J5}{fp:rp}{it:pd}{tn:Nat->pq->Prop}{J:It}
def pY(c:NC X xs js scope)(hc:X.calm=MC)(hG:OR xs.length g own)(hg:∀C s H fp,PG (NN X xs js scope C s H fp) tg g)(ht:∀C s H fp,R9 (NN X xs js scope C s H fp) ifs tc)(he:∀C s H fp,PE (NN X xs js scope C s H fp) elt te)
 {R:J3->pd->Result->J5->Prop} {E:J3->J5->Prop} {Q:VK}
 (I:Inv X MP σ H s) (T:Turn X.prog X.w X.K tg J fp it tn) (st:tn 0 s.heap) (hf:∀b∈fp,cB X MP H b) (wc:CO js own tc te σ J H Q)
 (hR:∀D C f F,Inv X MP σ f F->cB X MP f C->(∃m,F.heap.Ns C m)->Q (.ref D) f->R (.ref D) C (.ok .next) F) :
 Jj (Jn X.prog X.w) X.A (newList []) (λd0 e0=>Jj (Jn X.prog X.w) X.A (Mh scope X.env.globals (eM scope.names X.env) [] X.env.qual MB .none (MA X.env)) (λN f0=>
  Lh (Jn X.prog X.w) X.A (.compStart (.ListComp elt [#[tg,iter,ifs,0]] scope pos) 0 (.ref it) d0 { N with scope:=relabel scope X.env }) (R d0 N.locals) f0) E e0) E s:=by
 let g0:∀b∈fp,b<s.z:=λb a=>let⟨o,e,_⟩:=T.obj 0 _ st b a;Jm e
 let hD:H s.z=MB:=I.hok.fresh (Je _)
 refine K9 (oX ?_)
 generalize hh:s.heap.push { cls:=.type "list",dict:=MB,data:=.seq ([]:List J3).toArray }=h
 generalize h0:pushCells (({ s with heap:=h }:J5).heap.push { cls:=.type "dict",data:=.dict #[] }) scope.names=j
 let k3:∀b o,s.heap.get? b=MA o->h.get? b=MA o:=λb o e=>by rw[<-hh];exact J6 _ e
 let I3:Inv X MP σ (upd H s.z (.lst [])) { s with heap:=h }:=by
  refine I.laid (t':=s.toks) k3 (Je _) ?_
  exists K3 _,[],0,.nil
  rw[<-hh]
  exact Jh _ rfl
 let k:∀b∈fp,cB X MP (upd H s.z (.lst [])) b:=λb a=>#[by rw[aE (JF (g0 b a))];exact(hf b a).1,(hf b a).2]
 let s0:h.objs.size=s.z+1:=by rw[<-hh,Kz]
 let i0:∀b∈fp,b<h.objs.size:=λb a=>by rw[s0];exact KJ (g0 b a)
 let k4:∀b o,h.get? b=MA o->j.get? b=MA o:=λb o e=>by rw[<-h0];exact pushCells_keeps _ _ b o (J6 _ e)
 let I4:=mw c I3 k i0 (h':=j) h0.symm k4
 obtain⟨W,⟨m0,w0⟩,k0⟩:=wc _ hD
 let Pn:tn 0 j:=T.keep 0 _ _ st λb a o e=>k4 b o (k3 b o e)
 generalize hX:NN X xs js scope h.objs.size { s with heap:=h } (upd H s.z (.lst [])) fp=X' at I4
 let S:∀{pins':p4}{f:Hp}{G:L2.St}{F:J5},Inv X' [] G f F->(∀b∈fp,f b=MB)->∀b∈fp,cB X' [] f b:=λ{pins' f G F} J' hn b a=>by
  subst hX
  let[a1,a2]:=J'.ok.exf b a
  exact #[hn b a,a1,J'.ok.exfs b a,.inl a,a2,λp hp=>absurd (show p∈([]:p4)from hp) (_)]
 let O:Lh (Jn X.prog X.w) X.A (.compLoop (.ListComp elt [#[tg,iter,ifs,0]] scope pos) 0 (.ref it) (.ref s.z) (kP scope h.objs.size X.env)) (R (.ref s.z) h.objs.size)
  { s with heap:=j }:=by
  refine vP (λn F=>∃i os f,os.length=xs.length/\Inv X' [] (cσ os js σ) f F/\tn i F.heap/\(∀b∈fp,f b=MB)/\W i n f) ?_ m0 #[0,_,_,by simp,I4,Pn,λb a=>(k b a).1,w0]
  rintro n s5 ⟨i,os,H5,t0,I5,Ot,n0,w5⟩
  rcases k0 i n H5 w5 with⟨stop,q⟩|⟨go,step⟩
  .subst hX
   refine Jp (T.done (NN X xs js scope h.objs.size { s with heap:=h } (upd H s.z (.lst [])) fp) rfl rfl rfl hc i [] s5 _ H5 Nn I5 (S (pins':=[]) I5 n0) Ot stop) (λr s6 U=>?_) λ_ _ z=>z
   let[hr,I6]:=U
   subst hr
   refine hR _ _ H5 s6 (I3.yP I6.os I6.base I6.hok I6.bare λb a=>#[(k b a).2.2.2.1,(k b a).2.1,(k b a).2.2.2.2.1,(k b a).2.2.2.2.2]) (I3.oV (Je _) I6.free) (let⟨m,hm,_⟩:=I6.loc;#[m,hm]) q
  .subst hX
   refine Jp (T.item (NN X xs js scope h.objs.size { s with heap:=h } (upd H s.z (.lst [])) fp) rfl rfl rfl hc i [] s5 _ H5 Nn I5 (S (pins':=[]) I5 n0) Ot go) (λr s6 V=>?_) λ_ _ z=>z
   let[u,hr,h6]:=V
   subst hr
   refine Jp h6 (λ_ s7 Y=>?_) λ_ _ z=>z
   let[y,H7,I7,r7,y7,O6,u0]:=Y
   let v0:=I7.pinned (S (pins':=[]) I7 u0) (T.obj _ _ O6)
   let[L,o0,q8]:=step y H7 y7
   let l8:=hG.len _ _ _ o0
   refine Jp (hg _ _ _ _ _ s7 _ H7 y u (λG f=>G=cσ L js σ/\f=H7) v0 r7 (hG.run y H7 os _ L _ t0 o0 #[5,rfl])) (λ_ s8 Z=>?_) λ_ _ z=>z
   let[e1,H8,I8,e8,x0]:=Z
   subst e8 x0
   refine Jp (ht _ _ _ _ _ s8 _ _ _ I8 q8) (λok s9 a0=>?_) λ_ _ z=>z
   let[H9,I9,q9]:=a0
   let P:∀{M:Nat}{l:Hp}{t:J5},Inv (NN X xs js scope h.objs.size { s with heap:=h } (upd H s.z (.lst [])) fp) ([]++gW fp s7.heap) (cσ L js σ) l t->M<n->W (i+1) M l->
    ∃m,m<n/\∃i os f,os.length=xs.length/\Inv (NN X xs js scope h.objs.size { s with heap:=h } (upd H s.z (.lst [])) fp) [] (cσ os js σ) f t/\tn i t.heap/\(∀b∈fp,f b=MB)/\W i m f:=λ{M l t} x B y0=>by
    refine #[M,B,i+1,L,l,l8,x.eG,T.keep _ _ _ O6 λb a o e=>(x.pin (b,o) (Jt _ (Jt _ (bH a e)))).1,λb a=>?_,y0]
    let[o',e,d]:=T.obj _ _ O6 b a
    exact(x.pin (b,o') (Jt _ (Jt _ (bH a e)))).2.1
   cases ok with
   |false=>
    rw[ME Js]at q9 ⊢
    let[M,B,w9]:=q9
    exact P I9 B w9
   |true=>
    rw[MF rfl]at q9 ⊢
    refine Jp (he _ _ _ _ _ s9 _ _ _ I9 q9) (λv t b0=>?_) λ_ _ z=>z
    let[vv,l,x,z0,ys,q0,r0,b1]:=b0
    refine Jp (jR (X:=(NN X xs js scope h.objs.size { s with heap:=h } (upd H s.z (.lst [])) fp)) _ t _ l (.ref s.z) [vv] (.ref s.z) [v] (λ_ f=>∃M,M<n/\W (i+1) M f) x rfl (.cons z0 .nil) #[_,ys,vv,5,5,q0,r0,b1]) (λ_ f1 c0=>?_) λ_ _ z=>z
    let[_,g1,c1,_,M,B,d1]:=c0
    exact P c1 B d1
 exact codeAny_compStart_list O (T.self X.A 0 _ _ _ Pn O)
def AJ(c:NC X xs js scope)(k:X.calm=MC)(l:PI X tg iter wi)(n:OR xs.length g own)(p:∀C s H fp,PG (NN X xs js scope C s H fp) tg g)(r:∀C s H fp,R9 (NN X xs js scope C s H fp) ifs tc)(t:∀C s H fp,PE (NN X xs js scope C s H fp) elt te)(u:∀x,JG iter X.env x=pure x:=by intro _;rfl) : PE X (.ListComp elt [#[tg,iter,ifs,0]] scope pos) (oU js own wi tc te):=by intro MP s σ H Q I h;rw[eval_ListComp];refine Lq (use:=MB) rfl u (c.zZ I.ok) c.kind c.names (NJ (l MP s σ H _ I h) λv L h1=>NJ h1 λy M a=>?_);let[it,fp,tn,J,N,e,z,T,st,B,w]:=a;subst e;refine pY (R:=λi C=>compPost (Jn X.prog X.w) X.A X.xe MB (EP X MP σ Q) i C) c k n p r t z T st B w λD C E F G f d q=>?_;let[m,K]:=d;exact #[m,K,λO j=>#[.ref D,E,G.turned (t':=F.toks) (λb o ne e=>j.extBut b o ne e) f.1 f.2.1 f.2.2.2.1 f.2.2.2.2.1 f.2.2.2.2.2,5,q]]
def uS{i:Nat}{y:Str}{l j:Pos}(c:NC X xs js scope)(F:X.calm=MC)(G:X.N.Nodup)(K:PI X tg iter wi)(L:OR xs.length g own)(M:∀C s H fp,PG (NN X xs js scope C s H fp) tg g)(O:∀C s H fp,R9 (NN X xs js scope C s H fp) ifs tc)(P:∀C s H fp,PE (NN X xs js scope C s H fp) elt te)(S:X.N[i]?=MA y)(E:X.env.scope.names.lookup y=MA .local)
 (p:La (.ListComp elt [#[tg,iter,ifs,0]] scope pos) (MA (.Name y l)) j.line X.env=pure MC) (U:∀x,JG iter X.env x=pure x:=by intro _;rfl) :
 PS X (.Assign [.Name y l] (.ListComp elt [#[tg,iter,ifs,0]] scope pos) j) (Bn (oU js own wi tc te) (de i)):=by
 intro MP s σ H B I h
 rw[exec_Assign_Name_used _ _ _ _ p]
 refine J0 (L0 (J0 ?_))
 show Jj _ X.A (do let _ <-comprehension (.ListComp elt [⟨tg,iter,ifs,0⟩] scope pos) scope X.env _ (newList []) MD (eval iter X.env) (MA (Me (.Name y l) X.env))) _ _ s
 refine J0 (Jp (Lq (use:=MA (Me (.Name y l) X.env)) (Q:=λ_ n=>SP X MP B .next n) rfl U (c.zZ I.ok) c.kind c.names
  (NJ (K MP s σ H _ I h) λv s1 h1=>NJ h1 λV s2 z=>?_)) (λ_ n W=>J9 (J9 W)) λ_ _ e=>e)
 let[it,fp,tn,J,H2,e,Y,T,st,Z,w]:=z
 subst e
 refine pY (R:=λr C=>compPost (Jn X.prog X.w) X.A X.xe (MA (Me (.Name y l) X.env)) (λ_ n=>SP X MP B .next n) r C) c F L M O P Y T st Z w λD C H' n I' k d q=>?_
 let[m,hm]:=d
 show Jj _ X.A (Me (.Name y l) X.env (.ref D)) _ _ _
 refine wpAny_assign_Name (j6 I' G S (.inl E) (v:=.ref D) rfl (λs9 I9 f=>?_) (.inr E))
 let[a,sb,ha]:=f
 let t:C≠a:=by
  rcases ha with z|z
  .rw[z];exact k.2.1
  .exact λe=>k.2.2.2.2.1 y a z e.symm
 refine #[m,hm.sameBut sb t,λh' u=>?_]
 exact #[_,H',I9.turned (t':=s9.toks) (λb o ne e=>u.extBut b o ne e) k.1 k.2.1 k.2.2.2.1 k.2.2.2.2.1 k.2.2.2.2.2,q]
end
inductive QD where
 |one|many (n:Nat)
def qU(K:J1):QD->Own
 |.one=>λy _ os=>os=[MA y]
 |.many n=>λy H os=>∃a xs,y=.ref a/\NW K H a xs/\xs.length=n/\os=xs.map MA
theorem sT{K:J1}:OR 1 (de 0) (qU K .one):=#[λ_ _ os h=>by rw[h];rfl,λy H b a os Q c d q=>by
 let[o,5]:=yt c
 rw[show os=[MA y]from d]at q;exact q]
theorem tQ{K:J1}:OR 2 (tO K 2 (fB (de 0) (fB (de 1) rY))) (qU K (.many 2)):=#[λ_ _ os z=>by
 let[a,xs,_,_,b,e]:=z
 rw[e];simpa using b,λy H d c os Q b z q=>by
 let[a,xs,e,f,hx,g]:=z
 let[o,h,5]:=rN b
 let[u,v,5]:=rN hx
 rw[g]at q;exact #[a,_,e,f,hx,u,7,v,7,5,q]]
def Ap:QD->D->DS->Prop
 |.one,d,os=>os=[MA d]
 |.many n,d,os=>∃a,d=.tup a/\a.length=n/\os=a.map MA
def cδ(os:DS)(js:q7)(δ:DS):DS:=os++js.map λj=>(δ[j]?).join
def jk{K:J1}{H:Hp}{δ os:DS}{σ us:L2.St}{js:q7}(c:Slots K H δ σ)(r:Slots K H os us):Slots K H (cδ os js δ) (cσ us js σ):=by
 refine #[by simp[cδ,cσ,r.len],λi e q=>?_];unfold cδ at q;unfold cσ;by_cases a:i<os.length
 .rw[JW a]at q;rw[JW (by rw[<-r.len];exact a)];exact r.at' i e q
 .rw[JR ()]at q;rw[JR (by rw[<-r.len];omega),<-r.len];rw[Jf]at q ⊢;cases b:js[i-os.length]? with
  |none=>rw[b]at q;cases q
  |some j=>
   rw[b]at q
   let e2:(δ[j]?).join=MA e:=Option.some.inj q
   let e3:δ[j]?=MA (MA e):=by
    cases z:δ[j]? with
    |none=>rw[z]at e2;cases e2
    |some o=>rw[z]at e2;exact congrArg MA e2
   let[d,e4,f]:=c.at' j e e3
   exact #[d,by rw[show(MA j).map (λj=>(σ[j]?).join)=MA ((σ[j]?).join)from rfl,e4];rfl,f]
def ig{K:J1}{H:Hp}{ds:sg}{xs:r4}(r:aD K H ds xs):Slots K H (ds.map MA) (xs.map MA):=by
 refine #[by simp[r.length],λi d e=>?_];rw[Jf]at e ⊢;cases q:ds[i]? with
 |none=>rw[q]at e;cases e
 |some a=>
  rw[q]at e;cases e
  let[x,e1,e2]:=r.get q
  exact #[x,by rw[e1];rfl,e2]
def rB{K:J1}{H:Hp}{tk:QD}{d:D}{v:V}{os:DS}(r:Rep K H d v)(h:Ap tk d os):∃us,qU K tk v H us/\Slots K H os us:=by
 cases tk with
 |one=>
  rw[show os=[MA d]from h]
  exact #[[MA v],5,ig (.cons r .nil)]
 |many n=>
  let[f,5,c,5]:=h
  rw[Rep]at r
  let[a,xs,5,e,b]:=r
  exact #[_,#[a,xs,5,e,by rw[<-b.length];exact c,rfl],ig b]
def b4:Nh:=λ_ M Q=>Q MC M
def yc(I:QL)(tk:QD)(js:q7)(tc:Nh)(te:TD)(δ:DS)(f:MH)(Q:DK):Prop:=I.n<=1000000/\∀p,f p=MB->∃W:Nat->sg->MH->Prop,W 0 [] (av f p (.lst []))/\(∀i a M,i<=I.n->W i a M->I.C M)/\
 (∀i a d M,i<I.n->I.item i=MA d->W i a M->∃os,Ap tk d os/\tc (cδ os js δ) M λb g=>if b=MC then te (cδ os js δ) g λe h=>∃c,Sub c h/\c p=MA (.lst a)/\W (i+1) (a++[e]) (av c p (.lst (a++[e])))else ∃c,Sub c g/\W (i+1) a c)/\∀a M,W I.n a M->Q (.ref p) M
def iN(a:OL)(tk:QD)(js:q7)(tc:Nh)(te:TD):TD:=λδ M Q=>a δ M λI b=>yc I tk js tc te δ b Q
section
variable{X:Cx}{K:J1}
def nB{C:OL}{tk:QD}{js:q7}{tc:Nh}{te:TD}{σ:L2.St}{H:Hp}{Q:VK}(h:lift K (iN C tk js tc te) σ H Q):oU js (qU K tk) (kg K C) (liftT K tc) (lift K te) σ H Q:=by
 let[δ,M,R,D,P,q,t]:=h;refine #[δ,M,_,D,P,q,λI M1 H1 J g1 E w x p y=>?_];let[S,w]:=w;let[W,T,hC,l,done]:=w p (E.fresh y);refine #[λi m j=>m=I.n-i/\i<=I.n/\ND K H1 j/\∃c M,c.length<=i/\NM K j M/\W i c M,#[I.n,by simp,K3 _,.new y,[],_,Je _,E.j4 y .nil,T],?_];rintro i m j ⟨rfl,z,f,c,k,U,r,o⟩;by_cases a:i<I.n
 .refine .inr #[x.go i j k a f r (hC _ _ _ z o),λv V Y=>?_];let[A,Z,d,ed,rd]:=x.yld i j k v V a f r (hC _ _ _ z o) Y;let[os,ow,q3]:=l i c d k a ed o;let[us,uv,su]:=rB rd ow;let F:=jk (js:=js) (D.mono ((g1.trans f).trans A)) su;refine #[us,uv,cδ os js δ,k,_,F,Z,q3,λb M4 H4 B G s=>?_];cases b with
  |false=>
   rw[ME Js]at s ⊢
   let[M5,s5,w5]:=s
   exact #[I.n-(i+1),(),5,a,(f.trans A).trans B,c,M5,(),G.sub s5,w5]
  |true=>
   rw[MF rfl]at s ⊢
   refine #[cδ os js δ,M4,_,F.mono B,G,s,λe M' u H5 g5 r5 L g=>?_]
   let[M6,N,e6,w6]:=g
   let[zs,hx,O]:=(L.sub N) _ _ e6
   refine #[zs,hx,?_,I.n-(i+1),(),5,a,(((f.trans A).trans B).trans g5).trans (.lst hx),c++[e],_,by simp;omega,(L.sub N).vg hx (O.append (.cons r5 .nil)),w6]
   rw[<-O.length]
   exact Nat.lt_of_le_of_lt U (JD a (JT S ⋯))
 .obtain rfl:i=I.n:=()
  exact .inl #[x.stop j k f r (hC _ _ _ z o),t _ _ _ _ (g1.trans f) (by rw[Rep]) r (done c k o)]
variable{xs:rq}{tg:pv}{pos:Pos}{js:q7}{scope:L9}{elt iter:pv}{ifs:ro}{te:TD}{tc:Nh}{g:TG}{tk:QD}{wd:OL}
namespace Zq
@[scoped irreducible]def _root_.SD.DTs(X:Cx)(ifs:ro)(t:Nh):Prop:=R9 X ifs (liftT X.K t)
end Zq
theorem aY:DTs X [] b4:=λMP s σ H Q I a=>by let[δ,M,R,d,c,q,b]:=a;exact(A9 MP s σ H Q I (b _ _ _ .refl c q))
theorem ip{c:pv}{t:Nh}(h:DT X c t):DTs X [c] t:=BE h
theorem uj(c:NC X xs js scope)(a:X.calm=MC)(b:DI X tg iter wd)(d:OR xs.length g (qU X.K tk))(e:∀C s H fp,PG (NN X xs js scope C s H fp) tg g)(f:∀C s H fp,DTs (NN X xs js scope C s H fp) ifs tc)(i:∀C s H fp,DE (NN X xs js scope C s H fp) elt te) (j:∀x,JG iter X.env x=pure x:=by intro _;rfl):DE X (.ListComp elt [#[tg,iter,ifs,0]] scope pos) (iN wd tk js tc te):=aX (AJ (te:=lift X.K te) (tc:=liftT X.K tc) c a b d e f i j) λ_ _ _ h=>nB h
theorem uN(i:Nat){y:Str}{j b:Pos}(k:X.N.Nodup)(c:NC X xs js scope)(l:X.calm=MC)(m:DI X tg iter wd)(n:OR xs.length g (qU X.K tk))(o:∀C s H fp,PG (NN X xs js scope C s H fp) tg g)(p:∀C s H fp,DTs (NN X xs js scope C s H fp) ifs tc)(r:∀C s H fp,DE (NN X xs js scope C s H fp) elt te) (t:X.N[i]?=MA y:=by rfl) (u:X.env.scope.names.lookup y=MA .local:=by rfl) (h:La (.ListComp elt [#[tg,iter,ifs,0]] scope pos) (MA (.Name y j)) b.line X.env=pure MC:=by rfl) (f:∀x,JG iter X.env x=pure x:=by intro _;rfl) : DSt X (.Assign [.Name y j] (.ListComp elt [#[tg,iter,ifs,0]] scope pos) b) (c7 (iN wd tk js tc te) (aU i)):=cn (uS (te:=lift X.K te) (tc:=liftT X.K tc) c l k m n o p r t u h f) λE σ H e=>by let[δ,M,f,a,B,ok,q]:=e;exact(nB #[δ,M,_,f,a,q,λd D v H1 g1 w z A=>ok.nx _ _ _ _ g1 ((f.mono g1).set w i) z A])
def comp_map{I:QL}{tk:QD}{js:q7}{te:TD}{δ:DS}{b:MH}{Q:DK}(f:Nat->D)(j:I.n<=1000000)(hC:∀p a,b p=MB->I.C (av b p (.lst a))) (h:∀i d M,i<I.n->I.item i=MA d->Sub b M->∃os,Ap tk d os/\∀K:DK,(∀c,Sub M c->K (f i) c)->te (cδ os js δ) M K) (l:∀p,b p=MB->Q (.ref p) (av b p (.lst ((Jq I.n).map f)))):yc I tk js b4 te δ b Q:=by
 refine #[j,λp e=>#[λi a M=>a=(Jq i).map f/\M=av b p (.lst a),#[5,rfl],?_,?_,?_]]
 .rintro i a M _ ⟨_,rfl⟩;exact hC p a e
 .rintro i a d M m hd ⟨rfl,rfl⟩;let[os,o,k]:=h i d _ m hd (.new e .refl);exists os,o;unfold b4;refine ju (k _ ?_);exact λc q=>#[_,q,ag,by rw[LQ,JE];rfl,by rw[bE]]
 .rintro a M ⟨rfl,rfl⟩;exact l p e
end
def GH(X:Cx)(xs:rq)(js:q7)(scope:L9):Bool:=
 scope.kind==.function&&scope.names.all (λy=>(y.2 != .cell||xs.contains y.1)&&(y.2 != .free||!xs.contains y.1))&&scope.names.all (λy=>y.2 != .local||scope.names.lookup y.1==MA .local)&&xs.all (λx=>scope.names.lookup x==MA .local||scope.names.lookup x==MA .cell) &&
  scope.names.all (λy=>y.2 != .free||(X.env.kindOf y.1==MA .cell||X.env.kindOf y.1==MA .free))&&decide (cN X xs js).Nodup&&js.all (λj=>scope.names.lookup ((X.N[j]?).getD ("":Str)) != MA .local)
def NC.of{X:Cx}{xs:rq}{js:q7}{scope:L9}(h:GH X xs js scope=MC):NC X xs js scope:=by
 unfold GH at h;simp only[Kp]at h;obtain⟨⟨⟨⟨⟨⟨h1,h2⟩,c⟩,d⟩,e⟩,f⟩,g⟩:=h;refine #[‹h1›,λy a i=>?_,λy a b=>?_,λy a k=>?_,λx hx=>?_,λy a b=>?_,MJ f,λj l=>?_]
 .have:=List.all_eq_true.mp h2 y a;rw[i]at this;simpa using this
 .have:=List.all_eq_true.mp h2 y a;rw[b]at this;simpa using this
 .have:=List.all_eq_true.mp c y a;rw[k]at this;simpa using this
 .have:=List.all_eq_true.mp d x hx;simpa using this
 .have:=List.all_eq_true.mp e y a;rw[b]at this;simpa using this
 .have:=List.all_eq_true.mp g j l;simpa using this
abbrev Xj:=DS->MH->(rf->MH->Prop)->Prop
def uo(K:J1)(t:Xj):TO:=λσ H Q=>∃δ M R,Slots K H δ σ/\NM K H M/\t δ M R/\∀o b a,ND K H a->NM K a b->R o b->Q o a
def zC:Xj:=λ_ M Q=>Q MB M
def Eb(t:TD):Xj:=λδ M Q=>t δ M λx a=>∃i,x=.int i/\Q (MA i) a
def cutD(xs:sg)(a b:rf):sg:=(xs.drop (HT.sIx xs.length 0 a)).take (HT.sIx xs.length xs.length b-HT.sIx xs.length 0 a)
def FA:D->rf->rf->MH->DK->Prop:=λx c d M Q=>match x with
 |.ref a=>∃b,M a=MA (.lst b)/\∀p,M p=MB->Q (.ref p) (av M p (.lst (cutD b c d)))
 |.rol b=>∀p,M p=MB->Q (.ref p) (av M p (.lst (cutD b c d)))
 |.tup b=>¬(HT.sIx b.length 0 c=0/\HT.sIx b.length b.length d=b.length)/\Q (.tup (cutD b c d)) M
 |_=>False
def IM(te:TD)(a b:Xj):TD:=λδ M Q=>te δ M λx c=>a δ c λl d=>b δ d λu e=>FA x l u e Q
def aD.cut{K:J1}{H:Hp}{ds:sg}{xs:r4}(h:aD K H ds xs)(a b:rf):aD K H (cutD ds a b) (qA xs a b):=by unfold cutD qA;rw[h.length];exact(h.drop _).take _
section
variable{X:Cx}{e a:pv}{te:TD}{tl th:Xj}{lo hi:Option pv}{pos p2:Pos}
theorem zX{e:Option pv}{t t':TO}(h:PO X e t)(k:∀σ H Q,t' σ H Q->t σ H Q):PO X e t':=λMP s σ H Q I q=>h MP s σ H Q I (k _ _ _ q)
theorem AQ:PO X MB (uo X.K zC):=zX A7 λσ H Q b=>by let[δ,M,R,d,a,q,c]:=b;exact(c _ _ _ .refl a q)
theorem BD(h:DE X e te):PO X (MA e) (uo X.K (Eb te)):=zX (Ax h) λσ H Q b=>by let[δ,M,R,g,a,q,c]:=b;exact(#[δ,M,_,g,a,q,λd n v H1 g1 f j k=>by
 let[i,l,m]:=k
 subst l
 rw[Rep]at f
 exact #[i,f,c _ _ _ g1 j m]])
theorem yF(o:DE X a te)(p:PO X lo (uo X.K tl))(r:PO X hi (uo X.K th)):DE X (.Subscript a (.Slice lo hi MB p2) pos) (IM te tl th):=
 aX (zO (Bf.or ET) o p r) λσ H Q f=>by let[δ,M,R,k,a,q,g]:=f;exact(#[δ,M,_,k,a,q,λx s v H1 g1 t w y=>#[δ,s,_,k.mono g1,w,y,λl A E m B C=>#[δ,A,_,k.mono (g1.trans m),B,C,λu F I n h d=>by
  let G:=(g1.trans m).trans n
  let j:=t.mono (m.trans n)
  unfold FA at d
  split at d
  .obtain⟨J,e3,d⟩:=d
   obtain rfl:v=.ref _:=j
   let[xs,hx,i]:=h _ _ e3
   exact .inl #[_,xs,5,NX.of hx,λz c=>g _ _ _ _ (G.trans (.new c)) (by rw[Rep]) (h.j4 c (i.cut _ _)) (d z (h.fresh c))]
  .rw[Rep]at j
   let[b,xs,5,hx,i]:=j
   exact .inl #[_,xs,5,hx.sql,λz c=>g _ _ _ _ (G.trans (.new c)) (by rw[Rep]) (h.j4 c (i.cut _ _)) (d z (h.fresh c))]
  .obtain⟨D,d⟩:=d
   rw[Rep]at j
   let[b,xs,5,hx,i]:=j
   exact .inr #[_,xs,5,hx,by rw[<-i.length];exact D,λz c=>g _ _ _ _ (G.trans (.new c)) (by rw[Rep];exact #[z,7,NW.of aF,(i.cut _ _).mono (.new c)]) (h.new c) d]
  .exact d.elim]]])
end
section
variable{X:Cx}{x y z:Str}{px py pz pt pos:Pos}{kt:Nat}{js:q7}{scope:L9}{elt iter:pv}{ifs:ro}{te:TD}{tc:Nh}{wd:OL}{xs:rq}
def fg(c:NC X xs js scope)(i:Nat)(hx:xs[i]?=MA x){C:pd}{s:J5}{H:Hp}{fp:rp}:PG (NN X xs js scope C s H fp) (.Name x px) (de i):=by
 let b:i<xs.length:=(J8.mp hx).1;let a:=Jg hx
 let d:Loc (NN X xs js scope C s H fp).env.scope x:=by
  rcases c.own x a with z|z
  .exact .inl (fQ ⋯ z)
  .exact .inr (fQ ⋯ z)
 refine uz (i:=i) c.nd ?_ d (.inl (by show xs.contains x=MC;simpa using a));show(xs++js.map λj=>(X.N[j]?).getD ("":Str))[i]?=MA x;rw[JW b];exact hx
theorem pj(c:NC X [x,y] js scope)(a:X.calm=MC){C:pd}{s:J5}{H:Hp}{fp:rp}:PG (NN X [x,y] js scope C s H fp) (.Tuple [.Name x px,.Name y py] kt pt) (tO X.K 2 (fB (de 0) (fB (de 1) rY))):=ph (X:=NN X [x,y] js scope C s H fp) a (eE (fg c 0 rfl) (eE (fg c 1 rfl) lj)) rfl rfl
theorem bz(c:NC X [x] js scope)(a:X.calm=MC)(b:DI X (.Name x px) iter wd)(d:∀C s H fp,DTs (NN X [x] js scope C s H fp) ifs tc)(e:∀C s H fp,DE (NN X [x] js scope C s H fp) elt te) (f:∀x,JG iter X.env x=pure x:=by intro _;rfl):DE X (.ListComp elt [#[.Name x px,iter,ifs,0]] scope pos) (iN wd .one js tc te):=uj c a b sT (λ_ _ _ _=>fg c 0 rfl) d e f
theorem qa(c:NC X [x,y] js scope)(a:X.calm=MC)(b:DI X (.Tuple [.Name x px,.Name y py] kt pt) iter wd)(d:∀C s H fp,DTs (NN X [x,y] js scope C s H fp) ifs tc)(e:∀C s H fp,DE (NN X [x,y] js scope C s H fp) elt te) (f:∀x,JG iter X.env x=pure x:=by intro _;rfl):DE X (.ListComp elt [#[.Tuple [.Name x px,.Name y py] kt pt,iter,ifs,0]] scope pos) (iN wd (.many 2) js tc te):=uj c a b tQ (λ_ _ _ _=>pj c a) d e f
theorem d4(i:Nat){v:Str}{d a:Pos}(e:X.N.Nodup)(c:NC X [x] js scope)(f:X.calm=MC)(g:DI X (.Name x px) iter wd)(h:∀C s H fp,DTs (NN X [x] js scope C s H fp) ifs tc)(j:∀C s H fp,DE (NN X [x] js scope C s H fp) elt te) (k:X.N[i]?=MA v:=by rfl) (l:X.env.scope.names.lookup v=MA .local:=by rfl) (b:La (.ListComp elt [#[.Name x px,iter,ifs,0]] scope pos) (MA (.Name v d)) a.line X.env=pure MC:=by rfl) (m:∀x,JG iter X.env x=pure x:=by intro _;rfl) : DSt X (.Assign [.Name v d] (.ListComp elt [#[.Name x px,iter,ifs,0]] scope pos) a) (c7 (iN wd .one js tc te) (aU i)):=uN i e c f g sT (λ_ _ _ _=>fg c 0 rfl) h j k l b m
theorem zk(i:Nat){v:Str}{d a:Pos}(f:X.N.Nodup)(c:NC X [x,y] js scope)(e:X.calm=MC)(g:DI X (.Tuple [.Name x px,.Name y py] kt pt) iter wd)(h:∀C s H fp,DTs (NN X [x,y] js scope C s H fp) ifs tc)(j:∀C s H fp,DE (NN X [x,y] js scope C s H fp) elt te) (k:X.N[i]?=MA v:=by rfl) (l:X.env.scope.names.lookup v=MA .local:=by rfl) (b:La (.ListComp elt [#[.Tuple [.Name x px,.Name y py] kt pt,iter,ifs,0]] scope pos) (MA (.Name v d)) a.line X.env=pure MC:=by rfl) (m:∀x,JG iter X.env x=pure x:=by intro _;rfl) : DSt X (.Assign [.Name v d] (.ListComp elt [#[.Tuple [.Name x px,.Name y py] kt pt,iter,ifs,0]] scope pos) a) (c7 (iN wd (.many 2) js tc te) (aU i)):=uN i f c e g tQ (λ_ _ _ _=>pj c e) h j k l b m
end
section
variable{prog:Ju}{w:JV}{A:JP}{E:J3->J5->Prop}{s:J5}
def ye{N L:String}{op:CmpOp}{a b:J3}{c:Bool}{Q:J3->J5->Prop}(n:(N="max"/\L="max.loop"/\op=.Gt)\/(N="min"/\L="min.loop"/\op=.Lt))(hh:A.handled=MB)
 (O:∀(t:J5)(Y:J3->J5->Prop)(E':J3->J5->Prop),(∀x o,s.heap.get? x=MA o->t.heap.get? x=MA o)->Y (.bool c) t->Jj (Jn prog w) A.in1 (richCompare op b a) Y E' t)
 (h:∀h' tk,(∀x o,s.heap.get? x=MA o->h'.get? x=MA o)->Q (if c=MC then b else a) { s with heap:=h',toks:=tk }) :
 Jj (Jn prog w) A (call (.builtin N) [a,b]) Q E s:=by
 rcases n with⟨rfl,M,rfl⟩|⟨rfl,M,rfl⟩
 let B:(toString "max"++toString ".loop":String)=L:=by rw[M];decide
 let i:=F.plain_max_loop
 let C:=F.entry_max_loop
 refine call_function_tree F.kind_max F.plain_max F.entry_max (F.args_max2 _ _) ?_
 rotate_left
 let B:(toString "min"++toString ".loop":String)=L:=by rw[M];decide
 let i:=F.plain_min_loop
 let C:=F.entry_min_loop
 refine call_function_tree F.kind_min F.plain_min F.entry_min (F.args_min2 _ _) ?_
 all_goals
  rw[<-M]at i C
  show Jj _ A.in1 (Builtin.Builtins.bindParams _ ["key","default"] 0 #[[],[]] >>= λ_=>_) _ _ s
  refine J0 (wpAny_of_eq (a:=[MB,MB]) rfl ?_)
  show Jj _ A.in1 (newTuple [a,b] >>= λ_=>_) _ _ s
  refine J0 (K9 ?_)
  generalize e1:s.heap.push { cls:=.type "tuple",dict:=MB,data:=.seq ([a,b]:List J3).toArray }=h1
  let k1:∀x o,s.heap.get? x=MA o->h1.get? x=MA o:=λx o q=>by rw[<-e1];exact J6 _ q
  let Z:h1.IsTuple s.z (List.toArray [a,b]):=by rw[<-e1];exact #[_,Jh _ rfl,5,0,rfl]
  let z1:h1.objs.size=s.z+1:=by rw[<-e1,Kz]
  refine J0 (wpAny_pyIter_tuple (s:={ s with heap:=h1 }) Z ?_)
  refine J0 (K9 ?_)
  dsimp only
  generalize eI:h1.objs.size=I
  generalize e2:h1.push _=h2
  let k2:∀x o,h1.get? x=MA o->h2.get? x=MA o:=λx o q=>by rw[<-e2];exact J6 _ q
  let hI:h2.IsTupleIter I s.z 0:=by rw[<-e2,<-eI];exact #[_,Jh _ rfl,5,rfl]
  let z2:h2.objs.size=I+1:=by rw[<-e2,Kz,eI]
  generalize eS:h2.objs.size=S
  generalize e3:h2.push _=k
  let P:∀x o,h2.get? x=MA o->k.get? x=MA o:=λx o q=>by rw[<-e3];exact J6 _ q
  let hS:k.get? S=MA { cls:=.type "list",dict:=MB,data:=.seq #[] 0,slots:=#[] }:=by rw[<-e3,<-eS];exact Jh _ rfl
  let D:S≠I:=()
  let g:∀x o,s.heap.get? x=MA o->x≠I/\x≠S:=λx o q=>#[JF (JD (Jm q) ()),JF (JD (Jm q) ())]
  let G:k.IsTuple s.z (List.toArray [a,b]):=by
   let[o,q,r]:=Z
   exact #[o,P _ _ (k2 _ _ q),r]
  let R:k.IsTupleIter I s.z 0:=hI.at λo q=>P _ _ q
  let TI:s.z≠I:=()
  let TS:s.z≠S:=()
  let l:∀x o,s.heap.get? x=MA o->k.get? x=MA o:=λx o q=>P _ _ (k2 _ _ (k1 _ _ q))
  rw[B]
  refine J9 #[plainId_quiet i _,?_]
  let f:∀(t:J5)(v:J3)(n:Nat),t.heap.IsTupleIter I s.z 2->t.heap.IsTuple s.z (List.toArray [a,b])->t.heap.get? S=MA { cls:=.type "list",dict:=MB,data:=.seq (List.toArray [v,v]) n,slots:=#[] }->
   (∃h' tk,t={ s with heap:=h',toks:=tk }/\∀x o,s.heap.get? x=MA o->h'.get? x=MA o)->v=(if c=MC then b else a)->Lh (Jn prog w) A (.builtin L #[[.ref I,.none,.ref S],[]]) (λr s'=>match r with|.ok (.ret v)=>Q v s'|.ok _=>False|.error e=>E e s') t:=by
   rintro t v n i2 tT lS ⟨h',tk,rfl,kt⟩ ev
   refine codeAny_builtin C ?_
   rw[LU i _]
   show Jj _ A.in1 (seqItems? (.ref S) >>= λ_=>_) _ _ _
   refine J0 (Mi lS rfl ?_)
   show Jj _ A.in1 (tryCatch (pyNext (.ref I)) _ >>= λ_=>_) _ _ _
   refine J0 (wpAny_tryCatch (wpAny_pyNext_tuple_end (A:=A.in1) hh i2 tT (_) λy z=>?_))
   let T:y.get? S=MA _:=z _ _ D lS
   show Jj _ A.in1 (updateSeq S (λ_=>#[]) >>= λ_=>_) _ _ _
   refine J0 (wpAny_updateSeq T rfl (J0 (wpAny_letGo (J9 ?_))))
   show Q v _
   rw[ev]
   exact h _ _ λx o q=>(KQ _ _ (g x o q).2.symm).trans (z x o (g x o q).1 (kt x o q))
  refine codeAny_builtin C ?_
  rw[LU i _]
  show Jj _ A.in1 (seqItems? (.ref S) >>= λ_=>_) _ _ _
  refine J0 (Mi (s:={ s with heap:=k }) hS rfl ?_)
  show Jj _ A.in1 (tryCatch (pyNext (.ref I)) _ >>= λ_=>_) _ _ _
  refine J0 (wpAny_tryCatch (wpAny_pyNext_tuple_item (s:={ s with heap:=k }) R G (x:=a) (_) λy i4 z=>?_))
  let H:y.get? S=MA _:=(z.2 _ D).trans hS
  let U:y.IsTuple s.z (List.toArray [a,b]):=by
   let[o,q,r]:=G
   exact #[o,(z.2 _ TI).trans q,r]
  show Jj _ A.in1 (updateSeq S (λ_=>(List.toArray [a,a])) >>= λ_=>_) _ _ _
  refine J0 (wpAny_updateSeq H rfl ?_)
  rw[B]
  refine J9 #[plainId_quiet i _,?_]
  generalize e5:y.update S _=m
  let V:∀x,x≠S->m.get? x=y.get? x:=λx q=>by rw[<-e5];exact KQ _ _ q.symm
  let j:∃n,m.get? S=MA { cls:=.type "list",dict:=MB,data:=.seq (List.toArray [a,a]) n,slots:=#[] }:=#[_,by rw[<-e5];exact Lm _ H rfl]
  let[n5,j]:=j
  let i5:m.IsTupleIter I s.z 1:=i4.at λo q=>(V _ D.symm).trans q
  let J:m.IsTuple s.z (List.toArray [a,b]):=by
   let[o,q,r]:=U
   exact #[o,(V _ TS).trans q,r]
  let p:∀x o,s.heap.get? x=MA o->m.get? x=MA o:=λx o q=>(V _ (g x o q).2).trans ((z.2 _ (g x o q).1).trans (l x o q))
  refine codeAny_builtin C ?_
  rw[LU i _]
  show Jj _ A.in1 (seqItems? (.ref S) >>= λ_=>_) _ _ _
  refine J0 (Mi (s:={ s with heap:=m }) j rfl ?_)
  show Jj _ A.in1 (tryCatch (pyNext (.ref I)) _ >>= λ_=>_) _ _ _
  refine J0 (wpAny_tryCatch (wpAny_pyNext_tuple_item (s:={ s with heap:=m }) i5 J (x:=b) (_) λW i6 X=>?_))
  let u:W.get? S=MA _:=(X.2 _ D).trans j
  let K:W.IsTuple s.z (List.toArray [a,b]):=by
   let[o,q,r]:=J
   exact #[o,(X.2 _ TI).trans q,r]
  let d:∀x o,s.heap.get? x=MA o->W.get? x=MA o:=λx o q=>(X.2 _ (g x o q).1).trans (p x o q)
  show Jj _ A.in1 (tryCatch (holding [b,b] (richCompare _ b a >>= λ_=>_)) _ >>= λ_=>_) _ _ _
  refine J0 (wpAny_tryCatch (Kn (J0 (O _ _ _ d ?_))))
  refine J0 (Kn (KW ?_))
  refine J0 (wpAny_letGo (J9 ?_))
  cases c with
  |true=>
   simp only[if_true]at f ⊢
   refine J0 (wpAny_updateSeq u rfl (J0 (wpAny_letGo ?_)))
   rw[B]
   refine J9 #[plainId_quiet i _,f _ b _ (i6.at λo q=>(KQ _ _ D).trans q) ?_ (Lm _ u rfl) #[_,7,λx o q=>(KQ _ _ (g x o q).2.symm).trans (d x o q)] rfl]
   let[o,q,r]:=K
   exact #[o,(KQ _ _ TS.symm).trans q,r]
  |false=>
   simp only[Ka,if_false]at f ⊢
   refine J0 (wpAny_letGo ?_)
   rw[B]
   exact J9 #[plainId_quiet i _,f _ a _ i6 K u #[_,7,d] rfl]
end
end SD
namespace HT
open PySem PyProof.Rows
def lexLe:q_->q_->Bool
 |[],[]=>MC
 |[],_::_=>MC
 |_::_,[]=>MD
 |x::xs,y::ys=>if x=y then lexLe xs ys else decide (x<=y)
def cC:q_->q_->Bool
 |[],[]=>MD
 |[],_::_=>MD
 |_::_,[]=>MC
 |x::xs,y::ys=>if x=y then cC xs ys else decide (y<x)
def mI(k:Bool)(ns ms:q_):Bool:=bif k then cC ns ms else lexLe ns ms
def wU(k:Bool)(x y:Int)(xs a:q_):mI k (x::xs) (y::a)=if x=y then mI k xs a else bif k then decide (y<x)else decide (x<=y):=by cases k<;>rfl
def Bt{k:Bool}{ns ms:q_}{a b:Nat}(z:ns=[]\/ms=[])(h:ns.length+b=ms.length+a):mI k ns ms=bif k then decide (a>b)else decide (a<=b):=by
 let e:mI k ns ms=bif k then decide (ns.length>ms.length)else decide (ns.length<=ms.length):=by
  rcases z with rfl|rfl
  .cases k<;>cases ms<;>simp[mI,lexLe,cC]
  .cases k<;>cases ns<;>simp[mI,lexLe,cC]
 rw[e];cases k
 .exact decide_eq_decide.mpr ()
 .exact decide_eq_decide.mpr ()
def BH(k:Bool)(A:JP)(s:J5)(a:Int)(t:Tok)(c:Int)(u:Tok)(prog:Ju)(w:JV)(E:J3->J5->Prop)(Q:J3->J5->Prop)(h:Q (.bool (bif k then decide (c<a)else decide (a<=c))) s) : Jj (Jn prog w) A (richCompare (bif k then .Gt else .LtE) (.int a t) (.int c u)) Q E s:=by
 cases k
 .exact(PyProof.Rows.le_int h:Jj (Jn prog w) A (JY .LtE (.int a t) (.int c u)) Q E s)
 .exact(PyProof.Rows.gt_int h:Jj (Jn prog w) A (JY .Gt (.int a t) (.int c u)) Q E s)
section
open PySem.SeqAt
open PySem.AutoSeq1 (wpAny_loadPart')
open PySem.MeetsSeq PySem.MeetsSeq2 PySem.MeetsSeq3
theorem zY(k:Bool)(l b:pd)(items i:Array J3)(n n2:Nat)(U J:Option pd)(V K:Array (Option J3))(ns ms:q_)(Q:KN items.toList ns)(S:KN i.toList ms) :
 Meets ((bif k then LM.«tuple.__gt__» else LM.«tuple.__le__») #[[.ref l,.ref b],[]])
  (λ_ R s=>s.heap.get? l=MA { cls:=.type "tuple",dict:=U,data:=.seq items n,slots:=V }/\s.heap.get? b=MA { cls:=.type "tuple",dict:=J,data:=.seq i n2,slots:=K }/\
   R (.ok (.ret (.bool (mI k ns ms)))) s):=
 .of_wp λprog w A R s h=>by
  let[H,g,d,I,os]:=s;let[W,X,h]:=h
  let f2:=AutoSeq1.sub_tuple_tuple
  let z1:items.size=ns.length:=by rw[<-Q.length];simp
  let z2:i.size=ms.length:=by rw[<-S.length];simp
  let L:=wU k
  let M:=λns ms a b=>Bt (k:=k) (ns:=ns) (ms:=ms) (a:=a) (b:=b)
  let T:=λa t c u=>BH k A.in1 #[H,g,d,I,os] a t c u prog w
  generalize mI k=f at h L M
  cases k
  all_goals
   dsimp only[cond_true,cond_false]at L M T ⊢
   wp_walk using Kb W,Kb X,wpAny_forIn_list _ (λr b N=>b.1=MB/\N=#[H,g,d,I,os]/\∃(vs ws:List J3) (j m:q_),r=vs.zip ws/\
    KN vs j/\KN ws m/\j.length+i.size=m.length+items.size/\R (.ok (.ret (.bool (f j m)))) #[H,g,d,I,os]) _
   case turn=>
    rintro⟨y,x⟩ r b N ⟨B,rfl,vs,ws,j,m,p,C,D,o,v⟩
    cases C with
    |nil=>rw[List.zip_nil_left]at p;cases p
    |cons a t F=>
     cases D with
     |nil=>rw[List.zip_nil_right]at p;cases p
     |cons c u G=>
      rw[List.zip_cons_cons]at p
      injection p with O E
      injection O with Y hx
      subst Y hx
      rw[L]at v
      simp only[Jz]at o
      let[e,Z,z]:=qB A.in1 #[H,g,d,I,os] a t c u
      refine J0 (Z prog w _ _ ?_)
      cases e with
      |true=>
       rw[MF (z.mp rfl)]at v
       wp_walk
       exact #[5,5,_,_,_,_,E,F,G,(),v]
      |false=>
       rw[ME (λq=>absurd (z.mpr q) Js)]at v
       let P:=T a t c u
       wp_walk using P
       exact #[7,‹v›]
   case fin=>
    rintro⟨b1,b2⟩ N ⟨B,rfl,vs,ws,j,m,p,C,D,o,v⟩
    simp only at B
    subst B
    let hv:=M j m items.size i.size (by
     cases C with
     |nil=>exact .inl rfl
     |cons a t hv=>
      cases D with
      |nil=>exact .inr rfl
      |cons c u hw=>
       rw[List.zip_cons_cons]at p
       cases p) o
    rw[hv]at v
    wp_walk
    exact #[7,by simpa[Builtin.Tuple.tupleCompareSizes]using v]
   case h=>
    exact #[5,5,items.toList,i.toList,ns,ms,5,Q,S,(),h]
end
section
variable{prog:Ju}{w:JV}{A:JP}{E:J3->J5->Prop}{s:J5}
def iT(k:Bool){l b:pd}{items a:Array J3}{ns ms:q_}{Q:J3->J5->Prop}(r:IsTup s.heap l items)(t:IsTup s.heap b a)(u:KN items.toList ns)(v:KN a.toList ms)
 (o:A.units<Kh) (h:Q (.bool (mI k ns ms)) s):Jj (Jn prog w) A (JY (bif k then .Gt else .LtE) (.ref l) (.ref b)) Q E s:=by
 obtain⟨⟨cls,y,data,z⟩,f,p,n,hd⟩:=id r
 obtain⟨⟨q,g,i,j⟩,c,d,n2,e⟩:=id t
 simp only at p hd d e
 subst p hd d e
 let m:=zY k l b items a n n2 y g z j ns ms u v
 let h:Value.bool (mI k ns ms)≠Value.notImplemented/\Q (.bool (mI k ns ms)) s:=#[(λx=>nomatch x),h]
 cases k
 .exact richCompare_meets_room (op:=.LtE) #[_,f,rfl] #[_,c,rfl] PySem.F.slot_tuple_le PySem.F.entry_tuple_le (PySem.F.args_tuple_le_2 _ _) m #[f,c,h] o
 .exact richCompare_meets_room (op:=.Gt) #[_,f,rfl] #[_,c,rfl] PySem.F.slot_tuple_gt PySem.F.entry_tuple_gt (PySem.F.args_tuple_gt_2 _ _) m #[f,c,h] o
end
end HT
namespace SD
open PySem PySem.Spec PyProof.Rows L2
section
variable{X:Cx}
theorem dQ{K:J1}{H:Hp}:∀{ns:q_}{xs:r4},aD K H (ns.map D.int) xs->xs=ns.map V.int
 |[],xs,h=>by rw[Lp,aD]at h;exact h
 |n::ns,xs,h=>by
  rw[Ji,aD]at h
  let[x,r,5,h1,h2]:=h
  rw[Rep]at h1
  rw[h1,dQ h2];rfl
def E8(d:X.A.units<Kh):Nq X (JY .LtE) (λx y H Q=>∃a b ns ms,x=.ref a/\y=.ref b/\NW X.K H a (ns.map V.int)/\NW X.K H b (ms.map V.int)/\Q (.bl (HT.lexLe ns ms)) H):=by intro MP s σ H x y v u Q I e f h;let[a,b,ns,ms,5,5,g,i,q]:=h;cases e;cases f;let[j,k,l,_]:=I.tuple g;let[c,m,n,_]:=I.tuple i;exact HT.iT MD l n (intsAre_of k) (intsAre_of m) d #[.bl (HT.lexLe ns ms),H,I,5,q]
def Dl(d:X.A.units<Kh):Nq X (JY .Gt) (λx y H Q=>∃a b ns ms,x=.ref a/\y=.ref b/\NW X.K H a (ns.map V.int)/\NW X.K H b (ms.map V.int)/\Q (.bl (HT.cC ns ms)) H):=by intro MP s σ H x y v u Q I e f h;let[a,b,ns,ms,5,5,g,i,q]:=h;cases e;cases f;let[j,k,l,_]:=I.tuple g;let[c,m,n,_]:=I.tuple i;exact HT.iT MC l n (intsAre_of k) (intsAre_of m) d #[.bl (HT.cC ns ms),H,I,5,q]
def pW(f:Int->Int->Bool)(g:q_->q_->Bool):Nx:=λx y M Q=>match x,y with
 |.int i,.int j=>True/\Q (.bl (f i j)) M
 |.tup a,.tup b=>∃ns c,a=Le D.int ns/\b=Le D.int c/\Q (.bl (g ns c)) M
 |_,_=>False
def Ar{op:CmpOp}{f:Int->Int->Bool}{g:q_->q_->Bool}(h1:OC X (JY op) (QH (λ_ _=>True) λi j=>.bl (f i j))) (h2:Nq X (JY op) (λx y H Q=>∃a b ns ms,x=.ref a/\y=.ref b/\NW X.K H a (ns.map V.int)/\NW X.K H b (ms.map V.int)/\Q (.bl (g ns ms)) H)):OC X (JY op) (pW f g):=by
 refine iS (h1.or h2) λv u H Q c=>?_;let[x,y,M,R,e,h,a,q,d]:=c;unfold pW at q;split at q
 .exact .inl #[_,_,M,R,e,h,a,q,d]
 .obtain⟨ns,ms,rfl,rfl,q⟩:=q;rw[Rep]at e;let[p,xs,5,hx,l]:=e;obtain⟨m,o,rfl,k,n⟩:∃a xs,u=V.ref a/\NW X.K H a xs/\aD X.K H (Le D.int ms) xs:=by rw[Rep]at h;exact h
  rw[dQ l]at hx;rw[dQ n]at k;exact .inr #[p,m,ns,ms,5,5,hx,k,d _ _ _ _ .refl (by rw[Rep]) a q]
 .exact q.elim
theorem cS(a:X.A.units+64<Kh):OC X (JY .Lt) (pW (λi j=>decide (i<j)) HT.lexLt):=Ar GV (E4 ())
theorem pC(a:X.A.units+64<Kh):OC X (JY .LtE) (pW (λi j=>decide (i<=j)) HT.lexLe):=Ar G0 (E8 ())
theorem gV(a:X.A.units+64<Kh):OC X (JY .Gt) (pW (λi j=>decide (j<i)) HT.cC):=Ar Gj (Dl ())
def wB(d:X.calm=MC)(E:X.A.units+64<Kh):bS X (.builtin "max") (λxs H Q=>∃p q ns ms,xs=[.ref p,.ref q]/\NW X.K H p (ns.map V.int)/\NW X.K H q (ms.map V.int)/\Q (if HT.cC ms ns=MC then .ref q else .ref p) H):=by
 intro MP s σ H xs us Q I r f;let[p,q,ns,ms,e,g,h,k]:=f;subst e;let[u,v,5,i,j]:=vals2 r;cases i;cases j;let[l,m,n,_]:=I.tuple g;let[b,o,w,_]:=I.tuple h;refine ye (.inl #[5,5,rfl]) (c:=HT.cC ms ns) (I.ok.hd d) (λt F G a x=>?_) λJ L a=>#[_,H,I.kept a,?_,k]
 .obtain⟨y,z,b1⟩:=n;let[B,C,D]:=w;exact HT.iT MC (A:=X.A.in1) (s:=t) #[B,a _ _ C,D] #[y,a _ _ z,b1] (intsAre_of o) (intsAre_of m) (by show X.A.units+1<Kh;omega) x
 .cases HT.cC ms ns<;>rfl
def wA(d:X.calm=MC)(E:X.A.units+64<Kh):bS X (.builtin "min") (λxs H Q=>∃p q ns ms,xs=[.ref p,.ref q]/\NW X.K H p (ns.map V.int)/\NW X.K H q (ms.map V.int)/\Q (if HT.lexLt ms ns=MC then .ref q else .ref p) H):=by
 intro MP s σ H xs us Q I r f;let[p,q,ns,ms,e,g,h,k]:=f;subst e;let[u,v,5,i,j]:=vals2 r;cases i;cases j;let[l,m,n,_]:=I.tuple g;let[b,o,w,_]:=I.tuple h;refine ye (.inr #[5,5,rfl]) (c:=HT.lexLt ms ns) (I.ok.hd d) (λt F G a x=>?_) λJ L a=>#[_,H,I.kept a,?_,k]
 .obtain⟨y,z,b1⟩:=n;let[B,C,D]:=w;exact HT.mf (A:=X.A.in1) (s:=t) #[B,a _ _ C,D] #[y,a _ _ z,b1] (intsAre_of o) (intsAre_of m) (by show X.A.units+1<Kh;omega) x
 .cases HT.lexLt ms ns<;>rfl
def Co:RC:=λd M Q=>match d with
 |[.int i,.int j]=>Q (.int (max i j)) M
 |[.tup a,.tup b]=>∃ns c,a=Le D.int ns/\b=Le D.int c/\Q (.tup (Le D.int (if HT.cC c ns=MC then c else ns))) M
 |_=>False
def Gu:RC:=λd M Q=>match d with
 |[.int i,.int j]=>Q (.int (min i j)) M
 |[.tup a,.tup b]=>∃ns c,a=Le D.int ns/\b=Le D.int c/\Q (.tup (Le D.int (if HT.lexLt c ns=MC then c else ns))) M
 |_=>False
theorem Ay(j:X.calm=MC)(s:X.A.units+64<Kh):d5 X (.builtin "max") Co:=cg (bS.or (Et j) (wB j s)) λvs H Q t=>by
 let[b,M,R,k,a,q,c]:=t;rcases b with _|⟨d,b⟩
 .exact Jy q
 cases d<;>rcases b with _|⟨e,b⟩<;>try exact Jy q
 all_goals (cases e<;>rcases b with _|⟨f,b⟩<;>try exact Jy q)
 .exact .inl #[_,M,R,k,a,q,c]
 .obtain⟨ns,i,rfl,rfl,q⟩:=q;let[v,u,5,l,m]:=fF k;rw[Rep]at l;let[p,xs,5,hx,n]:=l;obtain⟨w,x,rfl,o,r⟩:∃a xs,u=V.ref a/\NW X.K H a xs/\aD X.K H (Le D.int i) xs:=by rw[Rep]at m;exact m
  let g:=hx;let h:=o;rw[dQ n]at g;rw[dQ r]at h;refine .inr #[p,w,ns,i,5,g,h,c _ _ _ _ .refl ?_ a q];by_cases z:HT.cC i ns=MC
  .rw[MF z,MF z,Rep];exact #[_,7,o,r]
  .rw[ME z,ME z,Rep];exact #[_,7,hx,n]
theorem t7(j:X.calm=MC)(s:X.A.units+64<Kh):d5 X (.builtin "min") Gu:=cg (bS.or (DV j) (wA j s)) λvs H Q t=>by
 let[b,M,R,k,a,q,c]:=t;rcases b with _|⟨d,b⟩
 .exact Jy q
 cases d<;>rcases b with _|⟨e,b⟩<;>try exact Jy q
 all_goals (cases e<;>rcases b with _|⟨f,b⟩<;>try exact Jy q)
 .exact .inl #[_,M,R,k,a,q,c]
 .obtain⟨ns,i,rfl,rfl,q⟩:=q;let[v,u,5,l,m]:=fF k;rw[Rep]at l;let[p,xs,5,hx,n]:=l;obtain⟨w,x,rfl,o,r⟩:∃a xs,u=V.ref a/\NW X.K H a xs/\aD X.K H (Le D.int i) xs:=by rw[Rep]at m;exact m
  let g:=hx;let h:=o;rw[dQ n]at g;rw[dQ r]at h;refine .inr #[p,w,ns,i,5,g,h,c _ _ _ _ .refl ?_ a q];by_cases z:HT.lexLt i ns=MC
  .rw[MF z,MF z,Rep];exact #[_,7,o,r]
  .rw[ME z,ME z,Rep];exact #[_,7,hx,n]
end
end SD
namespace Ma
open SD
def AU{p z:Int}(h:0<p):0<p*z↔0<z:=by
 constructor
 .intro q;by_cases a:0<z
  .exact a
  .have:p*z<=0:=Int.mul_nonpos_of_nonneg_of_nonpos () ();omega
 .exact λq=>JC h q
def vN{a b c d:Int}(f:0<b)(hd:0<d):Rat.divInt a b<Rat.divInt c d↔a*d<c*b:=by
 let e:=Rat.divInt_sub_divInt c a (d₁:=d) (d₂:=b) () ();let h1:Rat.divInt a b<Rat.divInt c d↔0<Rat.divInt c d-Rat.divInt a b:=by constructor<;>intro z<;>grind
 rw[h1,e,lU (JC hd f)];omega
def ut(t b X m x:Int):Rat:=Rat.divInt (x*t+X*m) (b*m)
def ub{t b X m n x y:Int}(c:0<t)(a:0<b)(d:0<m)(f:0<n):ut t b X m x<ut t b X n y↔n*x<m*y:=by
 unfold ut;rw[vN (JC a d) (JC a f)];let e:(y*t+X*n)*(b*m)-(x*t+X*m)*(b*n)=(b*t)*(m*y-n*x):=by grind
 have:=AU (z:=m*y-n*x) (JC a c);omega
def lV{t b X m n x y:Int}(d:0<t)(f:0<b)(g:0<m)(h:0<n):ut t b X m x=ut t b X n y↔n*x=m*y:=by
 let h1:=ub (X:=X) (x:=x) (y:=y) d f g h;let h2:=ub (X:=X) (x:=y) (y:=x) d f h g;constructor
 .intro e;let a:¬ut t b X m x<ut t b X n y:=by rw[e];exact Rat.lt_irrefl
  let c:¬ut t b X n y<ut t b X m x:=by rw[e];exact Rat.lt_irrefl
  rw[h1]at a;rw[h2]at c;omega
 .intro e;let a:¬ut t b X m x<ut t b X n y:=by rw[h1];omega
  let c:¬ut t b X n y<ut t b X m x:=by rw[h2];omega
  grind
def zP{t b X x:Int}:Rat.divInt (x*t+X) b=ut t b X 1 x:=by unfold ut;rw[Int.mul_one,Int.mul_one]
def Hq{t b X Y m n x y u v:Int}(a:0<t)(c:0<b)(d:0<m)(e:0<n) : ah (ut t b X m x) (ut t b Y m y) (ut t b X n u) (ut t b Y n v)↔HT.lexLt [n*x,n*y] [m*u,m*v]=MC:=by
 unfold ah;rw[ub a c d e,lV a c d e,ub a c d e];simp only[HT.lexLt];by_cases h:n*x=m*u
 .rw[MF h];by_cases h2:n*y=m*v
  .rw[MF h2];simp;omega
  .rw[ME h2];simp;omega
 .rw[ME h];simp;omega
def wR(a b c d:Int):HT.lexLe [a,b] [c,d]=!HT.lexLt [c,d] [a,b]:=by
 simp only[HT.lexLe,HT.lexLt];by_cases h:a=c
 .subst h;rw[MF rfl,MF rfl];by_cases h2:b=d
  .subst h2;rw[MF rfl,MF rfl];rfl
  .rw[ME h2,ME (λe=>h2 e.symm)];rw[<-decide_not,MK];omega
 .rw[ME h,ME (λe=>h e.symm),<-decide_not,MK];omega
def wj(a b c d:Int):HT.cC [a,b] [c,d]=HT.lexLt [c,d] [a,b]:=by
 simp only[HT.cC,HT.lexLt];by_cases h:a=c
 .subst h;rw[MF rfl,MF rfl];by_cases h2:b=d
  .subst h2;simp
  .rw[ME h2,ME (λe=>h2 e.symm)]
 .rw[ME h,ME (λe=>h e.symm)]
def n8{a b c d:Int}:HT.lexLt [a,b] [c,d]=MC↔a<c\/(a=c/\b<d):=by
 simp only[HT.lexLt];by_cases h:a=c
 .subst h;rw[MF rfl];by_cases h2:b=d
  .subst h2;rw[MF rfl];simp
  .rw[ME h2];simp
 .rw[ME h];simp;omega
end Ma
open Ma renaming wll->MX,ut->MY,Bq->MZ,ah->Mr,pos_int->Ms,cr->Mt,sgn->Mu,lV->Mv,lF->Mw,spt->Mx,fr->My,i8->Mz,den_pos->NA
namespace SD
open PySem PySem.Spec PyProof.Rows L2
theorem ax{M:MH}{a p:PySem.Addr}{o:MO}(h:M a=MA o)(b:M p=MB):a≠p:=λe=>by subst e;rw[h]at b;cases b
def YF(t b x y:Int):D:=.tup [.int t,.int b,.int x,.int y]
structure Np(t b x y:Int):Prop where
 t0:0<t
 t1:t<=10^24
 b0:0<b
 b1:b<=10^26
 x0:-(10^30)<=x
 x1:x<=10^30
 y0:-(10^30)<=y
 y1:y<=10^30
def uw(w:Int×Int×Int×Int):D:=.tup [.tup [.int w.1,.int w.2.1],.tup [.int w.2.2.1,.int w.2.2.2]]
def NF(t b x y:Int)(w:Int×Int×Int×Int):D:=MX (MY t b x 1 w.1) (MY t b y 1 w.2.1) (MY t b x 1 w.2.2.1) (MY t b y 1 w.2.2.2)
def Uok(n:Int)(w:Int×Int×Int×Int):Prop:=(-n<=w.1/\w.1<=n)/\(-n<=w.2.1/\w.2.1<=n)/\(-n<=w.2.2.1/\w.2.2.1<=n)/\(-n<=w.2.2.2/\w.2.2.2<=n)
def range_getD(l:sg):(Jq l.length).map (λi=>(l[i]?).getD .non)=l:=by refine List.ext_getElem (_) λi h1 h2=>?_;simp[h2]
def getD_map{b:Type}{f:b->D}{l:List b}{i:Nat}{a:b}(h:l[i]?=MA a):((l.map f)[i]?).getD .non=f a:=by rw[Jf,h];rfl
def Cy{t b x m p:Int}(g:0<t/\t<=10^24)(a:0<b/\b<=10^26)(hx:-(10^30)<=x/\x<=10^30)(c:0<m/\m<=10^6)(h:-(10^6)<=p/\p<=10^6):MZ 200 (MY t b x m p):=by
 let d:Bd 80 t:=by show t.natAbs<2^80;omega
 let bm:Bd 64 m:=by show m.natAbs<2^64;omega
 let e:Bd 64 p:=by show p.natAbs<2^64;omega
 let f:Bd 90 b:=by show b.natAbs<2^90;omega
 let bx:Bd 100 x:=by show x.natAbs<2^100;omega
 refine Ma.Bq.divInt (by have:=JC a.1 c.1;omega) ?_ ((f.mul bm).mono ⋯);exact(((e.mul d).mono (by decide:64+80<=164)).add (bx.mul bm)).mono ⋯
theorem Np.bx{t b x y m p:Int}(S:Np t b x y)(a:0<m/\m<=10^6)(c:-(10^6)<=p/\p<=10^6):MZ 200 (MY t b x m p):=Cy #[S.t0,S.t1] #[S.b0,S.b1] #[S.x0,S.x1] a c
theorem Np.by'{t b x y m p:Int}(S:Np t b x y)(a:0<m/\m<=10^6)(c:-(10^6)<=p/\p<=10^6):MZ 200 (MY t b y m p):=Cy #[S.t0,S.t1] #[S.b0,S.b1] #[S.y0,S.y1] a c
def oe(a b c d:Int):JS (.tuple [.int a,.int b]) (.tuple [.int c,.int d])=decide (a=c/\b=d):=by simp only[JS,Kt,oZ,Bool.and_true,Bool.decide_and]
open PySem PySem.Spec PyProof.Rows L2 Ma
instance(a b c d:Rat):Decidable (Mr a b c d):=inferInstanceAs (Decidable (_\/_))
def OA(a b c d:Int):Int:=a*d-b*c
def D1{t b X m x:Int}(a:0<b)(c:0<m):MY t b X m x=((t:Rat)/b)*((x:Rat)/m)+(X:Rat)/b:=by
 unfold MY;rw[Rat.divInt_eq_div];let h1:(b:Rat)≠0:=by have:=Ms a;grind
 let h2:(m:Rat)≠0:=by have:=Ms c;grind
 rw[Rat.intCast_add,Rat.intCast_mul,Rat.intCast_mul,Rat.intCast_mul];grind
def ie{t b X x:Int}(a:0<b):MY t b X 1 x=((t:Rat)/b)*(x:Rat)+(X:Rat)/b:=by rw[D1 a ⋯];have:((1:Int):Rat)=1:=rfl;rw[this];grind
def DB(k x y p q r s e f:Rat):Mt (k*p+x) (k*q+y) (k*r+x) (k*s+y) (k*e+x) (k*f+y)=k*k*((r-p)*(f-q)-(s-q)*(e-p)):=by unfold Mt;grind
def GS{t b X Y p q r s e f:Int}(a:0<b):Mt (MY t b X 1 p) (MY t b Y 1 q) (MY t b X 1 r) (MY t b Y 1 s) (MY t b X 1 e) (MY t b Y 1 f)=((t:Rat)/b)*((t:Rat)/b)*((OA (r-p) (s-q) (e-p) (f-q):Int):Rat):=by rw[ie a,ie a,ie a,ie a,ie a,ie a,DB];unfold OA;rw[Rat.intCast_sub,Rat.intCast_mul,Rat.intCast_mul,Rat.intCast_sub,Rat.intCast_sub,Rat.intCast_sub,Rat.intCast_sub]
def sgn_mul{k:Rat}(a:0<k)(z:Int):Mu (k*(z:Rat))=JH z:=by
 unfold Mu;by_cases h1:0<z
 .rw[MF (Rat.mul_pos a (Ms h1)),JZ h1]
 .by_cases h2:z<0
  .have b:0<k*((-z:Int):Rat):=Rat.mul_pos a (Ms ());rw[Rat.intCast_neg]at b;rw[ME (by grind),MF (by grind),JL h2]
  .obtain rfl:z=0:=()
   have:((0:Int):Rat)=0:=rfl;rw[this];simp
def Hi{t b X Y p q e f:Int}(a:0<t)(c:0<b):Mr (MY t b X 1 p) (MY t b Y 1 q) (MY t b X 1 e) (MY t b Y 1 f)↔(p<e\/(p=e/\q<f)):=by rw[Ma.Hq a c ⋯ ⋯,Ma.n8];omega
end SD
namespace HT
open PySem PyProof.Rows
end HT
namespace SD
open PySem PySem.Spec PyProof.Rows L2
section
variable{X:Cx}
def B4(g:Bool->Bool):Nx:=λx y M Q=>∃p ps,Pd M x p/\(Pd M y (.list ps)\/Pd M y (.tuple ps))/\L4 p=MC/\KL ps=MC/\Q (.bl (g (ps.any λq=>JS q p))) M
theorem l0{p:Lw}{n:Nat}(h:L4 p=MC):min n p.depth<=63+1:=JT (Nat.min_le_right _ _) (SeqAt.depth_of_shaped h)
def Hy(r:X.A.units+66<Kh):OC X (JY .In) (B4 λb=>b):=by
 intro MP s σ H v u t w Q I m g h;obtain⟨x,y,M,R,o,i,a,⟨p,ps,q,c,e,j,k⟩,d⟩:=h;let[z,l]:=bw I a q o m;let B:=l0 (n:=KP ps) e;rcases c with c|c
 .obtain⟨bs,f⟩:=bw I a c i g;exact SeqAt.in_list_reads f l j (Li e) () #[.bl _,H,I,5,d _ _ _ _ .refl (by rw[Rep]) a k]
 .obtain⟨bs,f⟩:=bw I a c i g;exact SeqAt.in_tuple_reads f l j (Li e) () #[.bl _,H,I,5,d _ _ _ _ .refl (by rw[Rep]) a k]
def lL(r:X.A.units+66<Kh):OC X (JY .NotIn) (B4 λb=>!b):=by
 intro MP s σ H v u t w Q I m g h;obtain⟨x,y,M,R,o,i,a,⟨p,ps,q,c,e,j,k⟩,d⟩:=h;let[z,l]:=bw I a q o m;let B:=l0 (n:=KP ps) e;rcases c with c|c
 .obtain⟨bs,f⟩:=bw I a c i g;exact SeqAt.notIn_list_reads f l j (Li e) () #[.bl _,H,I,5,d _ _ _ _ .refl (by rw[Rep]) a k]
 .obtain⟨bs,f⟩:=bw I a c i g;exact SeqAt.notIn_tuple_reads f l j (Li e) () #[.bl _,H,I,5,d _ _ _ _ .refl (by rw[Rep]) a k]
def Hf(to:TD)(t:N7):TD:=λδ M Q=>to δ M λx a=>∃l c,x=.ref l/\a l=MA (.lst c)/\t δ a λe b=>∃xs d,e=[d]/\b l=MA (.lst xs)/\xs.length<1000000/\Q .non (av b l (.lst (xs++[d])))
variable{o e:pv}{to:TD}{t:N7}{apos MT:Pos}
theorem cj(y:DE X o to)(z:DA X [e] t)
 (b:Lf o "append" X.env (eval o X.env)=eval o X.env:=by rfl)
 (i:((Kr MT (Jk [e] X.env)).all (λx=>!x.1)&&(Mf MT (Lb [] X.env)).all (λx=>x.1.isSome)
  && decide ([e].length+([]:List Mp).length+(if([]:List Mp).isEmpty then 0 else 1)<30))=MC:=by rfl)
 (c:(apos.endLine==MT.line)=MC:=by rfl) (A:Jk [e] X.env=(MD,eval e X.env)::Jk [] X.env:=by rfl) (a:(Kr MT (Jk [] X.env)).any (·.1)=MD:=by rfl) :
 DE X (.Call (.Attribute o "append" apos) [e] [] MT) (Hf to t):=
 aX (xa PySem.F.plainAttrs_list PySem.F.slot_list_append PySem.F.type_list_append jR y z b i c A a) λσ H Q B=>by
  let[δ,M,R,j,C,q,m]:=B
  refine #[δ,M,_,j,C,q,λx D v H1 g1 p r f=>?_]
  let[l,O,ex,E,G]:=f
  subst ex
  rw[Rep]at p
  subst p
  let[vs,n,_]:=r _ _ E
  refine #[.inl #[5,vs,NX.of n],δ,D,_,j.mono g1,r,G,λP S us T I J s g=>?_]
  let[xs,d,K,hx,U,L]:=g
  subst K
  let[u,5,N]:=bP J
  let[ws,h,k]:=s _ _ hx
  let w:=k.length
  exists l,ws,u,5,5,h,JD () (show 1000000<=Jo from NG rfl)
  exact m _ _ _ _ (g1.trans (I.trans (.lst h))) (by rw[Rep]) (s.vg h (k.append (.cons N .nil))) L
end
def gA{k:Nat}{A:JP}(r:NL k A):A.units+66<Kh:=by have:=r.un;omega
abbrev Wl:=Int×Int×Int×Int
abbrev _root_.r8:=List Wl
def la(x y:Int):Int:=100*x+y
def l1(w:Wl):Int:=la w.1 w.2.1
def l2(w:Wl):Int:=la w.2.2.1 w.2.2.2
def sd(w:Wl)(x y:Int):Int:=OA (w.2.2.1-w.1) (w.2.2.2-w.2.1) (x-w.1) (y-w.2.1)
def NO(w v:Wl):Int:=sd w v.1 v.2.1
def NS(w v:Wl):Int:=sd w v.2.2.1 v.2.2.2
structure NK(w:Wl):Prop where
 a:0<=w.1/\w.1<=20
 b:0<=w.2.1/\w.2.1<=20
 c:0<=w.2.2.1/\w.2.2.1<=20
 d:0<=w.2.2.2/\w.2.2.2<=20
 lt:l1 w<l2 w
def aV(w:Wl)(l s:Int):Prop:=l=l1 w\/l=l2 w\/l<l1 w\/l2 w<l\/s≠0
structure N1(U V:Wl):Prop where
 ne:¬(l1 U=l1 V/\l2 U=l2 V)
 e1:aV U (l1 V) (NO U V)
 e2:aV U (l2 V) (NS U V)
 e3:aV V (l1 U) (NO V U)
 e4:aV V (l2 U) (NS V U)
 pr:0<=JH (NO U V)*JH (NS U V)\/0<=JH (NO V U)*JH (NS V U)
theorem N1.swap{U V:Wl}(h:N1 U V):N1 V U:=#[λz=>h.ne #[z.1.symm,z.2.symm],h.e3,h.e4,h.e1,h.e2,h.pr.symm]
def NQ(U V:Wl):Bool:=
 if max (l1 U) (l1 V)<min (l2 U) (l2 V)then
  if l1 U=l1 V then(if l2 U<l2 V then decide (0<NS V U)else decide (NS U V<0))
  else if l1 V<l1 U then decide (0<NO V U)else decide (NO U V<0)
 else MD
theorem sg1(z:Int):JH z=1↔0<z:=Int.sign_eq_one_iff_pos
def sgm(z:Int):-JH z=1↔z<0:=by
 rcases JB z 0 with h|h|h
 .rw[JL h];omega
 .subst h;simp
 .rw[JZ h];omega
def Xw{x y:Int}(h:0<=JH x*JH y):¬(0<x/\y<0)/\¬(x<0/\0<y):=by
 constructor
 .rintro⟨a,b⟩;rw[JZ a,JL b]at h;omega
 .rintro⟨a,b⟩;rw[JL a,JZ b]at h;omega
def gE{z k:Int}(a:0<k)(h:0<z*k):0<z:=by
 rcases JB z 0 with q|q|q
 .have:=JX q a;omega
 .subst q;simp at h
 .exact q
def lN{z k:Int}(a:0<k)(h:z*k<0):z<0:=by
 rcases JB z 0 with q|q|q
 .exact q
 .subst q;simp at h
 .have:=JC q a;omega
def within{a b c d g h e f:Int}(p:a*(f-e)=d*(g-e)-c*(h-e))(q:b*(f-e)=d*(g-f)-c*(h-f))
 (h1:e<g) (h2:e<h) (r:g<f) (s:h<f) (F:(¬(0<c/\d<0)/\¬(c<0/\0<d))\/(¬(0<a/\b<0)/\¬(a<0/\0<b))) (c0:c≠0) (t:d≠0):0<c↔0<d:=by
 let k:0<f-e:=()
 let u:¬(0<c/\d<0):=λi=>by
  let[x,y]:=i
  let j:=JX y (():0<g-e)
  let l:=JC x (():0<h-e)
  let m:=K8 y (():g-f<0)
  let n:=JA x (():h-f<0)
  let o:=lN (z:=a) k ()
  let b1:=gE (z:=b) k ()
  omega
 let v:¬(c<0/\0<d):=λi=>by
  let[x,y]:=i
  let j:=JC y (():0<g-e)
  let l:=JX x (():0<h-e)
  let m:=JA y (():g-f<0)
  let n:=K8 x (():h-f<0)
  let o:=gE (z:=a) k ()
  let b1:=lN (z:=b) k ()
  omega
 omega
def pF{a b c d f h i g:Int}(q:b*(g-i)=d*(f-g)-c*(h-g))(r:c*(h-f)=b*(i-f)-a*(g-f))
 (h1:i<f) (h2:f<g) (s:g<h) (F:(¬(0<c/\d<0)/\¬(c<0/\0<d))\/(¬(0<a/\b<0)/\¬(a<0/\0<b))) (c0:c≠0) (b0:b≠0):0<c↔b<0:=by
 let e:d*(f-g)=-(d*(g-f)):=by rw[<-Int.mul_neg];congr 1;omega
 let t:¬(0<c/\0<b):=λj=>by
  let[x,y]:=j
  let k:=JC y (():0<g-i)
  let l:=JC x (():0<h-g)
  let m:=JC x (():0<h-f)
  let n:=JA y (():i-f<0)
  let o:=lN (z:=a) (():0<g-f) ()
  let p:=lN (z:=d) (():0<g-f) ()
  omega
 let u:¬(c<0/\b<0):=λj=>by
  let[x,y]:=j
  let k:=JX y (():0<g-i)
  let l:=JX x (():0<h-g)
  let m:=JX x (():0<h-f)
  let n:=K8 y (():i-f<0)
  let o:=gE (z:=a) (():0<g-f) ()
  let p:=gE (z:=d) (():0<g-f) ()
  omega
 omega
def wa(U V:Wl):NO U V*(l2 V-l1 V)=NS V U*(l1 U-l1 V)-NO V U*(l2 U-l1 V):=by unfold NO NS sd l1 l2 la OA;grind
def wJ(U V:Wl):NS U V*(l2 V-l1 V)=NS V U*(l1 U-l2 V)-NO V U*(l2 U-l2 V):=by unfold NO NS sd l1 l2 la OA;grind
def l7{x y u v:Int}(h1:0<=y/\y<=20)(h2:0<=v/\v<=20)(h:la x y=la u v):x=u/\y=v:=by unfold la at h;omega
def yi{U V:Wl}(a:NK U)(c:NK V)(h:l1 U=l1 V):NO U V=0:=by let[e1,e2]:=l7 a.b c.b h;unfold NO sd OA;rw[e1,e2];simp
def nL{U V:Wl}(a:NK U)(b:NK V)(h:l2 U=l2 V):NS U V=0:=by let[e1,e2]:=l7 a.d b.d h;unfold NS sd OA;rw[e1,e2];grind
def aV.nz{w:Wl}{l s:Int}(h:aV w l s)(h1:l1 w<l)(h2:l<l2 w):s≠0:=by
 unfold aV at h;rcases h with h|h|h|h|h
 .omega
 .omega
 .omega
 .omega
 .exact h
def gX{a b c d:Int}:max a c<min b d↔a<b/\a<d/\c<b/\c<d:=by rw[Int.max_lt,Int.lt_min,Int.lt_min,and_assoc]
section
variable{U V:Wl}(ap:max (l1 U) (l1 V)<min (l2 U) (l2 V))
include ap
def m9(z:l1 U<l1 V):NQ U V=decide (NO U V<0):=by unfold NQ;rw[MF ap,ME (Int.ne_of_lt z),ME (Int.not_lt.mpr (JU z))]
def nM(z:l1 V<l1 U):NQ U V=decide (0<NO V U):=by unfold NQ;rw[MF ap,ME (λe=>Int.ne_of_lt z e.symm),MF z]
def tV(z:l1 U=l1 V)(y:l2 U<l2 V):NQ U V=decide (0<NS V U):=by unfold NQ;rw[MF ap,MF z,MF y]
def qO(z:l1 U=l1 V)(y:¬l2 U<l2 V):NQ U V=decide (NS U V<0):=by unfold NQ;rw[MF ap,MF z,ME y]
end
def zN{a:Int}(h:a≠0):decide (0<a)=!decide (a<0):=by rw[<-decide_not,MK];omega
def xf{a:Int}(h:a≠0):decide (a<0)=!decide (0<a):=by rw[<-decide_not,MK];omega
def pO{U V:Wl}(d:NK U)(e:NK V)(F:N1 U V)(b:max (l1 U) (l1 V)<min (l2 U) (l2 V)):NQ V U=!NQ U V:=by
 let c:=b;rw[Int.max_comm,Int.min_comm]at c;let o:=gX.mp b;rcases JB (l1 U) (l1 V)with h|h|h
 .rw[nM c h,m9 b h,zN (F.e1.nz h o.2.2.1)]
 .rcases JB (l2 U) (l2 V)with a|a|a
  .rw[qO c h.symm (Int.not_lt.mpr (JU a)),tV b h a,xf (F.e4.nz o.2.2.1 a)]
  .exact absurd #[h,a] F.ne
  .rw[tV c h.symm a,qO b h (Int.not_lt.mpr (JU a)),zN (F.e2.nz o.2.1 a)]
 .rw[m9 c h,nM b h,xf (F.e3.nz h o.2.1)]
def ua{a b c d:Int}(e:0<=b/\b<=20)(hd:0<=d/\d<=20):HT.lexLt [a,b] [c,d]=decide (la a b<la c d):=by let h:=Ma.n8 (a:=a) (b:=b) (c:=c) (d:=d);rw[Bool.eq_iff_iff,h,ML];unfold la;omega
def xk{a b c d:Int}(e:0<=b/\b<=20)(hd:0<=d/\d<=20):HT.lexLe [a,b] [c,d]=decide (la a b<=la c d):=by rw[Ma.wR,ua hd e,<-decide_not,MK];omega
def Fz{a b c d:Int}(e:0<=b/\b<=20)(hd:0<=d/\d<=20):HT.cC [a,b] [c,d]=decide (la c d<la a b):=by rw[Ma.wj,ua hd e]
def xc{x y u v:Int}(h1:0<=y/\y<=20)(h2:0<=v/\v<=20):(x=u/\y=v)↔la x y=la u v:=by unfold la;omega
def lh{I:QL}{tk:QD}{js:q7}{tc:Nh}{te:TD}{δ:DS}{b:MH}{Q:DK}(f:Nat->sk)(j:I.n<=1000000)(hC:∀p a,b p=MB->I.C (av b p (.lst a))) (h:∀i d M,i<I.n->I.item i=MA d->Sub b M->∃os,Ap tk d os/\(∀K:Bool->MH->Prop,K (f i).isSome M->tc (cδ os js δ) M K)/\∀e,f i=MA e->∀K:DK,(∀c,Sub M c->K e c)->te (cδ os js δ) M K) (k:∀p,b p=MB->Q (.ref p) (av b p (.lst ((Jq I.n).filterMap f)))):yc I tk js tc te δ b Q:=by
 refine #[j,λp g=>#[λi a M=>a=(Jq i).filterMap f/\M=av b p (.lst a),#[5,rfl],?_,?_,?_]]
 .rintro i a M _ ⟨_,rfl⟩;exact hC p a g
 .rintro i a d M l hd ⟨rfl,rfl⟩;let[os,m,o,q]:=h i d _ l hd (.new g .refl);refine #[os,m,o _ ?_];cases e:f i with
  |none=>
   refine pI rfl #[_,.refl,?_,?_]
   .rw[LQ,List.filterMap_append];simp[e]
   .rfl
  |some v=>
   refine zD rfl (q v e _ λc r=>#[_,r,ag,?_,by rw[bE]])
   rw[LQ,List.filterMap_append];simp[e]
 .rintro a M ⟨rfl,rfl⟩;exact k p g
def zK{A:Wl}{x y:Int}(c:NK A)(e:0<=y/\y<=20)(h:(!(decide (A.1=x/\A.2.1=y)||decide (A.2.2.1=x/\A.2.2.2=y))&&(decide (l1 A<=la x y)&&decide (la x y<=l2 A)&&decide (sd A x y=0)))=MD):aV A (la x y) (sd A x y):=by
 unfold aV;by_cases h1:A.1=x/\A.2.1=y
 .exact .inl ((xc c.b e).mp h1).symm
 .by_cases h2:A.2.2.1=x/\A.2.2.2=y
  .exact .inr (.inl ((xc c.d e).mp h2).symm)
  .rw[MG h1,MG h2,Bool.or_false,Bool.not_false,Bool.true_and,<-Bool.decide_and,<-Bool.decide_and,decide_eq_false_iff_not]at h;by_cases f:sd A x y=0
   .rcases Int.lt_or_le (la x y) (l1 A)with z|z
    .exact .inr (.inr (.inl z))
    .rcases Int.lt_or_le (l2 A) (la x y)with a|a
     .exact .inr (.inr (.inr (.inl a)))
     .exact absurd #[#[z,a],f] h
   .exact .inr (.inr (.inr (.inr f)))
def CC(z:Int):Bd 64 (JH z):=by
 rcases JB z 0 with h|h|h
 .rw[JL h];decide
 .subst h;decide
 .rw[JZ h];decide
def PF(ws:r8):Prop:=∀(i j:Nat)(U V:Wl),i≠j->ws[i]?=MA U->ws[j]?=MA V->N1 U V
theorem Ew:PF []:=λi j U V _ h=>by simp at h
def wb{ws:r8}{U:Wl}(h:PF ws)(d:∀(j:Nat)(w:Wl),ws[j]?=MA w->N1 U w):PF (ws++[U]):=by
 intro i j A B c f g
 let get:∀{k:Nat}{C:Wl},(ws++[U])[k]?=MA C->ws[k]?=MA C\/(k=ws.length/\C=U):=λ{k C} e=>by
  rcases LV k ws.length with z|z|z
  .rw[JW z]at e;exact .inl e
  .subst z;rw[JR (Je _)]at e;simp at e;exact .inr #[5,e.symm]
  .rw[List.getElem?_eq_none (by simp;omega)]at e;cases e
 rcases get f with a|⟨a,rfl⟩<;>rcases get g with b|⟨b,rfl⟩
 .exact h i j A B c a b
 .exact(d _ _ a).swap
 .exact d _ _ b
 .omega
def vD{p q e f:Int}(c:0<=p/\p<=20)(a:0<=q/\q<=20)(d:0<=e/\e<=20)(b:0<=f/\f<=20)(ne:¬(p=e/\q=f)) :
 ∃w:Wl,(if HT.lexLt [e,f] [p,q]=MC then[e,f]else[p,q])=[w.1,w.2.1]/\(if HT.cC [e,f] [p,q]=MC then[e,f]else[p,q])=[w.2.2.1,w.2.2.2]/\NK w:=by
 rw[ua b a,Fz b a]
 let i:la p q≠la e f:=λz=>ne ((xc a b).mpr z)
 by_cases h:la e f<la p q
 .exact #[(e,f,p,q),by rw[MF (MI h)],by rw[ME (by simp;omega)],#[d,b,c,a,h]]
 .have g:la p q<la e f:=()
  exact #[(p,q,e,f),by rw[ME ‹h›],by rw[MF (MI g)],#[c,a,d,b,g]]
def n9{t b X Y p q e f:Int}(a:0<t)(c:0<b)(d:0<=q/\q<=20)(g:0<=f/\f<=20):Mr (MY t b X 1 p) (MY t b Y 1 q) (MY t b X 1 e) (MY t b Y 1 f)↔la p q<la e f:=by rw[Hi a c];unfold la;omega
def ji{t b X Y p q e f:Int}(a:0<t)(c:0<b)(d:0<=q/\q<=20)(g:0<=f/\f<=20):(MY t b X 1 p=MY t b X 1 e/\MY t b Y 1 q=MY t b Y 1 f)↔la p q=la e f:=by rw[Mv a c ⋯ ⋯,Mv a c ⋯ ⋯];unfold la;omega
def mi{t b X Y:Int}(c:0<t)(a:0<b)(w:Wl)(x y:Int):Mu (Mt (MY t b X 1 w.1) (MY t b Y 1 w.2.1) (MY t b X 1 w.2.2.1) (MY t b Y 1 w.2.2.2) (MY t b X 1 x) (MY t b Y 1 y))=JH (sd w x y):=by
 let k:(0:Rat)<(t:Rat)/b:=by rw[Rat.div_def];exact Rat.mul_pos (Ms c) (Rat.inv_pos.mpr (Ms a))
 rw[GS a,sgn_mul (Rat.mul_pos k k)];rfl
def Iw(z:Int):JH z=-1↔z<0:=by rw[<-sgm];omega
def sL{K:J1}{r i:Nx}{j l tc:TD}{σ:L2.St}{H:Hp}{Q:VK}(h:lift K (uC r i j l tc) σ H Q):yh (jH K r) (jH K i) (lift K j) (lift K l) (lift K tc) σ H Q:=by
 let[δ,M,R,g,s,q,b]:=h;refine #[δ,M,_,g,s,q,λx t v H1 g1 A B C=>#[δ,t,_,g.mono g1,B,C,λy D u P c m E F=>#[x,y,D,_,A.mono c,m,E,F,λz G w S d n o a=>?_]]];let[k,e,f]:=a;subst e;rw[Rep]at n;exists k,n;cases k with
 |true=>
  rw[MF rfl]at f ⊢
  exact #[δ,G,_,g.mono ((g1.trans c).trans d),o,f,λI J T U p L N O=>#[y,I,J,R,m.mono (d.trans p),L,N,O,b.go (((g1.trans c).trans d).trans p)]]
 |false=>
  rw[ME Js]at f ⊢
  exact b _ _ _ _ ((g1.trans c).trans d) (by rw[Rep]) o f
theorem xO{X:Cx}{a b c:pv}{f g tc:TD}{pos:Pos}{op d:CmpOp}{r i:Nx}(j:OC X (JY op) r)(e:OC X (JY d) i)(k:DE X a f)(l:DE X b g)(m:DE X c tc) (n:lastMarks [op,d] [b,c]=MD:=by with_unfolding_all rfl):DT X (.Compare a [op,d] [b,c] pos) (tBD (uC r i f g tc)):=jC (yB j e k l m n) λ_ _ _ h=>jV (λ_ _ _ h=>sL h) h
theorem gF{M:MH}:∀ns:q_,Pl M (ns.map D.int) (ns.map KH)
 |[]=>.nil
 |n::ns=>.cons (.int n) (gF ns)
theorem lay_ints:∀ns:q_,KL (ns.map KH)=MC
 |[]=>rfl
 |n::ns=>by rw[Ji,KL,lay_ints ns];rfl
def any_ints(k:Int)(ns:q_):(ns.map KH).any (λq=>JS q (.int k))=ns.any (λz=>z==k):=by
 rw[List.any_map]
 congr 1
def B3{M:MH}{l:pd}{ns:q_}(k:Int)(g:Bool->Bool)(Q:DK)(h:M l=MA (.lst (ns.map D.int)))(q:Q (.bl (g (ns.any (λz=>z==k)))) M):B4 g (.int k) (.ref l) M Q:=by exists _,_,.int k,.inl (.lst h (gF ns)),5,lay_ints ns;rw[any_ints];exact q
section
variable{X:Cx}
def f6{a:Type}(xs:List a)(j:Nat)(y:a):List a:=xs.take j++y::xs.drop j
def BW:V->r4->Hp->VK->Prop:=λx vs H Q=>∃l xs y,∃(k:Int) (j:Nat),x=.ref l/\vs=[.int k,y]/\k=(j:Int)/\H l=MA (.lst xs)/\j<=xs.length/\xs.length<1000000/\Q .non (upd H l (.lst (f6 xs j y)))
def AL(its:List J3)(k:Int)(j:Nat)(u:J3)(a:k=(j:Int))(b:j<=its.length) :
 (its.toArray.extract 0 (if k<0 then(k+((its.toArray.size:Nat):Int)).toNat else min k.toNat its.toArray.size)).push u++its.toArray.extract (if k<0 then(k+((its.toArray.size:Nat):Int)).toNat else min k.toNat its.toArray.size)=(f6 its j u).toArray:=by
 let e:(if k<0 then(k+((its.toArray.size:Nat):Int)).toNat else min k.toNat its.toArray.size)=j:=by
  rw[ME (),Jl];omega
 rw[e]
 apply Array.toList_inj.mp
 simp[f6]
 exact KR (_)
def wF:Zr X "list.insert" BW:=by
 intro MP s σ H x vs v us Q I g h i;let[l,xs,y,k,j,ex,m,o,f,A,B,q]:=i;subst ex m;cases g;let[C,c,5,p,u]:=h.two;let[t,5]:=p;let[z,a,n,r,w,e]:=I.oQ f;let b:Builtin.List.listFitsIndex k=MC:=by unfold Builtin.List.listFitsIndex;simp;omega
 let d:a.toArray.size<=Jo:=by rw[Jl,<-w];exact z
 refine call_meets PySem.F.slot_list_insert #[_,e,rfl] PySem.F.entry_list_insert (PySem.F.args_list_insert_3 _ _ _) (PySem.AutoSeq1.list_insert_list_int_val_1 l a.toArray n k t c (by rw[b];decide) d) #[e,?_];refine #[.non,_,I.GZ (its':=f6 a j c) f e (AL a k j c o ()) ((Vals.take j r).append (.cons u (Vals.drop j r))) ?_,5,q];show(xs.take j++y::xs.drop j).length<=Jo;simp only[Ke,Lc,Jz,List.length_drop];have:1000000<=Jo:=NG rfl;omega
def Gg(to:TD)(t:N7):TD:=λδ M Q=>to δ M λx a=>∃l c,x=.ref l/\a l=MA (.lst c)/\t δ a λe b=>∃xs d,∃j:Nat,e=[.int (j:Int),d]/\b l=MA (.lst xs)/\j<=xs.length/\xs.length<1000000/\Q .non (av b l (.lst (f6 xs j d)))
variable{o e1 e2:pv}{to:TD}{t:N7}{apos MT:Pos}
theorem e7(z:DE X o to)(A:DA X [e1,e2] t)
 (b:Lf o "insert" X.env (eval o X.env)=eval o X.env:=by rfl)
 (i:((Kr MT (Jk [e1,e2] X.env)).all (λx=>!x.1)&&(Mf MT (Lb [] X.env)).all (λx=>x.1.isSome)
  && decide ([e1,e2].length+([]:List Mp).length+(if([]:List Mp).isEmpty then 0 else 1)<30))=MC:=by rfl)
 (c:(apos.endLine==MT.line)=MC:=by rfl) (B:Jk [e1,e2] X.env=(MD,eval e1 X.env)::Jk [e2] X.env:=by rfl) (a:(Kr MT (Jk [e2] X.env)).any (·.1)=MD:=by rfl) :
 DE X (.Call (.Attribute o "insert" apos) [e1,e2] [] MT) (Gg to t):=
 aX (xa PySem.F.plainAttrs_list PySem.F.slot_list_insert PySem.F.type_list_insert wF z A b i c B a) λσ H Q C=>by
  let[δ,M,R,k,D,q,n]:=C
  refine #[δ,M,_,k,D,q,λx E v H1 g1 s u e=>?_]
  let[l,P,ex,G,I]:=e
  subst ex
  rw[Rep]at s
  subst s
  let[vs,p,_]:=u _ _ G
  refine #[.inl #[5,vs,NX.of p],δ,E,_,k.mono g1,u,I,λS T us U J K w f=>?_]
  let[xs,d,j,L,hx,V,W,N]:=f
  subst L
  let[Y,O,5,m,r]:=fF K
  rw[Rep]at m
  subst m
  let[ws,g,h]:=w _ _ hx
  let y:=h.length
  exact #[l,ws,O,_,j,5,5,5,g,(),(),n _ _ _ _ (g1.trans (J.trans (.lst g))) (by rw[Rep]) (w.vg g ((h.take j).append (.cons r (h.drop j)))) N]
def Af:RC:=λa M Q=>match a with
 |[.ref l]=>∃xs,M l=MA (.lst xs)/\∀p,M p=MB->Q (.ref p) (av M p (.lst xs))
 |[.tup xs]=>∀p,M p=MB->Q (.ref p) (av M p (.lst xs))
 |_=>False
theorem Bu:d5 X (.type "list") Af:=cg pD λvs H Q g=>by
 let[h,M,R,f,a,q,c]:=g;unfold Af at q;split at q
 .obtain⟨i,e,q⟩:=q;let[v,5,r]:=bP f;rw[Rep]at r;subst r;let[xs,hx,d]:=a _ _ e;exact #[_,xs,5,.inl (NX.of hx),λz b=>c _ _ _ _ (.new b) (by rw[Rep]) (a.j4 b d) (q z (a.fresh b))]
 .obtain⟨v,rfl,r⟩:=bP f;rw[Rep]at r;let[p,xs,5,hx,d]:=r;exact #[_,xs,5,.inr hx,λz b=>c _ _ _ _ (.new b) (by rw[Rep]) (a.j4 b d) (q z (a.fresh b))]
 .exact q.elim
end
def lam(w:Wl):Int:=l2 w-l1 w
def Nm(w:Wl)(t:Int):Int:=2*w.1*lam w+(t-2*l1 w)*(w.2.2.1-w.1)
def Gh(U V:Wl)(t:Int):Int:=Nm V t*lam U-Nm U t*lam V
def F0(U V:Wl):Gh U V (2*l1 U)=2*(lam U*NO V U):=by unfold Gh Nm lam NO sd l1 l2 la OA;grind
def Hu(U V:Wl):Gh U V (2*l2 U)=2*(lam U*NS V U):=by unfold Gh Nm lam NS sd l1 l2 la OA;grind
def x9(U V:Wl)(t:Int):Gh V U t=-Gh U V t:=by unfold Gh;grind
def IB(U V:Wl):Gh U V (2*l1 V)=-(2*(lam V*NO U V)):=by rw[<-F0,x9]
def Ie(U V:Wl):Gh U V (2*l2 V)=-(2*(lam V*NS U V)):=by rw[<-Hu,x9]
def GF(U V:Wl)(p q t:Int):Gh U V t*(q-p)=Gh U V p*(q-t)+Gh U V q*(t-p):=by unfold Gh Nm;grind
def fv{U V:Wl}{p q t:Int}(h1:p<t)(h2:t<q)(gp:0<=Gh U V p)(gq:0<=Gh U V q)(g:0<Gh U V p\/0<Gh U V q):0<Gh U V t:=by
 refine gE (k:=q-p) () ?_;rw[GF U V p q t];let a:=LK gp (():0<=q-t);let b:=LK gq (():0<=t-p);rcases g with g|g
 .have:=JC g (():0<q-t);omega
 .have:=JC g (():0<t-p);omega
def Xy{a b t:Int}:2*max a b<t↔2*a<t/\2*b<t:=by rw[Int.max_def];split<;>omega
def Xz{a b t:Int}:t<2*min a b↔t<2*a/\t<2*b:=by rw[Int.min_def];split<;>omega
def xo{a c d b1 e f:Int}(h:a<b1/\a<e/\a<f)(h':c<b1/\c<e/\c<f)(g:d<b1/\d<e/\d<f):∃t,(2*a<t/\2*c<t/\2*d<t)/\t<2*b1/\t<2*e/\t<2*f:=by let k:∀{b},a<b->c<b->d<b->max (max a c) d<b:=λx y z=>Int.max_lt.mpr #[Int.max_lt.mpr #[x,y],z];let l:max (max a c) d<min (min b1 e) f:=Int.lt_min.mpr #[Int.lt_min.mpr #[k h.1 h'.1 g.1,k h.2.1 h'.2.1 g.2.1],k h.2.2 h'.2.2 g.2.2];let i:a<=max (max a c) d:=Int.le_trans (Int.le_max_left ..) (Int.le_max_left ..);let j:c<=max (max a c) d:=Int.le_trans (Int.le_max_right ..) (Int.le_max_left ..);let o:d<=max (max a c) d:=Int.le_max_right ..;let p:min (min b1 e) f<=b1:=Int.le_trans (Int.min_le_left ..) (Int.min_le_left ..);let q:min (min b1 e) f<=e:=Int.le_trans (Int.min_le_left ..) (Int.min_le_right ..);let r:min (min b1 e) f<=f:=Int.min_le_right ..;generalize max (max a c) d=m at *;generalize min (min b1 e) f=n at *;clear h h' g k;refine #[m+n,#[?_,?_,?_],?_,?_,?_]<;>omega
def xN{U V:Wl}{t:Int}(g:NK U)(i:NK V)(F:N1 U V)(f:max (l1 U) (l1 V)<min (l2 U) (l2 V))(t1:2*max (l1 U) (l1 V)<t)(w:t<2*min (l2 U) (l2 V))(h:NQ U V=MC):0<Gh U V t:=by
 let m:l1 U<l1 V->NO U V<0:=λz=>MJ ((m9 f z).symm.trans h);let hC:l1 V<l1 U->0<NO V U:=λz=>MJ ((nM f z).symm.trans h);let M:l1 U=l1 V->l2 U<l2 V->0<NS V U:=λz y=>MJ ((tV f z y).symm.trans h);let N:l1 U=l1 V->¬l2 U<l2 V->NS U V<0:=λz y=>MJ ((qO f z y).symm.trans h);clear h;let[o1,j,k,o4]:=gX.mp f;clear f;let[O,P]:=Xy.mp t1;let[Q,R]:=Xz.mp w;clear t1 w;let x:=F.e1.nz;let A:=F.e2.nz;let B:=F.e3.nz;let C:=F.e4.nz;let pr:(¬(0<NO V U/\NS V U<0)/\¬(NO V U<0/\0<NS V U))\/(¬(0<NO U V/\NS U V<0)/\¬(NO U V<0/\0<NS U V)):=F.pr.elim (λz=>.inr (Xw z)) (λz=>.inl (Xw z));let z1:=yi g i;let z2:=nL g i;let D:=yi i g;let E:=nL i g;let S:=λh1 h2 d n c0 e=>within (wa U V) (wJ U V) h1 h2 d n pr c0 e;let T:=λh1 h2 d n c0 e=>within (wa V U) (wJ V U) h1 h2 d n pr.symm c0 e;let W:=λh1 h2 d c0 e=>pF (wJ U V) (wa V U) h1 h2 d pr c0 e;let X:=λh1 h2 d c0 e=>pF (wJ V U) (wa U V) h1 h2 d pr.symm c0 e;clear pr;let ne:=F.ne;let G:0<lam U:=by have:=g.lt;unfold lam;omega
 let H:0<lam V:=by have:=i.lt;unfold lam;omega
 let I:=F0 U V;let J:=Hu U V;let Y:=IB U V;let Z:=Ie U V;let o:0<NO V U->0<Gh U V (2*l1 U):=λz=>by rw[I];have:=JC G z;omega
 let r:0<NS V U->0<Gh U V (2*l2 U):=λz=>by rw[J];have:=JC G z;omega
 let s:NO U V<0->0<Gh U V (2*l1 V):=λz=>by rw[Y];have:=JA H z;omega
 let u:NS U V<0->0<Gh U V (2*l2 V):=λz=>by rw[Z];have:=JA H z;omega
 let K:NO V U=0->Gh U V (2*l1 U)=0:=λz=>by rw[I,z];simp
 let L:NS V U=0->Gh U V (2*l2 U)=0:=λz=>by rw[J,z];simp
 rcases JB (l1 U) (l1 V)with y|y|y<;>rcases JB (l2 U) (l2 V)with c|c|c
 .have v:=x y k;let nd:=C k c;let q:=X y k c v nd;let l:NO U V<0:=m y;let b:=s l;let a:=r ();exact fv (p:=2*l1 V) (q:=2*l2 U) (by assumption) (by assumption) (JU b) (by first|exact JU a|exact Lr a.symm) (.inl b)
 .have l:NO U V<0:=m y;let b:=s l;let a:=L (E c.symm);exact fv (p:=2*l1 V) (q:=2*l2 U) (by assumption) (by assumption) (JU b) (by first|exact JU a|exact Lr a.symm) (.inl b)
 .have v:=x y k;let nb:=A () c;let q:=T y () k c v nb;let l:NO U V<0:=m y;let b:=s l;let a:=u ();exact fv (p:=2*l1 V) (q:=2*l2 V) (by assumption) (by assumption) (JU b) (by first|exact JU a|exact Lr a.symm) (.inl b)
 .have b:=K (D y.symm);let a:=r (M y c);exact fv (p:=2*l1 U) (q:=2*l2 U) (by assumption) (by assumption) (Lr b.symm) (JU a) (.inr a)
 .exact absurd #[y,c] ne
 .have b:=K (D y.symm);let a:=u (N y ());exact fv (p:=2*l1 U) (q:=2*l2 V) (by assumption) (by assumption) (Lr b.symm) (JU a) (.inr a)
 .have q:=S y () j c (B y j) (C () c);let c0:0<NO V U:=hC y;let b:=o c0;let a:=r ();exact fv (p:=2*l1 U) (q:=2*l2 U) (by assumption) (by assumption) (JU b) (by first|exact JU a|exact Lr a.symm) (.inl b)
 .have c0:0<NO V U:=hC y;let b:=o c0;let a:=L (E c.symm);exact fv (p:=2*l1 U) (q:=2*l2 U) (by assumption) (by assumption) (JU b) (by first|exact JU a|exact Lr a.symm) (.inl b)
 .have q:=W y j c (B y j) (A j c);let c0:0<NO V U:=hC y;let b:=o c0;let a:=u ();exact fv (p:=2*l1 U) (q:=2*l2 V) (by assumption) (by assumption) (JU b) (by first|exact JU a|exact Lr a.symm) (.inl b)
def vM{U V W:Wl}(a:NK U)(d:NK V)(b:NK W)(r:N1 U V)(s:N1 V W)(h:N1 U W)(i:max (l1 U) (l1 V)<min (l2 U) (l2 V))(j:max (l1 V) (l1 W)<min (l2 V) (l2 W))(f:max (l1 U) (l1 W)<min (l2 U) (l2 W))
 (h1:NQ U V=MC) (h2:NQ V W=MC):NQ U W=MC:=by
 let c:=gX.mp i
 let g:=gX.mp j
 let l:=gX.mp f
 obtain⟨t,⟨x1,m,o⟩,y1,p,q⟩:=xo #[c.1,c.2.1,l.2.1] #[c.2.2.1,c.2.2.2,g.2.1] #[l.2.2.1,g.2.2.1,g.2.2.2]
 let g1:=xN (t:=t) a d r i (Xy.mpr #[x1,m]) (Xz.mpr #[y1,p]) h1
 let u:=xN (t:=t) d b s j (Xy.mpr #[m,o]) (Xz.mpr #[p,q]) h2
 let v:0<lam U:=by have:=a.lt;unfold lam;omega
 let w:0<lam V:=by have:=d.lt;unfold lam;omega
 let x:0<lam W:=by have:=b.lt;unfold lam;omega
 let A:0<Gh U W t:=by
  refine gE (k:=lam V) w ?_
  let e:Gh U W t*lam V=lam U*Gh V W t+lam W*Gh U V t:=by unfold Gh;grind
  rw[e]
  exact Int.add_pos (JC v u) (JC x g1)
 cases z:NQ U W with
 |true=>rfl
 |false=>
  let n:=pO a b h f
  rw[z]at n
  let y:=xN (t:=t) b a h.swap (by rw[Int.max_comm,Int.min_comm];exact f) (Xy.mpr #[o,x1]) (Xz.mpr #[q,y1]) n
  rw[x9]at y
  omega
def xK{U:Wl}(a:NK U):NQ U U=MD:=by
 unfold NQ;split
 .rw[MF rfl,ME (),nL a a rfl];rfl
 .rfl
def jn{a b:Type}(f:a->b)(xs:List a)(j:Nat)(y:a):f6 (xs.map f) j (f y)=(f6 xs j y).map f:=by unfold f6;simp[List.map_take,List.map_drop]
def ik{a:Type}(xs:List a)(j:Nat)(y:a):(f6 xs j y).Perm (y::xs):=by
 unfold f6;let h:(xs.take j++y::xs.drop j).Perm (y::(xs.take j++xs.drop j)):=List.perm_middle
 rwa [LO]at h
theorem qc:∀ns:q_,KP (ns.map KH)<=10
 |[]=>NG rfl
 |n::ns=>by
  rw[Ji,KP]
  exact Nat.max_le.mpr #[NG rfl,qc ns]
def rj{ps:List Lw}(h1:KL ps=MC)(h2:KP ps<=10):L4 (.list ps)=MC:=by unfold L4;rw[Kp];refine #[by rw[Mj];exact h1,MI ?_];rw[PyData.depth];omega
theorem shaped_ints(ns:q_):L4 (.list (ns.map KH))=MC:=rj (lay_ints ns) (qc ns)
def qZ{b c:Type}(g:b->Option c):∀l:List b,(Jq l.length).filterMap (λi=>(l[i]?).bind g)=l.filterMap g:=by
 intro l
 induction l with
 |nil=>rfl
 |cons a l d=>
  rw[Jz,List.range_succ_eq_map,KG,KG,List.filterMap_map]
  let e:((λi=>((a::l)[i]?).bind g)∘Nat.succ)=λi=>(l[i]?).bind g:=by funext i;simp
  rw[e,d]
  simp
theorem hZ{b:Type}(p:b->Bool)(f:b->D):∀l:List b,l.filterMap (λk=>if p k=MC then MA (f k)else MB)=(l.filter p).map f
 |[]=>rfl
 |a::l=>by
  rw[KG,List.filter_cons]
  cases h:p a
  .simp[hZ p f l]
  .simp[hZ p f l]
def NH(ws:r8)(k:Int):Wl:=(ws[k.toNat]?).getD (0,0,0,0)
def aW{ws:r8}{k:Int}(h0:0<=k)(h1:k<ws.length):ws[k.toNat]?=MA (NH ws k)/\atI (ws.map uw) k=MA (uw (NH ws k))/\NH ws k∈ws:=by
 obtain⟨j,rfl⟩:∃j:Nat,k=(j:Int):=#[k.toNat,()];let a:j<ws.length:=()
 let e:NH ws (j:Int)=ws[j]:=by unfold NH;simp[a]
 refine #[by rw[e];simp[a],?_,by rw[e];exact Kj a];rw[e];exact bM (by simp[a])
def SS(q:Rat):Lw:=.tuple [.int q.num,.int (q.den:Int)]
def Rh(t b x y:Int)(w:Wl):Lw:=.tuple [.tuple [SS (MY t b x 1 w.1),SS (MY t b y 1 w.2.1)],.tuple [SS (MY t b x 1 w.2.2.1),SS (MY t b y 1 w.2.2.2)]]
def xm(t b x y:Int)(w:Wl):JS (Rh t b x y w) (Rh t b x y w)=MC:=by simp[Rh,SS,JS,Kt]
section
variable{X:Cx}{MP:p4}{σ:L2.St}{H:Hp}{s:J5}
def mK{h':pq}{t':Nat}{e it:pd}(I:Inv X MP σ H s)(k:∀b o,b≠e->b≠it->s.heap.get? b=MA o->h'.get? b=MA o)(g:cB X MP H e)(h:cB X MP H it):Inv X MP σ H { s with heap:=h',toks:=t' }:=by
 let[i,e1,_,e3,e4,j]:=g;let[l,f,_,p,t,w]:=h;let ne:∀b u,H b=MA u->b≠e/\b≠it:=λb u q=>#[λz=>(by rw[z,i]at q;cases q),λz=>(by rw[z,l]at q;cases q)];let d:∀{b:pd},b∉[e,it]->b≠e/\b≠it:=λ{b} a=>#[λz=>a (by simp[z]),λz=>a (by simp[z])];refine I.step (g':=s.gens) (d':=s.drawn) (ch:=[e,it]) (λb x=>?_) (λb o _ _ a q _=>k b o (d a).1 (d a).2 q) (λb o _ _ a q _=>#[o.slots,k b o (d a).1 (d a).2 q]) (λ_ _ _ _ n=>n) (λb o a q=>#[o,k b o (d a).1 (d a).2 q]) (λ_ _ q=>q) (λ_ _ _ q=>q) (λb ps q=>#[#[],by rw[q];simp]) (λm A=>?_) (λb u q=>?_) I.bare
 .rcases(show b=e\/b=it by simpa using x)with rfl|rfl
  .exact #[e3,e1,e4,j]
  .exact #[p,f,t,w]
 .obtain⟨o,B,C,D,r⟩:=A;exact #[o,B,C,k _ o (Ne.symm e1) (Ne.symm f) D,r]
 .refine(I.hok b u q).fJ (λc v a z=>?_) (λ_ z=>z) λ_ _ z=>z;rcases a with y|y
  .subst y;exact k _ v (ne _ u q).1 (ne _ u q).2 z
  .exact k c v (ne c _ y).1 (ne c _ y).2 z
end
theorem qW(c:Nat){prog:Ju}{w:JV}{A:JP}{it:pd}{fp:rp}{n:Nat}{P:Nat->J3->Prop}{St:Nat->pq->Prop}(D:Draws prog w A it fp n P St):Draws prog w A it fp (n+c) (λj x=>∃i,j=i+c/\P i x) (λj h=>∃i,j=i+c/\St i h) where
 live:=λj h a=>by
  let[i,_,st]:=a
  exact D.live i h st
 frame:=λj h b a k=>by
  let[i,e,st]:=a
  exact #[i,e,D.frame i h b st k]
 item:=λj s Q E m a f=>by
  let[i,e,st]:=a
  exact D.item i s Q E () st λx b g p d l=>f x b g #[i,e,p] #[i+1,(),d] l
 done:=λs Q E a hE=>by
  let[i,e,st]:=a
  obtain rfl:i=n:=()
  exact D.done s Q E st hE
theorem rF{prog:Ju}{w:JV}{A:JP}(b:A.handled=MB)(it l:pd)(c:l≠it)(items:Array J3){i:Nat}(hx:items[i]?=MB):Draws prog w A it [it,l] i (λ_ _=>False) (λj h=>j=i/\h.IsListIter it l i/\h.IsList l items) where
 live:=λ_ _ st=>by
  let[o,d,_]:=st.2.1
  exact #[o,d]
 frame:=λ_ _ _ st a=>#[st.1,st.2.1.at λo e=>a it (_) o e,st.2.2.at λo e=>a l (_) o e]
 item:=λj s Q E f st _=>absurd st.1 ()
 done:=λs Q E st hE=>wpAny_nextOf_list_end b st.2.1 st.2.2 hx hE
def YD(K:J1)(c:Nat)(a:pd):It:=
 #[λi H=>∃xs x,NX K H a xs/\xs[i]?=MA x,λi H x b=>∃T y,x=.ref T/\H T=MB/\b=upd H T (.tup [.int ((i+c:Nat):Int),y])/\∀xs,NX K H a xs->xs[i]?=MA y,λi H=>∃xs,NX K H a xs/\xs.length<=i]
def nX(c:Nat){P:Ju}{w:JV}{K:J1}{F:ro}{kt}{pt:Pos}(a e it:pd)(r:e≠it):Turn P w K (.Tuple F kt pt) (YD K c a) [e,it] e (λi h=>(∃g,IsEnum h e it ((i+c:Nat):Int) g)/\h.IsListIter it a i) where
 mem:=by simp
 obj:=λi h st b G=>by
  rcases(show b=e\/b=it by simpa using G)with rfl|rfl
  .obtain⟨⟨g,q⟩,_⟩:=st
   exact #[_,q,λv z=>by
    let z':Data.fields _=Data.cell v:=z
    cases z']
  .obtain⟨o,q,_,d⟩:=st.2
   exact #[o,q,λv z=>by rw[d]at z;cases z]
 keep:=λi h h' st k=>by
  obtain⟨⟨g,q⟩,st⟩:=st
  exact #[#[g,k e (_) _ q],st.at λo z=>k it (_) o z]
 item:=by
  intro X O Q R S i MP s σ H E I M st T
  subst O Q R
  let[xs,x,N,hx]:=T
  let[m,U,p,hz]:=I.list N
  let[u,hu,ru]:=U.get hx
  obtain⟨⟨g,t⟩,j⟩:=st
  let le:e<s.z:=Jm t
  let li:it<s.z:=by let[o,q,_]:=j;exact Jm q
  let y:a≠it:=λz=>by
   subst z
   let[o1,V,W,_]:=j
   let[o2,y1,B,_]:=p.isList
   rw[V]at y1;cases y1
   rw[W]at B;exact absurd (Mo.inj B) ⋯
  let Y:e≠a:=λz=>by
   subst z
   let[o2,y1,B,_]:=p.isList
   rw[show s.heap.get? e=_ from t]at y1;cases y1
   exact absurd (Mo.inj B) ⋯
  let C:X.A.in1.handled=MB:=I.ok.hd S
  let a0:i<m.length:=(J8.mp hu).1
  refine wpAny_pyNext_enum_itemD (i:=i+c) (qW c (Draws.list C it a y m.toArray)) t #[i,5,j,p.isList] (by simp;omega) r (by simp[r,Y]) λx0 h1 D l ho J hT b0 hk=>?_
  let[i0,c0,l]:=l
  obtain rfl:i=i0:=()
  let[i1,d0,L]:=J
  obtain rfl:i1=i+1:=()
  obtain rfl:u=x0:=by
   let l:m[i]?=MA x0:=‹l›
   rw[hu]at l;cases l;rfl
  refine #[7,wpAny_letOwnedTupleGo_enum (s:={ s with heap:=h1,toks:=D+1 }) ho λh2 Z n=>?_]
  let n:Lg e h1 h2:=n
  let fr:=I.fresh
  let I1:Inv X MP σ (upd H s.z (.tup [.int ((i+c:Nat):Int),x])) { s with heap:=s.heap.push { cls:=.type "tuple",data:=.seq (List.toArray [.int ((i+c:Nat):Int) D,u]) },toks:=s.toks }:=
   I.laid (λb v q=>J6 _ q) (Je _) #[NG rfl,[.int ((i+c:Nat):Int) D,u],.cons #[_,rfl] (.cons ru .nil),#[_,Jh _ rfl,5,7],#[_,Jh _ rfl,rfl]]
  let fk:∀{b:pd},b<s.z->cB X MP H b->cB X MP (upd H s.z (.tup [.int ((i+c:Nat):Int),x])) b:=λ{b} lt f=>#[by rw[aE (JF lt)];exact f.1,f.2]
  let fe:=fk le (M e (_))
  let fi:=fk li (M it (_))
  let I2:Inv X MP σ (upd H s.z (.tup [.int ((i+c:Nat):Int),x])) { s with heap:=h2,toks:=D+1 }:=by
   refine mK (s:={ s with heap:=s.heap.push { cls:=.type "tuple",data:=.seq (List.toArray [.int ((i+c:Nat):Int) D,u]) },toks:=s.toks }) I1 (λb o ne ni q=>?_) fe fi
   let q:(s.heap.push { cls:=.type "tuple",data:=.seq (List.toArray [.int ((i+c:Nat):Int) D,u]) }).get? b=MA o:=q
   refine(n.2 b ne).trans ?_
   rcases Heap.get?_push_cases q with⟨rfl,rfl⟩|q
   .exact hT
   .exact hk b o ne ni q
  refine #[.ref s.z,_,I2,5,#[_,x,5,fr,5,λys hy=>by rw[I.jm hy N];exact hx],#[#[u,?_],L.1.at λo z=>(n.2 it r.symm).trans z],λb G=>?_]
  .rw[show((i+1+c:Nat):Int)=((i+c:Nat):Int)+1 by omega];exact Z
  .rcases(show b=e\/b=it by simpa using G)with rfl|rfl
   .exact fe.1
   .exact fi.1
 done:=by
  intro X O Q R S i MP s σ H E I M st T
  subst O Q R
  let[xs,N,hx]:=T
  let[m,U,p,hz]:=I.list N
  obtain⟨⟨g,t⟩,j⟩:=st
  let[f0,f1,f2,f3,f4,f5]:=M it (_)
  let hl:=U.length
  let y:a≠it:=λz=>by
   subst z
   let[o1,V,W,_]:=j
   let[o2,y1,B,_]:=p.isList
   rw[V]at y1;cases y1
   rw[W]at B;exact absurd (Mo.inj B) ⋯
  let C:X.A.in1.handled=MB:=I.ok.hd S
  exact wpAny_pyNext_enum_endD (rF C it a y m.toArray (i:=i) (by simp;omega)) t #[5,j,p.isList] λh' eb=>#[5,I.turned (t':=s.toks) (λb o G q=>eb b o G q) f0 f1 f3 f4 f5]
 self:=λ_ _ _ _ _ st h=>let⟨⟨_,t⟩,_⟩:=st;wpAny_pyIter_enum t h
def fY:Kq "enumerate"=MA (.type "enumerate"):=by decide +kernel
section
variable{X:Cx}{elts:ro}{kt:Nat}{pt:Pos}
def GP(K:J1)(b:TA):TI:=λσ H R=>b σ H λvs H1=>∃a xs,vs=[.ref a]/\H1 a=MA (.lst xs)/\R (YD K 0 a) H1
def Ce{a:pv}{j:TA}{p pos:Pos}(m:Gl X "enumerate")(o:X.mg "enumerate"=MB)(t:PA X [a] j)(v:Jk [a] X.env=[(MD,eval a X.env)]:=by rfl):PI X (.Tuple elts kt pt) (.Call (.Name "enumerate" p) [a] [] pos) (GP X.K j):=by
 intro MP s σ H R I h;refine Call_ (gc I m o fY (KI (NJ (t pos MP s σ H _ I h) λus c d=>?_) v rfl));let[vs,H1,g,w,x]:=d;let[l,xs,y,A,q]:=x;subst y;let[u,5,B]:=w.one;cases B;let[z,C,n,r,G,e]:=g.oQ A;refine call_enumerate_1 e λJ k i D E=>wpAny_pyIter_enum k ?_
 let fp:∀b∈[c.z+1,c.z],cB X MP H1 b:=λb F=>by
  let f:c.z<=b:=by
   rcases(show b=c.z+1\/b=c.z by simpa using F)with rfl|rfl
   .exact Mn _
   .exact Je _
  exact g.oV f (g.hok.fresh f)
 exact #[_,[c.z+1,c.z],_,_,H1,5,g.kept (t':=c.toks) E,nX 0 l _ _ (Nat.succ_ne_self _),#[#[_,k],i],fp,q]
def uW(c:Nat){K:J1}{H1:Hp}{l:pd}{es:sg}:Xn K H1 #[es.length,λi=>(es[i]?).map λd=>.tup [.int ((i+c:Nat):Int),d],λM=>M l=MA (.lst es)] (YD K c l):=by
 refine #[λo f p b g=>?_,λi o f e p b g=>?_,?_]
 .obtain⟨a,h,j⟩:=b _ _ (show f l=MA (.lst es)from g);exact #[a,NX.of h,by rw[<-j.length];exact Je _]
 .obtain⟨a,h,j⟩:=b _ _ (show f l=MA (.lst es)from g);let k:i<a.length:=by rw[<-j.length];exact e
  exact #[a,a[i],NX.of h,by simp[k]]
 .rintro i o f v q e p b g ⟨T,y,rfl,m,rfl,h⟩;let e:i<es.length:=e;let[a,n,j]:=b _ _ (show f l=MA (.lst es)from g);let[x,e1,e2]:=j.get (show es[i]?=MA es[i] by simp[e]);have:=h a (NX.of n);rw[e1]at this;cases this;exact #[.new m,b.new m,.tup [.int ((i+c:Nat):Int),es[i]],by simp[e],by rw[Rep];exact #[T,7,NW.of aF,.cons (by rw[Rep]) (.cons (e2.mono (.new m)) .nil)]]
def Ga(c:N7):OL:=λδ M R=>c δ M λe b=>∃l a,e=[.ref l]/\b l=MA (.lst a)/\R #[a.length,λi=>(a[i]?).map λd=>.tup [.int (i:Int),d],λM=>M l=MA (.lst a)] b
theorem lB{a:pv}{d:N7}{p pos:Pos}(g:Gl X "enumerate")(h:X.mg "enumerate"=MB)(i:DA X [a] d)(b:Jk [a] X.env=[(MD,eval a X.env)]:=by rfl):DI X (.Tuple elts kt pt) (.Call (.Name "enumerate" p) [a] [] pos) (Ga d):=
 jW (Ce g h i b) λσ H R j=>by
  let[δ,M,u,b,k,q,c]:=j
  exact #[δ,M,_,b,k,q,λw m vs H1 g1 n f o=>by
   let[l,x,e,s,t]:=o
   subst e
   let[v,5,r]:=bP n
   rw[Rep]at r;subst r
   let[xs,hx,y]:=f _ _ s
   exact #[l,xs,5,hx,c _ m H1 _ g1 f t (uW 0)]]
end
end SD
namespace HT
open PySem PyProof.Rows
section
open PySem.SeqAt
open PySem.AutoSeq1 (wpAny_loadPart')
open PySem.MeetsSeq PySem.MeetsSeq2 PySem.MeetsSeq3
theorem mO(l:pd)(items:Array J3)(n:Nat)(r:Option pd)(t:Array (Option J3))(x:J3)(j:Nat)(z:j<items.size) :
 Meets (LM.«tuple.index» #[[.ref l,x],[]]) λA R s=>s.heap.get? l=MA { cls:=.type "tuple",dict:=r,data:=.seq items n,slots:=t }/\(∀(i:Nat)(B:i<items.size),i<=j->EqAt A.in1 s items[i] x (decide (i=j)))/\R (.ok (.ret (.int (j:Int) s.toks))) { s with toks:=s.toks+1 }:=
 .of_wp λprog w A R s h=>by
  let[u,g,d,v,os]:=s;let[y,k,h]:=h
  unfold LM.«tuple.index»
  simp only[Std.Legacy.Range.forIn_eq_forIn_range']
  wp_walk using Kb y,wpAny_forIn_list _ (λc b o=>b=(MB,.unit)/\o=#[u,g,d,v,os]/\∃m,m<=j/\c=JN m (items.size-m) 1) _
  case turn=>
   rintro a c b o ⟨rfl,rfl,m,q,e⟩
   let p:items.size-m=(items.size-m-1)+1:=()
   rw[p,List.range'_succ]at e
   injection e with h1 h2
   subst h1 h2
   let f:a<items.size:=()
   rw[Array.getElem?_eq_getElem f]
   refine J0 (k a f q prog w _ _ ?_)
   by_cases e1:a=j
   .subst e1
    rw[MI rfl]
    wp_walk
    exact #[7,h]
   .rw[MG e1]
    wp_walk
    exact #[5,5,a+1,(),by rw[show items.size-a-1=items.size-(a+1) by omega]]
  case fin=>
   rintro b o ⟨rfl,rfl,m,q,e⟩
   let p:items.size-m=(items.size-m-1)+1:=()
   rw[p,List.range'_succ]at e
   cases e
  exact #[5,5,0,(),by simp[Std.Legacy.Range.size]]
end
end HT
namespace SD
open PySem PySem.Spec PyProof.Rows L2
section
variable{X:Cx}
def FF(to:TD)(t:N7):TD:=λδ M Q=>to δ M λx c=>∃a,x=.tup a/\t δ c λe b=>∃d p,∃j:Nat,e=[d]/\j<a.length/\Pd b d p/\L4 p=MC/\
 (∀(i:Nat)(y:D),i<=j->a[i]?=MA y->∃q,Pd b y q/\Mj q=MC/\JS q p=decide (i=j))/\Q (.int (j:Int)) b
def GN(K:J1):V->r4->Hp->VK->Prop:=λx vs H Q=>∃a b M v d p,∃j:Nat,x=.ref a/\vs=[v]/\NM K H M/\Rep K H (.tup b) x/\Rep K H d v/\j<b.length/\Pd M d p/\L4 p=MC/\
 (∀(i:Nat)(y:D),i<=j->b[i]?=MA y->∃q,Pd M y q/\Mj q=MC/\JS q p=decide (i=j))/\Q (.int (j:Int)) H
def D2(Y:X.A.units+66<Kh):Zr X "tuple.index" (GN X.K):=by
 intro MP s σ H x vs v us Q I y z B;let[a,l,M,Z,d,p,j,ex,C,u,hx,hd,D,E,f,g,q]:=B;subst ex C;cases y;let[G,5,J]:=z.one;rw[Rep]at hx;let[a',xs,ea,L,w]:=hx;cases ea;obtain⟨c,h,⟨o,h1,h2,n,N⟩,hz⟩:=I.tuple L;let[as,O]:=bw I u E hd J;let b:c.length=l.length:=by rw[<-h.length,w.length]
 let[oc,od,P,osl]:=o;cases h2;cases N;refine call_meets PySem.F.slot_tuple_index #[_,h1,rfl] PySem.F.entry_tuple_index (PySem.F.args_tuple_index_2 _ _) (HT.mO a c.toArray n od osl G j (by simpa[b]using D)) #[h1,λi R m=>?_,?_]
 .have k:i<l.length:=by simpa[b]using R
  let[S,g1,T,U]:=g i l[i] m (J7 k);let[x1,e1,r]:=w.get (J7 k);let[V,e2,t]:=h.get e1;let[bs,W]:=bw I u g1 r t
  let e3:c.toArray[i]=V:=by
   have:=J8.mp e2
   let[_,e]:=this
   simpa using e
  rw[e3,<-U];let hm:min S.depth p.depth<=63+1:=JT (Nat.min_le_right _ _) (SeqAt.depth_of_shaped f);exact PySem.SeqAt.eqAt_reads _ _ _ _ _ _ _ _ W O T (Li f) (by show X.A.units+1+_<Kh;omega)
 .exact #[.int _,H,I.tok _,#[_,rfl],q]
def Fn{o e1:pv}{to:TE}{t:TA}{c d:Pos}(r:X.A.units+66<Kh)(u:PE X o to)(w:PA X [e1] t)
 (f:Lf o "index" X.env (eval o X.env)=eval o X.env)
 (k:((Kr d (Jk [e1] X.env)).all (λx=>!x.1)&&(Mf d (Lb [] X.env)).all (λx=>x.1.isSome)
  && decide ([e1].length+([]:List Mp).length+(if([]:List Mp).isEmpty then 0 else 1)<30))=MC)
 (g:(c.endLine==d.line)=MC) (y:Jk [e1] X.env=(MD,eval e1 X.env)::Jk [] X.env) (b:(Kr d (Jk [] X.env)).any (·.1)=MD) :
 PE X (.Call (.Attribute o "index" c) [e1] [] d) (λσ H Q=>to σ H λx H1=>(∃p xs,x=.ref p/\NW X.K H1 p xs)/\t σ H1 λvs l=>GN X.K x vs l Q):=by
 intro MP s σ H Q I h
 refine wpAny_Call_method_late f k g rfl (NJ (u MP s σ H _ I h) λv z i=>?_)
 obtain⟨x,H1,m,B,⟨p,xs,ex,n⟩,C⟩:=i
 subst ex
 cases B
 obtain⟨D,_,⟨E,g1,G,_⟩,_⟩:=m.tuple n
 let[J,L,M]:=m.EY n
 refine #["tuple","tuple.index",PySem.F.plainAttrs_tuple,PySem.F.slot_tuple_index,PySem.F.type_tuple_index,#[E,g1,G],λa e=>by cases e;exact #[J,L,M],?_]
 let q:=w d MP z σ H1 _ m C
 rw[y]at q ⊢
 refine Calls.callWith_builtin (by show(MD||(Kr d (Jk [] X.env)).any (·.1))=MD;rw[b]<;>rfl) (Calls.evalArgs_plain ?_)
 exact NJ q λus N j=>by let[vs,l,O,P,R]:=j;exact(D2 r MP N σ l (.ref p) vs (.ref p) us Q O rfl P R)
variable{o e1:pv}{to:TD}{t:N7}{apos MT:Pos}
theorem sC(y:X.A.units+66<Kh)(z:DE X o to)(B:DA X [e1] t)
 (c:Lf o "index" X.env (eval o X.env)=eval o X.env:=by rfl)
 (h:((Kr MT (Jk [e1] X.env)).all (λx=>!x.1)&&(Mf MT (Lb [] X.env)).all (λx=>x.1.isSome)
  && decide ([e1].length+([]:List Mp).length+(if([]:List Mp).isEmpty then 0 else 1)<30))=MC:=by rfl)
 (e:(apos.endLine==MT.line)=MC:=by rfl) (C:Jk [e1] X.env=(MD,eval e1 X.env)::Jk [] X.env:=by rfl) (b:(Kr MT (Jk [] X.env)).any (·.1)=MD:=by rfl) :
 DE X (.Call (.Attribute o "index" apos) [e1] [] MT) (FF to t):=
 aX (Fn y z B c h e C b) λσ H Q ⟨δ,M,R,i,D,q,l⟩=>by
  refine #[δ,M,_,i,D,q,λx E v H1 g1 m F f=>?_]
  let[G,ex,I]:=f
  subst ex
  let n:=m
  rw[Rep]at m
  let[a,xs,5,J,U]:=m
  refine #[#[a,xs,5,J],δ,E,_,i.mono g1,F,I,λV K us W u L w g=>?_]
  let[d,p,j,N,O,P,r,k,S]:=g
  subst N
  let[T,5,s]:=bP L
  exact #[a,G,K,T,d,p,j,5,5,w,n.mono u,s,O,P,r,k,l _ _ _ _ (g1.trans u) (by rw[Rep]) w S]
def FE(te:TD):Nh:=λδ M Q=>te δ M λx a=>∃l xs,x=.ref l/\a l=MA (.lst xs)/\Q (!xs.isEmpty) a
theorem C6{e:pv}{te:TD}(g:DE X e te)(hw:∀a,isTrue e X.env a=(do let v <-a;standAt e.pos;holding [v] (truthy v)):=by intro _;rfl):DT X e (FE te):=
 jC (xJ g hw) λσ H Q ⟨δ,M,R,h,i,q,b⟩=>#[δ,M,_,h,i,q,λx p v H1 g1 d f ⟨l,xs,ex,j,k⟩=>by
  subst ex
  rw[Rep]at d;subst d
  let[c,m,n]:=f _ _ j
  exists _,.inl #[c,NX.of m,rfl]
  let e:c.isEmpty=xs.isEmpty:=by
   have:=n.length
   cases xs<;>cases c<;>simp at this ⊢
  rw[e]
  exact b _ _ _ g1 f k]
end
section
open PySem.AutoSeq1 (wpAny_loadPart')
variable{prog:Ju}{w:JV}{A:JP}{E:J3->J5->Prop}{s:J5}
def sN{it t:pd}{i:Nat}{items}{x:J3}{Q:J3->J5->Prop}(a:s.heap.IsTupleIter it t i)(e:s.heap.IsTuple t items)(hx:items[i]?=MA x)
 (f:∀h',h'.IsTupleIter it t (i+1)->Lg it s.heap h'->Q x { s with heap:=h' }):Jj (Jn prog w) A (Builtin.SmallTypes.nextOf (.ref it)) Q E s:=by
 let[o,b,g,hd]:=id a
 let[h,c,_,j,d]:=e
 unfold Builtin.SmallTypes.nextOf
 refine J0 (Ly (name:=Ks "__next__") a.typeIs LL (Lo LL a.typeIs F.entry_tuple_iterator_next ?_ (F.args_tuple_iterator_next_1 _)))
 show Jj _ _ (field (.ref it) 0 >>= _) _ _ s
 refine J0 (wpAny_field b hd (x:=.ref t) rfl ?_)
 show Jj _ _ (if(Kd t==L7)=MC then _ else _) _ _ s
 rw[ME (show ¬((Kd t==L7)=MC)from Js)]
 show Jj _ _ (field (.ref it) 1 >>= _) _ _ s
 refine J0 (wpAny_field b hd (x:=.int i 0) rfl ?_)
 show Jj _ _ (seqItems? (.ref t) >>= _) _ _ s
 refine J0 (Mi c d ?_)
 simp only[Kl,hx]
 refine J0 (wpAny_setField b hd (_) (J9 #[x,5,J9 (f _ ?_ (Ko ..))]))
 exact #[_,Lm _ b (Obj.isFreed_of_fields (Obj.data_mapFields hd _)),(Obj.cls_mapFields ..).trans g,by
  rw[Obj.data_mapFields hd];simp[Md]]
def vH{it t:pd}{i:Nat}{items}{Q:J3->J5->Prop}(g:A.handled=MB)(b:s.heap.IsTupleIter it t i)(h:s.heap.IsTuple t items)(hx:items[i]?=MB)
 (hE:∀h' e,Heap.ExtBut it s.heap h'->(∃o,h'.get? e=MA o/\o.cls=.type "StopIteration")->E (.ref e) { s with heap:=h' }):Jj (Jn prog w) A (Builtin.SmallTypes.nextOf (.ref it)) Q E s:=by
 let[o,c,j,hd]:=id b
 let[k,d,_,l,f]:=h
 unfold Builtin.SmallTypes.nextOf
 refine J0 (Ly (name:=Ks "__next__") b.typeIs LL (Lo LL b.typeIs F.entry_tuple_iterator_next ?_ (F.args_tuple_iterator_next_1 _)))
 show Jj _ _ (field (.ref it) 0 >>= _) _ _ s
 refine J0 (wpAny_field c hd (x:=.ref t) rfl ?_)
 show Jj _ _ (if(Kd t==L7)=MC then _ else _) _ _ s
 rw[ME (show ¬((Kd t==L7)=MC)from Js)]
 show Jj _ _ (field (.ref it) 1 >>= _) _ _ s
 refine J0 (wpAny_field c hd (x:=.int i 0) rfl ?_)
 show Jj _ _ (seqItems? (.ref t) >>= _) _ _ s
 refine J0 (Mi d f ?_)
 simp only[Kl,hx]
 refine J0 (wpAny_rule (J0 (wpAny_setField c hd (_) ?_)))
 show Jj _ _ (newExc (.type "StopIteration") [] >>= _) _ _ _
 refine J0 ?_
 simp only[newExc,newTuple]
 refine J0 (K9 ?_ (by size_fits))
 refine J0 (m:=firstArgMember _ _) (wpAny_of_eq (a:=L7) (by first|rfl|(simp only[firstArgMember];rfl)) ?_)
 refine K9 ?_ (by size_fits)
 simp only[raiseNew]
 refine J0 (wpAny_handled ?_)
 first|rw[show A.in1.handled=MB from g]|rw[g]
 refine J0 (J9 (wpAny_throw ?_))
 exact hE _ _ (((Ko ..).extBut.push _).push _) #[_,Jh _ rfl,rfl]
theorem zw(k:A.handled=MB)(it t:pd)(c:t≠it)(items:Array J3):Draws prog w A it [it,t] items.size (λi v=>items[i]?=MA v) (λi h=>h.IsTupleIter it t i/\h.IsTuple t items) where
 live:=λ_ _ st=>let⟨o,d,_⟩:=st.1;#[o,d]
 frame:=λ_ _ _ st f=>by
  obtain⟨⟨o,d,r⟩,⟨g,e,l⟩⟩:=st
  exact #[#[o,f it (_) o d,r],#[g,f t (_) g e,l]]
 item:=λi s Q E j st m=>by
  refine sN st.1 st.2 (x:=items[i]) (by simp[j]) λn a b=>?_
  exact m _ n s.toks (by simp[j]) #[a,st.2.extBut b.extBut c] b
 done:=λs Q E st hE=>vH k st.1 st.2 (_) hE
theorem vF(l:pd)(items:Array J3)(n:Nat)(b:Option pd)(i:Array (Option J3)) :
 Meets (LM.«enumerate.__new__» #[[.type "enumerate",.ref l],[]]) (λ_ R s=>s.heap.get? l=MA { cls:=.type "tuple",dict:=b,data:=.seq items n,slots:=i }/\
  R (.ok (.ret (.ref (s.heap.push { cls:=.type "tuple_iterator",data:=.fields (List.toArray [.ref l,.int 0 0]) }).objs.size)))
    { s with heap:=(s.heap.push { cls:=.type "tuple_iterator",data:=.fields (List.toArray [.ref l,.int 0 0]) }).push { cls:=.type "enumerate",data:=.fields (List.toArray [.none,.bool MD,.ref s.z,Md 0,.none,.none]) } }):=
 .of_wp λprog w A R s h=>by
  let[j,g,d,k,os]:=s;let[a,h]:=h
  let f:=sub_enumerate
  let e:Heap.IsTuple (Shared.heap #[j,g,d,k,os]) l items:=#[_,a,5,n,rfl]
  wp_walk using Kb a
  refine wpAny_stack_any λst=>J9 ?_
  split
  .rename_i c _ _ _ _ _
   cases (c==Mo "enumerate")
   .wp_walk using Kb a,wpAny_pyIter_tuple e
    exact #[7,h]
   .wp_walk using Kb a,wpAny_pyIter_tuple e
    exact #[7,h]
  .wp_walk using Kb a,wpAny_pyIter_tuple e
   exact #[7,h]
def tI{l:pd}{items:Array J3}{Q:J3->J5->Prop}(g:s.heap.IsTuple l items)
 (h:∀h',IsEnum h' (s.z+1) s.z 0 .none->h'.IsTupleIter s.z l 0->(∀b o,s.heap.get? b=MA o->h'.get? b=MA o)->Q (.ref (s.z+1)) { s with heap:=h' }) :
 Jj (Jn prog w) A (call (.type "enumerate") [.ref l]) Q E s:=by
 obtain⟨⟨c,a,i,j⟩,k,d,n,hd⟩:=g
 replace d:c=.type "tuple":=d
 replace hd:i=.seq items n:=hd
 subst d hd
 refine callType_new F.called_enumerate ⋯ (F.typeCall_enumerate_1 _) (F.newCall_enumerate_1 _) (λobj=>F.args_object_init_2 obj _) F.entry_enumerate_new (vF l items n a j) #[k,?_]
 let e:(s.heap.push { cls:=.type "tuple_iterator",data:=.fields (List.toArray [.ref l,.int 0 0]) }).objs.size=s.z+1:=Kz ..
 show _/\_
 rw[e]
 let f:IsEnum ((s.heap.push { cls:=.type "tuple_iterator",data:=.fields (List.toArray [.ref l,.int 0 0]) }).push { cls:=.type "enumerate",data:=.fields (List.toArray [.none,.bool MD,.ref s.z,Md 0,.none,.none]) }) (s.z+1) s.z 0 .none:=by
  have:=Jh (s.heap.push { cls:=.type "tuple_iterator",data:=.fields (List.toArray [.ref l,.int 0 0]) }) (o:={ cls:=.type "enumerate",data:=.fields (List.toArray [.none,.bool MD,.ref s.z,Md 0,.none,.none]) }) rfl
  rw[e]at this;exact this
 exact #[#[_,f,rfl],h _ f #[_,J6 _ (Jh _ rfl),5,rfl] λb o x=>J6 _ (J6 _ x)]
end
def Hr(K:J1)(a:pd):It:=
 #[λi H=>∃xs x,NW K H a xs/\xs[i]?=MA x,λi H x b=>∃T y,x=.ref T/\H T=MB/\b=upd H T (.tup [.int (i:Int),y])/\∀xs,NW K H a xs->xs[i]?=MA y,λi H=>∃xs,NW K H a xs/\xs.length=i]
def sS{P:Ju}{w:JV}{K:J1}{G:ro}{kt}{pt:Pos}(a e it:pd)(t:e≠it):Turn P w K (.Tuple G kt pt) (Hr K a) [e,it] e (λi h=>(∃j,IsEnum h e it (i:Int) j)/\h.IsTupleIter it a i) where
 mem:=by simp
 obj:=λi h st b J=>by
  rcases(show b=e\/b=it by simpa using J)with rfl|rfl
  .obtain⟨⟨j,q⟩,_⟩:=st
   exact #[_,q,λv z=>by
    let z':Data.fields _=Data.cell v:=z
    cases z']
  .obtain⟨o,q,c,d⟩:=st.2
   exact #[o,q,λv z=>by rw[d]at z;cases z]
 keep:=λi h h' st k=>by
  obtain⟨⟨j,q⟩,⟨o,R,r⟩⟩:=st
  exact #[#[j,k e (_) _ q],#[o,k it (_) o R,r]]
 item:=by
  intro X S T U V i MP s σ H E I O st W
  subst S T U
  let[xs,x,Q,hx]:=W
  let[g,Y,p,hz]:=I.tuple Q
  let[u,hu,ru]:=Y.get hx
  obtain⟨⟨j,y⟩,l⟩:=st
  let p:s.heap.IsTuple a g.toArray:=p
  let le:e<s.z:=Jm y
  let li:it<s.z:=by let[o,q,_]:=l;exact Jm q
  let B:a≠it:=λz=>by
   subst z
   let[o1,L,M,_]:=l
   let[o2,y1,C,_]:=p
   rw[L]at y1;cases y1
   rw[M]at C;exact absurd (Mo.inj C) ⋯
  let Z:e≠a:=λz=>by
   subst z
   let[o2,y1,C,_]:=p
   rw[show s.heap.get? e=_ from y]at y1;cases y1
   exact absurd (Mo.inj C) ⋯
  let D:X.A.in1.handled=MB:=I.ok.hd V
  let b0:i<g.length:=(J8.mp hu).1
  refine wpAny_pyNext_enum_itemD (zw D it a B g.toArray) y #[l,p] (by simp;omega) t (by simp[t,Z]) λx0 h1 F m R N hT c0 hk=>?_
  obtain rfl:u=x0:=by
   let m:g[i]?=MA x0:=‹m›
   rw[hu]at m;cases m;rfl
  refine #[7,wpAny_letOwnedTupleGo_enum (s:={ s with heap:=h1,toks:=F+1 }) R λh2 a0 n=>?_]
  let n:Lg e h1 h2:=n
  let fr:=I.fresh
  let I1:Inv X MP σ (upd H s.z (.tup [.int (i:Int),x])) { s with heap:=s.heap.push { cls:=.type "tuple",data:=.seq (List.toArray [.int (i:Int) F,u]) },toks:=s.toks }:=
   I.laid (λb v q=>J6 _ q) (Je _) #[NG rfl,[.int (i:Int) F,u],.cons #[_,rfl] (.cons ru .nil),#[_,Jh _ rfl,5,7],#[_,Jh _ rfl,rfl]]
  let fk:∀{b:pd},b<s.z->cB X MP H b->cB X MP (upd H s.z (.tup [.int (i:Int),x])) b:=λ{b} lt f=>#[by rw[aE (JF lt)];exact f.1,f.2]
  let fe:=fk le (O e (_))
  let fi:=fk li (O it (_))
  let I2:Inv X MP σ (upd H s.z (.tup [.int (i:Int),x])) { s with heap:=h2,toks:=F+1 }:=by
   refine mK (s:={ s with heap:=s.heap.push { cls:=.type "tuple",data:=.seq (List.toArray [.int (i:Int) F,u]) },toks:=s.toks }) I1 (λb o ne ni q=>?_) fe fi
   let q:(s.heap.push { cls:=.type "tuple",data:=.seq (List.toArray [.int (i:Int) F,u]) }).get? b=MA o:=q
   refine(n.2 b ne).trans ?_
   rcases Heap.get?_push_cases q with⟨rfl,rfl⟩|q
   .exact hT
   .exact hk b o ne ni q
  obtain⟨⟨oi,L,M⟩,_⟩:=N
  refine #[.ref s.z,_,I2,5,#[_,x,5,fr,5,λys hy=>by rw[I.nD hy Q];exact hx],#[#[u,?_],#[oi,(n.2 it t.symm).trans L,M]],λb J=>?_]
  .have:(((i+1:Nat):Int))=(i:Int)+1:=()
   rw[this];exact a0
  .rcases(show b=e\/b=it by simpa using J)with rfl|rfl
   .exact fe.1
   .exact fi.1
 done:=by
  intro X S T U V i MP s σ H E I O st W
  subst S T U
  let[xs,Q,hx]:=W
  let[g,Y,p,hz]:=I.tuple Q
  let p:s.heap.IsTuple a g.toArray:=p
  obtain⟨⟨j,y⟩,l⟩:=st
  let[f0,f1,f2,f3,f4,f5]:=O it (_)
  let hl:=Y.length
  let B:a≠it:=λz=>by
   subst z
   let[o1,L,M,_]:=l
   let[o2,y1,C,_]:=p
   rw[L]at y1;cases y1
   rw[M]at C;exact absurd (Mo.inj C) ⋯
  let D:X.A.in1.handled=MB:=I.ok.hd V
  let ei:g.toArray.size=i:=by simp;omega
  exact wpAny_pyNext_enum_endD (zw D it a B g.toArray) y #[by rw[ei];exact l,p] λh' eb=>#[5,I.turned (t':=s.toks) (λb o J q=>eb b o J q) f0 f1 f3 f4 f5]
 self:=λ_ _ _ _ _ st h=>let⟨⟨_,y⟩,_⟩:=st;wpAny_pyIter_enum y h
section
variable{X:Cx}{elts:ro}{kt:Nat}{pt:Pos}
def Dg(K:J1)(b:TA):TI:=λσ H R=>b σ H λvs H1=>∃a xs,vs=[.ref a]/\NW K H1 a xs/\R (Hr K a) H1
def Aj{a:pv}{j:TA}{p pos:Pos}(m:Gl X "enumerate")(n:X.mg "enumerate"=MB)(o:PA X [a] j)(r:Jk [a] X.env=[(MD,eval a X.env)]:=by rfl):PI X (.Tuple elts kt pt) (.Call (.Name "enumerate" p) [a] [] pos) (Dg X.K j):=by
 intro MP s σ H R I h;refine Call_ (gc I m n fY (KI (NJ (o pos MP s σ H _ I h) λus c d=>?_) r rfl));let[vs,H1,f,t,v]:=d;let[l,xs,w,x,q]:=v;subst w;let[u,5,y]:=t.one;cases y;let[g,B,pt,C]:=f.tuple x;refine tI (show c.heap.IsTuple l g.toArray from pt) λD k i z=>wpAny_pyIter_enum k ?_
 let fp:∀b∈[c.z+1,c.z],cB X MP H1 b:=λb A=>by
  let e:c.z<=b:=by
   rcases(show b=c.z+1\/b=c.z by simpa using A)with rfl|rfl
   .exact Mn _
   .exact Je _
  exact f.oV e (f.hok.fresh e)
 exact #[_,[c.z+1,c.z],_,_,H1,5,f.kept (t':=c.toks) z,sS l _ _ (Nat.succ_ne_self _),#[#[_,k],i],fp,q]
def D6(b:N7):OL:=λδ M R=>b δ M λc e=>∃a,c=[.tup a]/\R #[a.length,λi=>(a[i]?).map λd=>.tup [.int (i:Int),d],λ_=>True] e
theorem yZ{a:pv}{n:N7}{p pos:Pos}(w:Gl X "enumerate")(z:X.mg "enumerate"=MB)(A:DA X [a] n)(f:Jk [a] X.env=[(MD,eval a X.env)]:=by rfl):DI X (.Tuple elts kt pt) (.Call (.Name "enumerate" p) [a] [] pos) (D6 n):=
 jW (Aj w z A f) λσ H R B=>by
  let[δ,M,K,f,C,q,g]:=B
  exact #[δ,M,_,f,C,q,λL D vs H1 g1 E F G=>by
   let[d,e,I]:=G
   subst e
   let[v,5,r]:=bP E
   rw[Rep]at r
   let[l,xs,5,hx,h]:=r
   refine #[l,xs,5,hx,g _ D H1 _ g1 F I #[λo s b j u=>#[xs,b.t _ _ hx,h.length.symm],λi o s c b j u=>?_,?_]]
   .have k:i<xs.length:=by rw[<-h.length];exact c
    exact #[xs,xs[i],b.t _ _ hx,by simp[k]]
   .rintro i o s v N c b j u ⟨T,y,rfl,m,rfl,J⟩
    let c:i<d.length:=c
    let[x,e1,e2]:=(h.mono b).get (show d[i]?=MA d[i] by simp[c])
    have:=J xs (b.t _ _ hx)
    rw[e1]at this;cases this
    exact #[.new m,j.new m,.tup [.int (i:Int),d[i]],by simp[c],by rw[Rep];exact #[T,7,NW.of aF,.cons (by rw[Rep]) (.cons (e2.mono (.new m)) .nil)]]]
end
open PySem PySem.W PySem.Spec PySem.Calls PyProof.Rows Builtin Builtin.ObjectAttr Builtin.Getset_descriptor
section
variable{P:Ju}{w:JV}{K:J1}{mg:Str->Option J3}{base:pq}{N:rq}{qual:Str}{scope:L9}{f:pd}{cd:J3}{A:JP}{outer:List Env}{s:J5}{H:Hp}{E:XK}
end
def nV(s:pe)(i:Nat):pe:=match s with
 |.ClassDef _ _ _ b _ _ _ _ _ _ _=>b.getD i (.Pass #[0,0,0,0])
 |_=>.Pass #[0,0,0,0]
def cl(K:J1)(x:Str):pd:=match LG K K6 x with
 |some (MA (.ref C))=>C
 |_=>0
section
variable{K:J1}{x y:Str}{C D:pd}{b:Bool}
def uJ(a:LG K K6 x=MA (MA (.ref C))):cl K x=C:=by unfold cl;rw[a]
end
abbrev N3:=Int×Int×Int×Int
section
variable{P:Ju}{w:JV}
def rZ(P:Ju)(w:JV)(h:pq)(n d:Int)(a:pd):Prop:=IsTupleKey (intKind P w) h [n,d] a
def gH(P:Ju)(w:JV)(h:pq)(k:N3)(a:pd):Prop:=∃o b c m,h.get? a=MA o/\o.cls=.type "tuple"/\o.data=.seq (List.toArray [.ref b,.ref c]) m/\rZ P w h k.1 k.2.1 b/\rZ P w h k.2.2.1 k.2.2.2 c
def gH.inj{h:pq}{a:pd}{x y:N3}(p:gH P w h x a)(q:gH P w h y a):x=y:=by
 let[o,b,c,m,h1,h2,i,j,k]:=p;let[t,l,n,u,g1,v,d,r,s]:=q;rw[h1]at g1;cases g1;rw[i]at d;injection d with e _;let e1:b=l/\c=n:=‹e›
 let[5,5]:=e1;let f:=IsTupleKey.inj j r;let g:=IsTupleKey.inj k s;let[x1,z,A,B]:=x;let[y1,C,D,E]:=y;simp at f g;let[5,5]:=f;let[5,5]:=g;rfl
def gH.keeps{h h':pq}{k:N3}{a d:pd}{o:Obj}{es:Array Kk}{ep:Nat}(p:gH P w h k a)(hd:h.get? d=MA o)(e:o.data=.dict es ep)(f:Lg d h h'):gH P w h' k a:=by
 let[i,b,c,m,h1,h2,g,j,l]:=p;let ne:a≠d:=λz=>by rw[z,hd]at h1;cases h1;rw[e]at g;cases g
 exact #[i,b,c,m,(f.2 a ne).trans h1,h2,g,IsTupleKey.keeps j hd e f,IsTupleKey.keeps l hd e f]
def zV(P:Ju)(w:JV)(k:N3):Int:=reduceHash (Builtin.Tuple.tupleHashOf [tupleKeyHash (intKind P w) [k.1,k.2.1],tupleKeyHash (intKind P w) [k.2.2.1,k.2.2.2]])
def gH.hash{A:JP}{E:J3->J5->Prop}{s:J5}{k:N3}{a:pd}{Q:Int->J5->Prop}(i:A.units+4<Kh)(p:gH P w s.heap k a)(q:Q (zV P w k) { s with toks:=s.toks+7 }):Jj (Jn P w) A (pyHash (.ref a)) Q E s:=by
 let[o,b,c,m,h1,h2,e,f,h]:=p;let[j,g,d,l,os]:=s;show Jj _ _ (pyHashByItsType (.ref a)) _ _ _;refine PySem.W.pyHash_slot (T:="tuple") #[o,h1,h2] F.slot_tuple_hash F.entry_tuple_hash (F.args_tuple_hash_1 _) rfl (.inr ()) ?_;unfold LM.«tuple.__hash__»;simp only[<-Array.forIn_toList]
 iterate 4 wp_step
 refine J9 ?_;refine J0 (wpAny_tupleItemsOf h1 e ?_);refine J0 ?_;simp only[List.forIn_cons,List.forIn_nil,pure_bind,bind_assoc];refine J0 (wpAny_pyHash_tuple (knd:=intKind P w) (by show A.units+1<Kh;omega) f ?_);refine J0 (wpAny_pyHash_tuple (knd:=intKind P w) (by show A.units+1<Kh;omega) h ?_);refine J9 ?_;unfold retInt
 wp_walk
 exact #[_,7,q]
def jj{n:Int}{v:J3}(h:(intKind P w).is n v=MC):∃t,v=.int n t:=by
 let h:Value.isInt n v=MC:=h;cases v with
 |int i t=>
  have:(i==n)=MC:=h
  exact #[t,by rw[eq_of_beq this]]
 |_=>cases h
def AK(n d:Int):Lw:=.tuple [.int n,.int d]
def qX(k:N3):Lw:=.tuple [AK k.1 k.2.1,AK k.2.2.1 k.2.2.2]
def rZ.reads{h:pq}{n d:Int}{a:pd}(p:rZ P w h n d a):∃e,Reads h (.ref a) (AK n d) e:=by
 let[o,b,m,h1,h2,f,c]:=p;generalize g:b.toList=l at c;cases c with
 |cons hx r=>
  cases r with
  |cons i r=>
   cases r
   let[t1,5]:=jj hx
   let[j,5]:=jj i
   exact #[_,.tuple h1 h2 f (by rw[g];exact .cons (.int _ _) (.cons (.int _ _) .nil))]
def gH.reads{h:pq}{k:N3}{a:pd}(p:gH P w h k a):∃d,Reads h (.ref a) (qX k) d:=by let[o,b,c,m,h1,h2,e,f,g]:=p;let[d,i]:=f.reads;let[bs,j]:=g.reads;exact #[_,.tuple h1 h2 e (.cons i (.cons j .nil))]
def zh(x y:N3):(qX x).eqv (qX y)=decide (x=y):=by let[x1,a,b,c]:=x;let[y1,d,e,f]:=y;simp only[qX,AK,JS,Kt,Bool.and_true];rw[Bool.eq_iff_iff];simp[and_assoc]
def gH.eq{A:JP}{E:J3->J5->Prop}{s:J5}{x y:N3}{a b:pd}{Q:Bool->J5->Prop}(g:A.units+4<Kh)(p:gH P w s.heap x a)(c:gH P w s.heap y b)(q:Q (decide (x=y)) s):Jj (Jn P w) A (eqBool (.ref a) (.ref b)) Q E s:=by let[d,e]:=p.reads;let[bs,f]:=c.reads;let hd:min (qX x).depth (qX y).depth<=3:=JT (Nat.min_le_left _ _) (NG rfl);have:=SeqAt.eqAt_reads (qX x) (qX y) A s (.ref a) (.ref b) d bs e f rfl rfl ();rw[zh]at this;exact this P w E Q q
def rZ.quiet{A:JP}{E:J3->J5->Prop}{s:J5}{n d:Int}{a:pd}{Q:Bool->J5->Prop}(i:Nat)(p:rZ P w s.heap n d a)(q:Q MC s):Jj (Jn P w) A (eqIsQuiet (i+1) (.ref a)) Q E s:=by
 let[o,b,m,h1,h2,e,c]:=p;rw[eqIsQuiet.eq_2];refine J0 (wpAny_specialOf #[o,h1,h2] F.slot_tuple_eq.lookup ?_);refine J0 (wpAny_isInstance #[o,h1,h2] isSubtype_tuple_tuple ?_);simp only[Bool.not_true,Ka,if_false];refine J0 (Mi h1 e ?_);simp only[Option.getD_some,<-Array.forIn_toList];generalize h:b.toList=l at c;cases c with
 |cons hx r=>
  cases r with
  |cons f r=>
   cases r
   let[t1,5]:=jj hx
   let[g,5]:=jj f
   refine J0 ?_
   simp only[List.forIn_cons,List.forIn_nil,pure_bind,bind_assoc,eqIsQuiet_byValue i (show carriedByValue (.int n t1)=MC from rfl),eqIsQuiet_byValue i (show carriedByValue (.int d g)=MC from rfl),Bool.not_true,Ka,if_false]
   refine J9 ?_
   exact J9 q
def gH.quiet{A:JP}{E:J3->J5->Prop}{s:J5}{k:N3}{a:pd}{Q:Bool->J5->Prop}(p:gH P w s.heap k a)(q:Q MC s):Jj (Jn P w) A (eqIsQuiet 8 (.ref a)) Q E s:=by let[o,b,c,m,h1,h2,d,e,f]:=p;rw[eqIsQuiet.eq_2];refine J0 (wpAny_specialOf #[o,h1,h2] F.slot_tuple_eq.lookup ?_);refine J0 (wpAny_isInstance #[o,h1,h2] isSubtype_tuple_tuple ?_);simp only[Bool.not_true,Ka,if_false];refine J0 (Mi h1 d ?_);simp only[Option.getD_some,<-Array.forIn_toList];refine J0 ?_;simp only[List.forIn_cons,List.forIn_nil,pure_bind,bind_assoc];refine J0 (e.quiet 6 ?_);simp only[Bool.not_true,Ka,if_false,pure_bind];refine J0 (f.quiet 6 ?_);simp only[Bool.not_true,Ka,if_false,pure_bind];refine J9 ?_;exact J9 q
def eF(P:Ju)(w:JV):HeapKind P w N3 where
 is:=gH P w
 hash:=zV P w
 draws:=λ_=>7
 room:=λA=>A.units+4<Kh
 inj:=λp q=>p.inj q
 keeps:=λp hd b c=>p.keeps hd b c
 pyHash:=λa p q=>p.hash a q
 eqBool:=λa p d q=>p.eq a d q
 quiet:=λp q=>p.quiet q
end
section
variable{X:Cx}{MP:p4}{σ:L2.St}{H:Hp}{s:J5}{a b:pd}{k:N3}
def dD(K:J1)(H:Hp)(b:pd)(k:N3):Prop:=∃f g,NW K H b [.ref f,.ref g]/\NW K H f [.int k.1,.int k.2.1]/\NW K H g [.int k.2.2.1,.int k.2.2.2]
def CP{n d:Int}{f:pd}(I:L2.Inv X MP σ H s)(h:NW X.K H f [.int n,.int d]):rZ X.prog X.w s.heap n d f:=by
 let[c,r,e,_]:=I.tuple h;cases r with
 |cons g r=>cases r with
  |cons i r=>
   cases r
   let[t1,5]:=g
   let[l,5]:=i
   let[o,h1,h2,m,j]:=e
   exact #[o,_,m,h1,h2,j,.cons (by show((n==n)=MC);simp) (.cons (by show((d==d)=MC);simp) .nil)]
def qT(I:L2.Inv X MP σ H s)(h:dD X.K H b k):gH X.prog X.w s.heap k b:=by
 let[f,g,h1,h2,c]:=h;let[d,r,e,_]:=I.tuple h1;cases r with
 |cons i r=>cases r with
  |cons j r=>
   cases r
   cases i
   cases j
   let[o,l,n,m,p]:=e
   exact #[o,f,g,m,l,n,p,CP I h2,CP I c]
abbrev OB:=N3×pd×V
def bW(P:Ju)(w:JV)(a:pd)(xs:List OB):pq->Prop:=λh=>(a==L8)=MD/\xs.length<=Jo/\(xs.map (·.1)).Nodup/\∃c:List (N3×pd×J3),
 Mq (λ(p:OB) (q:N3×pd×J3)=>p.1=q.1/\p.2.1=q.2.1/\RelV p.2.2 q.2.2) xs c/\∃o d e,h.get? a=MA o/\o.ExactDict/\o.data=.dict d e/\d.toList=c.map (entryOfKey (eF P w))
def fX(xs:List OB)(k:N3)(b:pd)(v:V):List OB:=if(xs.any λx=>decide (x.1=k))=MC then xs.map (λx=>if x.1=k then(x.1,x.2.1,v)else x)else xs++[(k,b,v)]
abbrev RW:=λ(p:OB) (q:N3×pd×J3)=>p.1=q.1/\p.2.1=q.2.1/\RelV p.2.2 q.2.2
def jb{xs:List OB}{c:List (N3×pd×J3)}(r:Mq RW xs c):c.map (·.1)=xs.map (·.1):=by
 induction r with
 |nil=>rfl
 |cons h t d=>rw[Ji,Ji,d,h.1]
def A4{xs:List OB}{d:List (N3×pd×J3)}(r:Mq RW xs d)(k:N3):(xs.any λx=>decide (x.1=k))=(atKey d k).isSome:=by
 induction r with
 |nil=>rfl
 |@cons p q ps qs h t ih=>
  rw[LH]
  by_cases e:p.1=k
  .have c:q.1=k:=h.1.symm.trans e;simp[atKey,JK,e,c]
  .have c:¬q.1=k:=λz=>e (h.1.trans z);rw[MG e,Bool.false_or,ih];simp[atKey,JK,c]
def g8{xs:List OB}{c:List (N3×pd×J3)}(r:Mq RW xs c)(k:N3)(b:pd){v:V}{u:J3}(d:RelV v u):Mq RW (fX xs k b v) (storedH c k b u):=by
 unfold fX storedH;rw[A4 r k];by_cases e:(atKey c k).isSome=MC
 .rw[MF e,MF e];clear e
  induction r with
  |nil=>exact .nil
  |@cons p q ps qs h t ih=>
   rw[Ji,Ji]
   refine .cons ?_ ih
   unfold putAt
   by_cases e:p.1=k
   .rw[MF e,MF (h.1.symm.trans e)];exact #[h.1,h.2.1,d]
   .rw[ME e,ME (λz=>e (h.1.trans z))];exact h
 .rw[ME e,ME e];exact Paired.snoc r #[5,5,d]
def ly{xs:List OB}{c:List (N3×pd×J3)}(r:Mq RW xs c):xs.length=c.length:=by
 induction r with
 |nil=>rfl
 |cons h t d=>rw[Jz,Jz,d]
def AZ{xs:List OB}{c:List (N3×pd×J3)}(r:Mq RW xs c){q:N3×pd×J3}(h:q∈c):∃p∈xs,p.1=q.1/\p.2.1=q.2.1:=by
 induction r with
 |nil=>cases h
 |cons d t f=>
  rcases JM.mp h with z|z
  .subst z;exact #[_,by simp,d.1,d.2.1]
  .obtain⟨p,g,e⟩:=f z;exact #[p,by simp[g],e]
def mB(xs:List OB)(k:N3)(b:pd)(v:V):(fX xs k b v).length<=xs.length+1:=by
 unfold fX;split
 .rw[J4];omega
 .simp
def oE{xs:List OB}(I:L2.Inv X MP σ H s)(e:H a=MA (.ext (bW X.prog X.w a xs)))(d:∀x∈xs,dD X.K H x.2.1 x.1):(a==L8)=MD/\xs.length<=Jo/\∃c,Mq RW xs c/\s.heap.DictOfH (eF X.prog X.w) a c:=by obtain⟨⟨h1,h2,f,c,r,o,g,h,i,j,l,m⟩,_⟩:=I.hok a _ e;refine #[h1,h2,c,r,o,g,h,i,j,l,m,λx hx=>?_,by rw[jb r];exact f];let[p,n,e1,e2]:=AZ r hx;rw[<-e1,<-e2];exact qT I (d p n)
def lG{P:Ju}{w:JV}{xs:List OB}(h1 h2:pq)(h:bW P w a xs h1)(k:∀o,h1.get? a=MA o->h2.get? a=MA o):bW P w a xs h2:=by let[c,d,e,f,r,o,g,i,j,q]:=h;exact #[c,d,e,f,r,o,g,i,k o j,q]
def BY{A:JP}{E:J3->J5->Prop}{Q:Unit->J5->Prop}{xs:List OB}{v:V}{u:J3}(D:A.units+8<Kh)(I:L2.Inv X MP σ H s)(e:H a=MA (.ext (bW X.prog X.w a xs)))(i:∀x∈xs,dD X.K H x.2.1 x.1)(j:dD X.K H b k)(f:RelV v u)(F:xs.length<Jo)
 (h:∀g,L2.Inv X MP σ (upd H a (.ext (bW X.prog X.w a (fX xs k b v)))) g->Q .unit g):Jj (Jn X.prog X.w) A (setItem (.ref a) (.ref b) u) Q E s:=by
 let[hd,l,G,r,m]:=oE I e i
 refine wpAny_setItem_heap (knd:=eF X.prog X.w) (hsz:=by rw[<-ly r];exact l) (show A.in1.units+4<Kh by show A.units+1+4<Kh;omega) (qT I j) m λJ c n=>h _ ?_
 let[q,o,p,d,t,z,B,_,C]:=c
 refine jl I (by rw[e];exact LJ) n #[q,d] #[#[hd,?_,?_,_,g8 r k b f,q,o,p,d,t,z,B],#[q,d],λh1 h2 x y=>lG h1 h2 x y]
 .have:=mB xs k b v;omega
 .rw[<-jb (g8 r k b f)];exact C
theorem uf(I:L2.Inv X MP σ H s):L2.Inv X MP σ (upd H s.z (.ext (bW X.prog X.w s.z []))) { s with heap:=s.heap.push { cls:=.type "dict",data:=.dict #[] } }:=
 I.laid (a:=s.z) (t':=s.toks) (λ_ _ q=>J6 _ q) (Je _)
  #[#[beq_eq_false_iff_ne.mpr (Ne.symm (JF I.big)),K3 _,List.nodup_nil,[],.nil,_,#[],0,Jh _ rfl,#[5,5,rfl],5,rfl],#[_,Jh _ rfl],λh1 h2 x y=>lG h1 h2 x y]
def eN(xs:List OB)(k:N3):Option V:=(xs.find? λx=>decide (x.1=k)).map (·.2.2)
def pL{xs:List OB}{d:List (N3×pd×J3)}(r:Mq RW xs d){v:V}(h:eN xs k=MA v):∃p:pd×J3,atKey d k=MA p/\RelV v p.2:=by
 induction r with
 |nil=>cases h
 |@cons p q ps qs h' t ih=>
  by_cases e:p.1=k
  .have c:q.1=k:=h'.1.symm.trans e;simp[eN,JK,e]at h;subst h;exact #[q.2,by simp[atKey,JK,c],h'.2.2]
  .have c:¬q.1=k:=λz=>e (h'.1.trans z);let h2:eN ps k=MA v:=by simpa[eN,JK,e]using h
   let[f,g,i]:=ih h2;exact #[f,by simpa[atKey,JK,c]using g,i]
def B1{A:JP}{E:J3->J5->Prop}{Q:J3->J5->Prop}{xs:List OB}{v:V}(i:A.units+8<Kh)(I:L2.Inv X MP σ H s)(e:H a=MA (.ext (bW X.prog X.w a xs)))(d:∀x∈xs,dD X.K H x.2.1 x.1)(f:dD X.K H b k)(hv:eN xs k=MA v) (h:∀u c,L2.Inv X MP σ H c->RelV v u->Q u c):Jj (Jn X.prog X.w) A (getItem (.ref a) (.ref b)) Q E s:=by let[hd,j,l,r,g]:=oE I e d;let[p,h1,h2]:=pL r hv;exact wpAny_getItem_heap (knd:=eF X.prog X.w) (show A.in1.units+4<Kh by show A.units+1+4<Kh;omega) (qT I f) g h1 (h _ _ (I.tok _) h2)
end
section
variable{prog:Ju}{w:JV}{K:Type}[DecidableEq K]{knd:HeapKind prog w K}{A:JP}{E:J3->J5->Prop}{s:J5}
def qV{d a:pd}{xs:List (K×pd×J3)}{k:K}{v:J3}{Q:J3->J5->Prop}(n:knd.room A)(b:knd.is s.heap k a)(r:s.heap.DictOfH knd d xs) (h1:∀p,atKey xs k=MA p->Q p.2 { s with toks:=s.toks+knd.draws k }) (h2:atKey xs k=MB->∀h',h'.DictOfH knd d (storedH xs k a v)->Lg d s.heap h'->Q v { s with heap:=h',toks:=s.toks+knd.draws k }) (hsz:xs.length<=Jo) : Jj (Jn prog w) A (dictSetDefault d (.ref a) v) Q E s:=by
 let[o,B,t,c,u,hd,l,g,m]:=r;unfold dictSetDefault
 try with_reducible refine Kn ?_
 refine J0 (knd.pyHash n b ?_);refine J0 (wpAny_dictFind_heap (s:={ s with toks:=s.toks+knd.draws k }) n b c hd l g m ?_ ?_)
 .intro h;let i:k∉xs.map (·.1):=not_mem_keys_of_get h;let f:=atKey_none_of_get h
  refine J0 (wpAny_rule (J0 (wpAny_updateDictKeys (hz:=by let e:=size_of_entries l;omega) (s:={ s with toks:=s.toks+knd.draws k }) c hd (J9 (h2 f _ #[_,_,t+1,Lm _ c (Obj.isFreed_of_dict (Obj.data_mapDictKeys hd _)),
   u.mapDictKeys _,Obj.data_mapDictKeys hd _,?_,?_,?_] (Ko ..))))))
  .rw[storedH_new f];simp[l,entryOfKey]
  .rw[storedH_new f];intro x hx;rcases Jv.mp hx with hx|hx
   .exact knd.keeps (g x hx) c hd (Ko ..)
   .have:x=(k,a,v):=‹hx›
    subst this;exact knd.keeps b c hd (Ko ..)
  .rw[storedH_new f,JE,List.nodup_append];refine #[m,by simp,?_];intro x hx y z;have:y=k:=‹z›
   subst this;exact λe=>i (e▸hx)
 .intro j p q;let f:=atKey_of_get m q;refine J0 (wpAny_dictEntries (s:={ s with toks:=s.toks+knd.draws k }) c hd ?_);rw[entry_at l j,q];exact J0 (wpAny_rule (J9 (h1 p f)))
def qt{d a:pd}{xs:List (K×pd×J3)}{k:K}{v:J3}{Q:J3->J5->Prop}(g:knd.room A.in1)(b:knd.is s.heap k a)(c:s.heap.DictOfH knd d xs)(hd:(d==L8)=MD)
 (h1:∀p,atKey xs k=MA p->Q p.2 { s with toks:=s.toks+knd.draws k })
 (h2:atKey xs k=MB->∀h',h'.DictOfH knd d (storedH xs k a v)->Lg d s.heap h'->Q v { s with heap:=h',toks:=s.toks+knd.draws k }) (hsz:xs.length<=Jo) :
 Jj (Jn prog w) A (call (.builtin "dict.setdefault") [.ref d,.ref a,v]) Q E s:=by
 refine Lo PySem.F.slot_dict_setdefault c.typeIs PySem.F.entry_dict_setdefault ?_ (PySem.F.args_dict_setdefault_3 _ _ _)
 unfold LM.«dict.setdefault»
 refine J0 ?_
 unfold Builtin.Dict.keyAndDefault
 refine J0 (wpAny_notOrdered_dict c.typeIs ?_)
 show Jj _ _ (pure (d,Kd a,MA v)) _ _ s
 refine J9 ?_
 show Jj _ _ (if(d==L8)=MC then _ else(dictSetDefault d (.ref a) v >>= _)) _ _ s
 rw[ME (by rw[hd];exact Js)]
 exact J0 (qV g b c (λp h=>J9 #[p.2,5,h1 p h]) (λi h' e f=>J9 #[v,5,h2 i h' e f]) hsz)
end
section
variable{X:Cx}{MP:p4}{σ:L2.St}{H:Hp}{s:J5}{a b:pd}{k:N3}
def yn{xs:List OB}{c:List (N3×pd×J3)}(r:Mq RW xs c)(h:eN xs k=MB):atKey c k=MB:=by
 induction r with
 |nil=>rfl
 |@cons p q ps qs h' t ih=>
  by_cases e:p.1=k
  .simp[eN,JK,e]at h
  .have d:¬q.1=k:=λz=>e (h'.1.trans z);let h2:eN ps k=MB:=by simpa[eN,JK,e]using h
   have:=ih h2;simpa[atKey,JK,d]using this
def rM{A:JP}{E:J3->J5->Prop}{Q:J3->J5->Prop}{xs:List OB}{v:V}{u:J3}(P:A.units+8<Kh)(I:L2.Inv X MP σ H s)(e:H a=MA (.ext (bW X.prog X.w a xs)))(n:∀x∈xs,dD X.K H x.2.1 x.1)(o:dD X.K H b k)(l:RelV v u)(R:xs.length<Jo)
 (h1:∀d m f,eN xs k=MA d->L2.Inv X MP σ H f->RelV d m->Q m f)
 (h2:eN xs k=MB->∀f,L2.Inv X MP σ (upd H a (.ext (bW X.prog X.w a (fX xs k b v)))) f->Q u f):Jj (Jn X.prog X.w) A (call (.builtin "dict.setdefault") [.ref a,.ref b,u]) Q E s:=by
 let[hd,t,S,r,z]:=oE I e n
 refine qt (knd:=eF X.prog X.w) (show A.in1.units+4<Kh by show A.units+1+4<Kh;omega) (qT I o) z hd (λp h=>?_) (λB T i C=>?_) (by rw[<-ly r];exact t)
 .cases c:eN xs k with
  |none=>rw[yn r c]at h;cases h
  |some d=>
   let[D,g,F]:=pL r c
   rw[h]at g
   cases g
   exact h1 d _ _ c (I.tok _) F
 .have c:eN xs k=MB:=by
   cases c:eN xs k with
   |none=>rfl
   |some d=>
    let[D,g,_]:=pL r c
    rw[B]at g;cases g
  refine h2 c _ ?_
  let[q,G,J,j,L,M,N,_,O]:=i
  refine jl I (by rw[e];exact LJ) C #[q,j] #[#[hd,?_,?_,_,g8 r k b l,q,G,J,j,L,M,N],#[q,j],λh1 h2 x y=>lG h1 h2 x y]
  .have:=mB xs k b v;omega
  .rw[<-jb (g8 r k b l)];exact O
end
section
variable{X:Cx}
def Fi(X:Cx):TE:=λ_ H Q=>∀p,H p=MB->Q (.ref p) (upd H p (.ext (bW X.prog X.w p [])))
theorem zL{pos:Pos}:PE X (.Dict [] [] pos) (Fi X):=λMP s σ H Q I h=>wpAny_Dict_empty #[.ref s.z,_,uf I,5,h _ (I.hok.fresh (Je _))]
structure SM(X:Cx)(H:Hp)(a b:pd)(xs:List OB)(k:N3):Prop where
 d:H a=MA (.ext (bW X.prog X.w a xs))
 ks:∀x∈xs,dD X.K H x.2.1 x.1
 key:dD X.K H b k
def CY(X:Cx)(d ty:TE):TE:=λσ H Q=>d σ H λx H1=>ty σ H1 λy c=>∃a b xs k v,x=.ref a/\y=.ref b/\SM X c a b xs k/\eN xs k=MA v/\Q v c
def yx{MP:p4}{σ:L2.St}{H:Hp}{s:J5}{a:pd}{xs:List OB}(I:L2.Inv X MP σ H s)(e:H a=MA (.ext (bW X.prog X.w a xs))):s.TypeIs (.ref a) "dict"/\∀b,Kd a=.ref b->∃o,s.heap.get? b=MA o/\o.dict=MB:=by obtain⟨⟨_,_,_,_,_,o,_,_,c,d,_⟩,_⟩:=I.hok a _ e;exact #[#[o,c,d.1],λb z=>by cases z;exact #[o,c,d.2.1]]
def wW{o i:pv}{e ty:TE}{pos:Pos}(g:X.A.units+8<Kh)(j:PE X o e)(l:PE X i ty)(m:FX i):PE X (.Subscript o i pos) (CY X e ty):=by intro MP s σ H Q I h;refine Subscript_ (NJ (j MP s σ H _ I h) λv n ⟨x,H1,p,r,t⟩=>NJ (l MP n σ H1 _ p t) λu J c=>?_);let[y,w,f,z,a,b,xs,k,B,ex,C,D,hv,q]:=c;subst ex C;cases r;cases z;exact tail_any (yx f D.d).1 PySem.F.slot_dict_getitem.lookup (B1 g f D.d D.ks D.key hv λK L E G=>#[B,w,E,G,q]) (m _ _)
def C4(X:Cx)(d ty e:TE):TS:=λD σ H=>e σ H λv H1=>d σ H1 λx f=>ty σ f λy c=>∃a b xs k,x=.ref a/\y=.ref b/\SM X c a b xs k/\xs.length<Jo/\D.nx σ (upd c a (.ext (bW X.prog X.w a (fX xs k b v))))
def wZ{o i c:pv}{g ty j:TE}{pos e:Pos}(l:X.A.units+8<Kh)(m:PE X o g)(n:PE X i ty)(hv:PE X c j)(p:La c (MA (.Subscript o i e)) pos.line X.env=pure MD) : PS X (.Assign [.Subscript o i e] c pos) (C4 X g ty j):=by intro MP s σ H D I h;refine wpAny_Assign_Subscript (NJ (hv MP s σ H _ I h) λr q ⟨v,H1,t,w,z⟩=>NJ (m MP q σ H1 _ t z) λu B ⟨x,C,E,F,G⟩=>NJ (n MP B σ C _ E G) λP Q f=>?_) p;let[y,R,J,K,a,b,xs,k,ex,L,A,M,N]:=f;subst ex L;cases F;cases K;exact BY l J A.d A.ks A.key w M λS O=>#[σ,_,O,N]
def F5(X:Cx)(to:TE)(t:TA):TE:=λσ H Q=>to σ H λx H1=>∃a c,x=.ref a/\H1 a=MA (.ext (bW X.prog X.w a c))/\t σ H1 λvs d=>∃b v xs k,vs=[.ref b,v]/\SM X d a b xs k/\xs.length<Jo/\
 (∀e,eN xs k=MA e->Q e d)/\(eN xs k=MB->Q v (upd d a (.ext (bW X.prog X.w a (fX xs k b v)))))
def BU{o e1 e2:pv}{to:TE}{t:TA}{e f:Pos}(z:X.A.units+8<Kh)(B:PE X o to)(C:PA X [e1,e2] t)
 (g:Lf o "setdefault" X.env (eval o X.env)=eval o X.env:=by rfl)
 (m:((Kr f (Jk [e1,e2] X.env)).all (λx=>!x.1)&&(Mf f (Lb [] X.env)).all (λx=>x.1.isSome)
  && decide ([e1,e2].length+([]:List Mp).length+(if([]:List Mp).isEmpty then 0 else 1)<30))=MC:=by rfl)
 (i:(e.endLine==f.line)=MC:=by rfl) (E:Jk [e1,e2] X.env=(MD,eval e1 X.env)::Jk [e2] X.env:=by rfl) (c:(Kr f (Jk [e2] X.env)).any (·.1)=MD:=by rfl) :
 PE X (.Call (.Attribute o "setdefault" e) [e1,e2] [] f) (F5 X to t):=by
 intro MP s σ H Q I h
 refine wpAny_Call_method_late g m i rfl (NJ (B MP s σ H _ I h) λv G j=>?_)
 let[x,H1,u,J,a,K,ex,L,M]:=j
 subst ex
 cases J
 let[h1,h2]:=yx u L
 exists "dict","dict.setdefault",PySem.F.plainAttrs_dict,PySem.F.slot_dict_setdefault,PySem.F.type_dict_setdefault,h1,h2
 let w:=C f MP G σ H1 _ u M
 rw[E]at w ⊢
 refine Calls.callWith_builtin (by show(MD||(Kr f (Jk [e2] X.env)).any (·.1))=MD;rw[c]<;>rfl) (Calls.evalArgs_plain ?_)
 refine NJ w λus Z l=>?_
 let[vs,N,O,P,b,R,xs,k,p,D,S,T,U]:=l
 subst p
 let[u1,u2,5,q,n]:=P.two
 cases q
 exact rM z O D.d D.ks D.key n S (λy u' V p r W=>#[y,N,r,W,T y p]) (λY V r=>#[R,_,r,n,U Y])
end
def QA(k:N3):D:=.tup [.tup [.int k.1,.int k.2.1],.tup [.int k.2.2.1,.int k.2.2.2]]
section
variable{K:J1}{H H':Hp}{M:MH}{a b:pd}{k:N3}
def pZ{v:V}(r:Rep K H (QA k) v):∃b,v=.ref b/\dD K H b k:=by unfold QA at r;rw[Rep]at r;let[b,xs,5,hx,l]:=r;let[q,s,5,c,d]:=fF l;rw[Rep]at c d;let[f,fs,5,m,n]:=c;let[g,t,5,o,p]:=d;let[u,w,5,e,h]:=fF n;let[x,y,5,i,j]:=fF p;rw[Rep]at e h i j;subst e h i j;exact #[b,5,f,g,hx,m,o]
def Ad(h:dD K H b k):Rep K H (QA k) (.ref b):=by
 let[f,g,hx,d,e]:=h;unfold QA;rw[Rep];exists b,7,hx;let c:∀(m n:Int),aD K H [D.int m,D.int n] [V.int m,V.int n]:=λm n=>fE [m,n];rw[aD];exists _,7,?_
 .rw[Rep];exact #[f,7,d,c _ _]
 .rw[aD];exists _,7,?_
  .rw[Rep];exact #[g,7,e,c _ _]
  .rw[aD]
def dD.mono(g:ND K H H')(h:dD K H b k):dD K H' b k:=by let[c,e,r]:=pZ ((Ad h).mono g);cases e;exact r
abbrev Nv:=List (N3×D)
def Ru(kvs:Nv):J1->Hp->pd->Prop:=λK H a=>∃xs:List OB,(∀P w,H a=MA (.ext (bW P w a xs)))/\xs.map (·.1)=kvs.map (·.1)/\(∀x∈xs,dD K H x.2.1 x.1)/\aD K H (kvs.map (·.2)) (xs.map (·.2.2))
def yV{kvs:Nv}(h:Ru kvs K H a)(g:ND K H H')(e:H' a=H a):Ru kvs K H' a:=by let[xs,h1,h2,c,d]:=h;exact #[xs,λP w=>e.trans (h1 P w),h2,λx hx=>(c x hx).mono g,d.mono g]
def OF(kvs:Nv):MO:=.gen (Ru kvs)
theorem NM.dsp{kvs:Nv}(h:NM K H M)(e:M a=MA (OF kvs)):Ru kvs K H a:=(h a _ e).1
theorem Ru.xw{kvs:Nv}(h:Ru kvs K H a)(ne:H a≠MB):mQ K H a (OF kvs):=#[h,ne,λH' g e=>yV h g e]
theorem NM.Cn{p:pd}(P:Ju)(w:JV)(h:NM K H M)(c:H p=MB):NM K (upd H p (.ext (bW P w p []))) (av M p (OF [])):=λa u e=>by
 by_cases ne:a=p
 .subst ne;rw[ag]at e;cases e;exact Ru.xw #[[],(λP w=>aF),5,(λx hx=>by simp at hx),(by simp[aD])] (by rw[aF];simp)
 .rw[ak ne]at e;exact(h a u e).fJ (.new c) (aE ne)
def dE(kvs:Nv)(k:N3):sk:=(kvs.find? λx=>decide (x.1=k)).map (·.2)
def putD(kvs:Nv)(k:N3)(d:D):Nv:=if(kvs.any λx=>decide (x.1=k))=MC then kvs.map (λx=>if x.1=k then(x.1,d)else x)else kvs++[(k,d)]
theorem oG(k:N3):∀{kvs:Nv}{xs:List OB},xs.map (·.1)=kvs.map (·.1)->aD K H (kvs.map (·.2)) (xs.map (·.2.2))->(∀d,dE kvs k=MA d->∃v,eN xs k=MA v/\Rep K H d v)/\(dE kvs k=MB->eN xs k=MB)/\((xs.any λx=>decide (x.1=k))=kvs.any λx=>decide (x.1=k))
 |[],[],_,_=>#[(λd h=>by simp[dE]at h),(λ_=>rfl),rfl]
 |[],x::xs,h,_=>by cases h
 |y::kvs,[],h,_=>by cases h
 |y::kvs,x::xs,h,r=>by
  rw[Ji,Ji]at h
  injection h with h1 h2
  rw[Ji,Ji,aD]at r
  let[v,vs,e,g,i]:=r
  injection e with e1 e2
  subst e1 e2
  let[j,l,m]:=oG k h2 i
  by_cases e:y.1=k
  .have c:x.1=k:=h1.trans e
   refine #[λd hd=>?_,λf=>?_,?_]
   .simp[dE,JK,e]at hd
    subst hd
    exact #[x.2.2,by simp[eN,JK,c],g]
   .simp[dE,JK,e]at f
   .simp[e,c]
  .have c:¬x.1=k:=λz=>e (h1.symm.trans z)
   refine #[λd hd=>?_,λf=>?_,?_]
   .obtain⟨v,n,o⟩:=j d (by simpa[dE,JK,e]using hd)
    exact #[v,by simpa[eN,JK,c]using n,o]
   .have:=l (by simpa[dE,JK,e]using f)
    simpa[eN,JK,c]using this
   .rw[LH,LH,m,MG e,MG c]
theorem uK(k:N3){d:D}{v:V}(r:Rep K H d v):∀{kvs:Nv}{xs:List OB},xs.map (·.1)=kvs.map (·.1)->aD K H (kvs.map (·.2)) (xs.map (·.2.2))->
 (xs.map λx=>if x.1=k then(x.1,x.2.1,v)else x).map (·.1)=(kvs.map λx=>if x.1=k then(x.1,d)else x).map (·.1)/\aD K H ((kvs.map λx=>if x.1=k then(x.1,d)else x).map (·.2)) ((xs.map λx=>if x.1=k then(x.1,x.2.1,v)else x).map (·.2.2))
 |[],[],_,h=>#[5,h]
 |[],x::xs,h,_=>by cases h
 |y::kvs,[],h,_=>by cases h
 |y::kvs,x::xs,h,q=>by
  rw[Ji,Ji]at h
  injection h with h1 h2
  rw[Ji,Ji,aD]at q
  let[l,vs,e,i,j]:=q
  injection e with e1 e2
  subst e1 e2
  let[f,g]:=uK k r h2 j
  by_cases e:y.1=k
  .have c:x.1=k:=h1.trans e
   simp only[Ji,MF e,MF c]
   exact #[by rw[f];exact congrArg (·::_) h1,by rw[aD];exact #[_,7,r,g]]
  .have c:¬x.1=k:=λz=>e (h1.symm.trans z)
   simp only[Ji,ME e,ME c]
   exact #[by rw[f];exact congrArg (·::_) h1,by rw[aD];exact #[_,7,i,g]]
def Dq{kvs:Nv}{xs:List OB}{d:D}{v:V}(h1:xs.map (·.1)=kvs.map (·.1))(h2:aD K H (kvs.map (·.2)) (xs.map (·.2.2)))(c:∀x∈xs,dD K H x.2.1 x.1)(f:dD K H b k)(r:Rep K H d v) : (fX xs k b v).map (·.1)=(putD kvs k d).map (·.1)/\aD K H ((putD kvs k d).map (·.2)) ((fX xs k b v).map (·.2.2))/\∀x∈fX xs k b v,dD K H x.2.1 x.1:=by
 unfold fX putD;rw[(oG k h1 h2).2.2];by_cases e:(kvs.any λx=>decide (x.1=k))=MC
 .rw[MF e,MF e];let[g,h]:=uK k r h1 h2;refine #[g,h,λx hx=>?_];let[y,i,5]:=JO.mp hx;have:=c y i;by_cases e:y.1=k
  .rw[MF e];exact this
  .rw[ME e];exact this
 .rw[ME e,ME e];refine #[by rw[JE,JE,h1];rfl,?_,λx hx=>?_]
  .rw[JE,JE];exact h2.append (by rw[Ji,Ji,Lp,Lp,aD];exact #[_,7,r,by rw[aD]])
  .rcases Jv.mp hx with z|z
   .exact c x z
   .have:x=(k,b,v):=‹z›
    subst this;exact f
theorem ND.ext{c:pq->Prop}{o:HO}(h:H a=MA (.ext c)):ND K H (upd H a o):=.put (λxs e=>by rw[h]at e;cases e) (λu xs e=>by rw[h]at e;cases e)
theorem NM.xQ{kvs:Nv}{xs:List OB}{d:D}{v:V}(P:Ju)(w:JV)(h:NM K H M)(hx:∀P w,H a=MA (.ext (bW P w a xs)))(h1:xs.map (·.1)=kvs.map (·.1))(h2:aD K H (kvs.map (·.2)) (xs.map (·.2.2)))(f:∀x∈xs,dD K H x.2.1 x.1)(i:dD K H b k)(r:Rep K H d v) :
 NM K (upd H a (.ext (bW P w a (fX xs k b v)))) (av M a (OF (putD kvs k d))):=λc u e=>by
 let g:ND K H (upd H a (.ext (bW P w a (fX xs k b v)))):=.ext (hx P w)
 by_cases ne:c=a
 .subst ne
  rw[ag]at e;cases e
  let[j,l,m]:=Dq h1 h2 f i r
  exact Ru.xw #[_,λP w=>aF,j,λx hx=>(m x hx).mono g,l.mono g] (by rw[aF];simp)
 .rw[ak ne]at e
  exact(h c u e).fJ g (aE ne)
end
section
variable{X:Cx}
def Be:TD:=λ_ M Q=>∀p,M p=MB->Q (.ref p) (av M p (OF []))
theorem qr{pos:Pos}:DE X (.Dict [] [] pos) Be:=aX zL λσ H Q a=>by let[δ,M,R,e,d,q,b]:=a;exact(λp c=>b _ _ _ _ (.new c) (by rw[Rep]) (d.Cn _ _ c) (q p (d.fresh c)))
def AX(b ty:TD):TD:=λδ M Q=>b δ M λx c=>ty δ c λy a=>∃l kvs k d,x=.ref l/\y=QA k/\a l=MA (OF kvs)/\dE kvs k=MA d/\Q d a
theorem jo{o i:pv}{g ty:TD}{pos:Pos}(K:X.A.units+66<Kh)(m:DE X o g)(n:DE X i ty)(e:FX i):DE X (.Subscript o i pos) (AX g ty):=
 aX (wW () m n e) λσ H Q a=>by let[δ,M,R,e,p,q,f]:=a;exact(#[δ,M,_,e,p,q,λx r v H1 g1 h s t=>#[δ,r,_,e.mono g1,s,t,λy L u N w z j c=>by
  let[l,kvs,k,d,ex,B,C,hv,D]:=c
  subst ex B
  rw[Rep]at h;subst h
  let[b,5,sp]:=pZ z
  let[xs,h1,h2,E,F]:=j.dsp C
  let[G,I,J]:=(oG k h2 F).1 d hv
  exact #[l,b,xs,k,G,5,5,#[h1 _ _,E,sp],I,f _ _ _ _ (g1.trans w) J j D]]])
def BP(b ty c:TD):Nu:=λB δ M=>c δ M λd e=>b δ e λx f=>ty δ f λy a=>∃l kvs k,x=.ref l/\y=QA k/\a l=MA (OF kvs)/\kvs.length<1000000/\B.nx δ (av a l (OF (putD kvs k d)))
theorem xj{o i a:pv}{h ty j:TD}{pos c:Pos}(U:X.A.units+66<Kh)(z:DE X o h)(C:DE X i ty)(hv:DE X a j)(e:La a (MA (.Subscript o i c)) pos.line X.env=pure MD:=by rfl):DSt X (.Assign [.Subscript o i c] a pos) (BP h ty j):=
 cn (wZ () z C hv e) λD σ H ⟨δ,M,e,E,B,ok,q⟩=>#[δ,M,_,e,E,q,λd F v H1 g1 G I J=>#[δ,F,_,e.mono g1,I,J,λx L u V f m N O=>#[δ,L,_,(e.mono g1).mono f,N,O,λy W Y n g P p ⟨l,kvs,k,ex,Q,R,Z,S⟩=>by
  subst ex Q
  rw[Rep]at m;subst m
  let[b,5,sp]:=pZ P
  let[xs,h1,h2,r,T]:=p.dsp R
  let s:xs.length=kvs.length:=by have:=congrArg List.length h2;simpa using this
  let sz:1000000<=Jo:=NG rfl
  exists l,b,xs,k,5,5,#[h1 _ _,r,sp],()
  let t:ND X.K n (upd n l (.ext (bW X.prog X.w l (fX xs k b v)))):=.ext (h1 X.prog X.w)
  exact ok.nx _ _ _ _ (((g1.trans f).trans g).trans t) (e.mono (((g1.trans f).trans g).trans t)) (p.xQ _ _ h1 h2 T r sp (G.mono (f.trans g))) S]]]
def EU(to:TD)(t:N7):TD:=λδ M Q=>to δ M λx c=>∃l a,x=.ref l/\c l=MA (OF a)/\t δ c λf b=>∃kvs k d,f=[QA k,d]/\b l=MA (OF kvs)/\kvs.length<1000000/\(∀e,dE kvs k=MA e->Q e b)/\(dE kvs k=MB->Q d (av b l (OF (putD kvs k d))))
theorem BG{o e1 e2:pv}{to:TD}{t:N7}{f j:Pos}(hu:X.A.units+66<Kh)(T:DE X o to)(U:DA X [e1,e2] t)
 (g:Lf o "setdefault" X.env (eval o X.env)=eval o X.env:=by rfl)
 (m:((Kr j (Jk [e1,e2] X.env)).all (λx=>!x.1)&&(Mf j (Lb [] X.env)).all (λx=>x.1.isSome)
  && decide ([e1,e2].length+([]:List Mp).length+(if([]:List Mp).isEmpty then 0 else 1)<30))=MC:=by rfl)
 (h:(f.endLine==j.line)=MC:=by rfl) (s:Jk [e1,e2] X.env=(MD,eval e1 X.env)::Jk [e2] X.env:=by rfl) (c:(Kr j (Jk [e2] X.env)).any (·.1)=MD:=by rfl) :
 DE X (.Call (.Attribute o "setdefault" f) [e1,e2] [] j) (EU to t):=
 aX (BU () T U g m h s c) λσ H Q ⟨δ,M,R,s,V,q,n⟩=>#[δ,M,_,s,V,q,λx W v H1 g1 E F ⟨l,G,ex,y,Y⟩=>by
  subst ex
  rw[Rep]at E;subst E
  let[z,h0,_]:=F.dsp y
  refine #[l,z,5,h0 _ _,δ,W,_,s.mono g1,F,Y,λds M2 vs I J Z B i=>?_]
  let[kvs,k,d,e,hl,hn,k1,k2]:=i
  subst e
  let[v1,L,5,C,p]:=fF Z
  let[b,5,sp]:=pZ C
  let[xs,h1,h2,N,O]:=B.dsp hl
  let P:xs.length=kvs.length:=by have:=congrArg List.length h2;simpa using this
  let sz:1000000<=Jo:=NG rfl
  let dv:=oG k h2 O
  refine #[b,L,xs,k,5,#[h1 _ _,N,sp],(),λv' a=>?_,λa=>?_]
  .cases e:dE kvs k with
   |none=>rw[dv.2.1 e]at a;cases a
   |some u=>
    let[D,r,q4]:=dv.1 u e
    rw[a]at r;cases r
    exact n _ _ _ _ (g1.trans J) q4 B (k1 u e)
  .have e:dE kvs k=MB:=by
    cases e:dE kvs k with
    |none=>rfl
    |some u=>
     let[D,r,_]:=dv.1 u e
     rw[a]at r;cases r
   let S:ND X.K I (upd I l (.ext (bW X.prog X.w l (fX xs k b L)))):=.ext (h1 X.prog X.w)
   exact n _ _ _ _ ((g1.trans J).trans S) (p.mono S) (B.xQ _ _ h1 h2 O N sp p) (k2 e)]
end
def two(a t1 b c d:pv)(scope:L9)(pos:Pos):pv:=.ListComp a [#[t1,b,[],0],#[c,d,[],0]] scope pos
def Fx(a t1 d e c:pv)(scope:L9)(pos:Pos)(it b:J3)(env:Env):compTurn (two a t1 d e c scope pos) 0 it b env=(do
 standAt d.pos
 match <-pyNext it with
 |none=>pure (.done .next)
 |some v=>
  Lk t1 it v
  Me t1 env v
  let x <-eval c env
  standAt c.pos
  let x <-JG c env x
  let _ <-runOwn (.compStart (two a t1 d e c scope pos) 1 (<-holding [x] (pyIter x)) b env) env
  again (.compLoop (two a t1 d e c scope pos) 0 it b env)):=by rfl
def GB(a t1 e c d:pv)(scope:L9)(pos:Pos)(it b:J3)(env:Env):compTurn (two a t1 e c d scope pos) 1 it b env=(do
 standAt d.pos
 match <-pyNext it with
 |none=>pure (.done .next)
 |some v=>
  Lk c it v
  Me c env v
  (do let _ <-call (.builtin "list.append") [b,<-eval a env])
  again (.compLoop (two a t1 e c d scope pos) 1 it b env)):=by rfl
section
variable{prog:Ju}{w:JV}{A:JP}{R:Result->J5->Prop}{s:J5}{elt t1 i1 t2 i2:pv}{scope:L9}{pos:Pos}{it acc:J3}{env:Env}
def Dd(h0:Lh (Jn prog w) A (.compLoop (two elt t1 i1 t2 i2 scope pos) 1 it acc env) R s)
 (h:Jj (Jn prog w) A (pyIter it) (λa b=>Lh (Jn prog w) A (.compLoop (two elt t1 i1 t2 i2 scope pos) 1 a acc env) R b) (notedBy (Jn prog w) A env λx b=>R (.error x) b) s) :
 Lh (Jn prog w) A (.compStart (two elt t1 i1 t2 i2 scope pos) 1 it acc env) R s:=by
 refine codeAny_of_tree ?_
 show Jj _ _ ((compStart (two elt t1 i1 t2 i2 scope pos) 1 it acc env).onRaise (λx=>do noteFrame x env;standAt theWindowsPlace)) _ _ s
 refine wpAny_notedAt ?_
 unfold compStart
 show Jj _ _ (ask >>= _) _ _ s
 refine J0 (wpAny_askSetting (wpAny_ite ?_))
 split
 .first
   |exact J0 (J9 (J9 (And.intro rfl h0)))
   |exact J9 (And.intro rfl h0)
 .refine J0 (wpAny_rule ?_)
  show Jj _ _ (standAt i2.pos >>= _) _ _ s
  exact J0 (L0 (J0 (Jp h (λa b c=>J9 (And.intro rfl c)) λ_ _ x=>x)))
def G7(J:Nat->J5->Prop)
 (step:∀n s,J n s->Jj (Jn prog w) A (pyNext it) (λr b=>match r with
  |none=>R (.ok .next) b
  |some v=>Jj (Jn prog w) A (Lk t2 it v) (λ_ c=>Jj (Jn prog w) A (Me t2 env v) (λ_ d=>
   Jj (Jn prog w) A (eval elt env) (λx f=>Jj (Jn prog w) A (call (.builtin "list.append") [acc,x]) (λ_ g=>∃m,m<n/\J m g) Nn f) Nn d) Nn c) Nn b) Nn s)
 (n:Nat) (h:J n s):Lh (Jn prog w) A (.compLoop (two elt t1 i1 t2 i2 scope pos) 1 it acc env) R s:=by
 let a:∀{E:J3->J5->Prop} e i,Nn e i->E e i:=λ_ _ z=>z.elim
 refine codeAny_loop rfl J (λn s j=>?_) n h
 show Jj _ _ (Sem.onRaise (compTurn (two elt t1 i1 t2 i2 scope pos) 1 it acc env) (λx=>do noteFrame x env;theTreesLotGoes x)) _ _ s
 refine wpAny_noted ?_
 rw[GB]
 refine J0 (L0 (J0 (Jp (step n s j) (λr b h1=>?_) a)))
 cases r with
 |none=>exact J9 h1
 |some v=>
  refine J0 (Jp h1 (λ_ c h2=>J0 (Jp h2 (λ_ d k=>?_) a)) a)
  exact J0 (J0 (Jp k (λx f l=>J0 (Jp l (λ_ g o=>J9 (J9 #[5,o])) a)) a))
def Gq(J:Nat->J5->Prop)(c:∀x,JG i2 env x=pure x)
 (step:∀n s,J n s->Jj (Jn prog w) A (pyNext it) (λr d=>match r with
  |none=>R (.ok .next) d
  |some v=>Jj (Jn prog w) A (Lk t1 it v) (λ_ g=>Jj (Jn prog w) A (Me t1 env v) (λ_ i=>
   Jj (Jn prog w) A (eval i2 env) (λx j=>Jj (Jn prog w) A (pyIter x) (λa k=>Lh (Jn prog w) A (.compStart (two elt t1 i1 t2 i2 scope pos) 1 a acc env) (λr l=>match r with
    |.ok _=>∃m,m<n/\J m l
    |.error e=>False) k) Nn j) Nn i) Nn g) Nn d) Nn s)
 (n:Nat) (h:J n s):Lh (Jn prog w) A (.compLoop (two elt t1 i1 t2 i2 scope pos) 0 it acc env) R s:=by
 let b:∀{E:J3->J5->Prop} e o,Nn e o->E e o:=λ_ _ z=>z.elim
 refine codeAny_loop rfl J (λn s q=>?_) n h
 show Jj _ _ (Sem.onRaise (compTurn (two elt t1 i1 t2 i2 scope pos) 0 it acc env) (λx=>do noteFrame x env;theTreesLotGoes x)) _ _ s
 refine wpAny_noted ?_
 rw[Fx]
 refine J0 (L0 (J0 (Jp (step n s q) (λr d h1=>?_) b)))
 cases r with
 |none=>exact J9 h1
 |some v=>
  refine J0 (Jp h1 (λ_ g h2=>J0 (Jp h2 (λ_ i t=>J0 (Jp t (λx j u=>?_) b)) b)) b)
  refine J0 (L0 ?_)
  rw[c]
  refine J0 (J9 ?_)
  refine J0 (Kn (Jp u (λa k y=>?_) b))
  refine J0 (wpAny_runOwn (codeAny_mono y (λr l p=>?_)))
  cases r with
  |ok f=>exact J9 #[5,p]
  |error e=>exact p.elim
end
def G6(js:q7)(wi2:TI)(te:TE)(σ:L2.St)(J:It)(H1:Hp)(Q:VK):Prop:=∀D,H1 D=MB->∃W:Nat->Nat->Hp->Prop,(∃m,W 0 m (upd H1 D (.lst [])))/\∀i m H,W i m H->
 (J.stop i H/\Q (.ref D) H)\/(J.go i H/\∀y c,J.yld i H y c->∀o,wi2 (cσ [MA y,o] js σ) c λb h=>∃U:Nat->Nat->Hp->Prop,(∃n,U 0 n h)/\∀j n a,U j n a->
  (b.stop j a/\∃d,d<m/\W (i+1) d a)\/(b.go j a/\∀z e,b.yld j a z e->te (cσ [MA y,MA z] js σ) e λv f=>∃xs,f D=MA (.lst xs)/\xs.length<Jo/\∃g,g<n/\U (j+1) g (upd f D (.lst (xs++[v])))))
def CD(js:q7)(a wi2:TI)(te:TE):TE:=λσ H Q=>a σ H λJ H1=>G6 js wi2 te σ J H1 Q
section
variable{X:Cx}{x y:Str}{px py pos:Pos}{js:q7}{scope:L9}{elt i1 i2:pv}{te:TE}{wi wi2:TI}{MP:p4}{σ:L2.St}{H:Hp}{s:J5}{fp:rp}{it:pd}{tn:Nat->pq->Prop}{J:It}
def A6(c:NC X [x,y] js scope)(hc:X.calm=MC)(p1:∀C s H fp,PI (NN X [x,y] js scope C s H fp) (.Name y py) i2 wi2)(q1:∀(env:Env) x,JG i2 env x=pure x)(he:∀C s H fp,PE (NN X [x,y] js scope C s H fp) elt te)
 {R:J3->pd->Result->J5->Prop} {E:J3->J5->Prop} {Q:VK}
 (I:Inv X MP σ H s) (T:Turn X.prog X.w X.K (.Name x px) J fp it tn) (st:tn 0 s.heap) (hf:∀b∈fp,cB X MP H b) (wc:G6 js wi2 te σ J H Q)
 (hR:∀D C f F,Inv X MP σ f F->cB X MP f C->(∃m,F.heap.Ns C m)->Q (.ref D) f->R (.ref D) C (.ok .next) F) :
 Jj (Jn X.prog X.w) X.A (newList []) (λs0 t0=>Jj (Jn X.prog X.w) X.A (Mh scope X.env.globals (eM scope.names X.env) [] X.env.qual MB .none (MA X.env)) (λN v0=>
  Lh (Jn X.prog X.w) X.A (.compStart (two elt (.Name x px) i1 (.Name y py) i2 scope pos) 0 (.ref it) s0 { N with scope:=relabel scope X.env }) (R s0 N.locals) v0) E t0) E s:=by
 let r1:∀C s H fp,PG (NN X [x,y] js scope C s H fp) (.Name x px) (de 0):=λ_ _ _ _=>fg c 0 rfl
 let s1:∀C s H fp,PG (NN X [x,y] js scope C s H fp) (.Name y py) (de 1):=λ_ _ _ _=>fg c 1 rfl
 let x0:∀b∈fp,b<s.z:=λb a=>let⟨o,e,_⟩:=T.obj 0 _ st b a;Jm e
 let hD:H s.z=MB:=I.hok.fresh (Je _)
 refine K9 (oX ?_)
 generalize hh:s.heap.push { cls:=.type "list",dict:=MB,data:=.seq ([]:List J3).toArray }=g
 generalize y0:pushCells (({ s with heap:=g }:J5).heap.push { cls:=.type "dict",data:=.dict #[] }) scope.names=h
 let k3:∀b o,s.heap.get? b=MA o->g.get? b=MA o:=λb o e=>by rw[<-hh];exact J6 _ e
 let I3:Inv X MP σ (upd H s.z (.lst [])) { s with heap:=g }:=by
  refine I.laid (t':=s.toks) k3 (Je _) ?_
  exists K3 _,[],0,.nil
  rw[<-hh]
  exact Jh _ rfl
 let k:∀b∈fp,cB X MP (upd H s.z (.lst [])) b:=λb a=>#[by rw[aE (JF (x0 b a))];exact(hf b a).1,(hf b a).2]
 let t1:g.objs.size=s.z+1:=by rw[<-hh,Kz]
 let z0:∀b∈fp,b<g.objs.size:=λb a=>by rw[t1];exact KJ (x0 b a)
 let k4:∀b o,g.get? b=MA o->h.get? b=MA o:=λb o e=>by rw[<-y0];exact pushCells_keeps _ _ b o (J6 _ e)
 let I4:=mw c I3 k z0 (h':=h) y0.symm k4
 obtain⟨W,⟨m0,w0⟩,b1⟩:=wc _ hD
 let Pn:tn 0 h:=T.keep 0 _ _ st λb a o e=>k4 b o (k3 b o e)
 generalize hX:NN X [x,y] js scope g.objs.size { s with heap:=g } (upd H s.z (.lst [])) fp=X' at I4
 let S:∀{pins':p4}{f:Hp}{l:L2.St}{F:J5},Inv X' [] l f F->(∀b∈fp,f b=MB)->∀b∈fp,cB X' [] f b:=λ{pins' f l F} J' hn b a=>by
  subst hX
  let[a1,a2]:=J'.ok.exf b a
  exact #[hn b a,a1,J'.ok.exfs b a,.inl a,a2,λp hp=>absurd (show p∈([]:p4)from hp) (_)]
 let O:Lh (Jn X.prog X.w) X.A (.compLoop (two elt (.Name x px) i1 (.Name y py) i2 scope pos) 0 (.ref it) (.ref s.z) (kP scope g.objs.size X.env)) (R (.ref s.z) g.objs.size)
  { s with heap:=h }:=by
  refine Gq (λn F=>∃i os f,os.length=2/\Inv X' [] (cσ os js σ) f F/\tn i F.heap/\(∀b∈fp,f b=MB)/\W i n f) (λx=>q1 _ x) ?_ m0 #[0,_,_,by simp,I4,Pn,λb a=>(k b a).1,w0]
  rintro n s5 ⟨i,os,H5,u1,I5,Ot,c1,w5⟩
  rcases b1 i n H5 w5 with⟨stop,q⟩|⟨go,step⟩
  .subst hX
   refine Jp (T.done (NN X [x,y] js scope g.objs.size { s with heap:=g } (upd H s.z (.lst [])) fp) rfl rfl rfl hc i [] s5 _ H5 Nn I5 (S (pins':=[]) I5 c1) Ot stop) (λr s6 z6=>?_) λ_ _ z=>z
   let[Y,I6]:=z6
   subst Y
   refine hR _ _ H5 s6 (I3.yP I6.os I6.base I6.hok I6.bare λb a=>#[(k b a).2.2.2.1,(k b a).2.1,(k b a).2.2.2.2.1,(k b a).2.2.2.2.2]) (I3.oV (Je _) I6.free) (let⟨m,hm,_⟩:=I6.loc;#[m,hm]) q
  .subst hX
   refine Jp (T.item (NN X [x,y] js scope g.objs.size { s with heap:=g } (upd H s.z (.lst [])) fp) rfl rfl rfl hc i [] s5 _ H5 Nn I5 (S (pins':=[]) I5 c1) Ot go) (λr s6 z6=>?_) λ_ _ z=>z
   let[u,Y,h6]:=z6
   subst Y
   refine Jp h6 (λ_ s7 z7=>?_) λ_ _ z=>z
   let[yv,H7,I7,r7,y7,O6,v1]:=z7
   let w1:=I7.pinned (S (pins':=[]) I7 v1) (T.obj _ _ O6)
   obtain⟨o0,o1,rfl⟩:∃o0 o1,os=[o0,o1]:=by
    exact rN u1
   refine Jp (r1 _ _ _ _ _ s7 _ H7 yv u (λl f=>l=cσ [MA yv,o1] js σ/\f=H7) w1 r7 #[5,rfl]) (λ_ s8 Z=>?_) λ_ _ z=>z
   let[n3,H8,I8,e8,x1]:=Z
   subst e8 x1
   let d1:∀{m':Nat}{o2:Option V}{t:Hp}{B:J5},Inv (NN X [x,y] js scope g.objs.size { s with heap:=g } (upd H s.z (.lst [])) fp) ([]++gW fp s7.heap) (cσ [MA yv,o2] js σ) t B->m'<n->W (i+1) m' t->
    ∃m,m<n/\∃i os f,os.length=2/\Inv (NN X [x,y] js scope g.objs.size { s with heap:=g } (upd H s.z (.lst [])) fp) [] (cσ os js σ) f B/\tn i B.heap/\(∀b∈fp,f b=MB)/\W i m f:=λ{m' o2 t B} G a0 y1=>by
    refine #[m',a0,i+1,_,t,5,G.eG,T.keep _ _ _ O6 λb a o e=>(G.pin (b,o) (Jt _ (Jt _ (bH a e)))).1,λb a=>?_,y1]
    let[o',e,d]:=T.obj _ _ O6 b a
    exact(G.pin (b,o') (Jt _ (Jt _ (bH a e)))).2.1
   refine Jp (p1 _ _ _ _ _ s8 _ _ _ I8 (step yv H8 y7 o1)) (λv2 s9 h9=>Jp h9 (λo3 B z1=>?_) λ_ _ z=>z) λ_ _ z=>z
   obtain⟨b2,c2,d2,J2,t,e2,G,T2,RK,M,U,⟨n0,u0⟩,b0⟩:=z1
   subst e2
   let L:Lh (Jn X.prog X.w) X.A (.compLoop (two elt (.Name x px) i1 (.Name y py) i2 scope pos) 1 (.ref b2) (.ref s.z) (kP scope g.objs.size X.env)) (λr s6=>match r with
    |.ok _=>∃m,m<n/\∃i os f,os.length=2/\Inv (NN X [x,y] js scope g.objs.size { s with heap:=g } (upd H s.z (.lst [])) fp) [] (cσ os js σ) f s6/\tn i s6.heap/\(∀b∈fp,f b=MB)/\W i m f
    |.error e=>False) B:=by
    refine G7 (λn2 F=>∃j o2 f,Inv (NN X [x,y] js scope g.objs.size { s with heap:=g } (upd H s.z (.lst [])) fp) ([]++gW fp s7.heap) (cσ [MA yv,o2] js σ) f F/\d2 j F.heap/\(∀b∈c2,f b=MB)/\U j n2 f) ?_ n0 #[0,o1,t,G,RK,λb a=>(M b a).1,u0]
    rintro n2 e1 ⟨j,o2,c0,f1,Ov,P,f2⟩
    rcases b0 j n2 c0 f2 with⟨d0,m',a0,w'⟩|⟨g2,e0⟩
    .refine Jp (T2.done (NN X [x,y] js scope g.objs.size { s with heap:=g } (upd H s.z (.lst [])) fp) rfl rfl rfl hc j _ e1 _ c0 Nn f1 (λb a=>#[P b a,(M b a).2]) Ov d0) (λr h2 f0=>?_) λ_ _ z=>z
     let[Y,j2]:=f0
     subst Y
     exact d1 j2 a0 w'
    .refine Jp (T2.item (NN X [x,y] js scope g.objs.size { s with heap:=g } (upd H s.z (.lst [])) fp) rfl rfl rfl hc j _ e1 _ c0 Nn f1 (λb a=>#[P b a,(M b a).2]) Ov g2) (λr h2 g0=>?_) λ_ _ z=>z
     let[u2,Y,k2]:=g0
     subst Y
     refine Jp k2 (λ_ m2 h0=>?_) λ_ _ z=>z
     let[zv,g1,p2,q2,r2,Of,h1]:=h0
     let j1:=p2.pinned (λb a=>#[h1 b a,(M b a).2]) (T2.obj _ _ Of)
     refine Jp (s1 _ _ _ _ _ m2 _ g1 zv u2 (λl f=>l=cσ [MA yv,MA zv] js σ/\f=g1) j1 q2 #[5,rfl]) (λ_ s2 i0=>?_) λ_ _ z=>z
     let[i3,t2,w2,x2,k1]:=i0
     subst x2 k1
     refine Jp (he _ _ _ _ _ s2 _ _ _ w2 (e0 zv t2 r2)) (λv y2 k0=>?_) λ_ _ z=>z
     let[vv,z2,a3,b3,ys,m1,n1,c3]:=k0
     refine Jp (jR (X:=(NN X [x,y] js scope g.objs.size { s with heap:=g } (upd H s.z (.lst [])) fp)) _ y2 _ z2 (.ref s.z) [vv] (.ref s.z) [v] (λ_ f=>∃n',n'<n2/\U (j+1) n' f) a3 rfl (.cons b3 .nil) #[_,ys,vv,5,5,m1,n1,c3]) (λ_ p3 q0=>?_) λ_ _ z=>z
     let[_,e3,r0,_,n',f3,g3]:=q0
     refine #[n',f3,j+1,_,e3,r0.eG,T2.keep _ _ _ Of λb a o e=>(r0.pin (b,o) (Jt _ (Jt _ (bH a e)))).1,λb a=>?_,g3]
     let[o',e,d]:=T2.obj _ _ Of b a
     exact(r0.pin (b,o') (Jt _ (Jt _ (bH a e)))).2.1
   exact Dd L (T2.self X.A 0 _ _ _ RK L)
 exact codeAny_compStart_list O (T.self X.A 0 _ _ _ Pn O)
def Fu(c:NC X [x,y] js scope)(l:X.calm=MC)(n:PI X (.Name x px) i1 wi)(g:∀C s H fp,PI (NN X [x,y] js scope C s H fp) (.Name y py) i2 wi2)(p:∀C s H fp,PE (NN X [x,y] js scope C s H fp) elt te) (r:∀x,JG i1 X.env x=pure x:=by intro _;rfl) (i:∀(env:Env) x,JG i2 env x=pure x:=by intro _ _;rfl) : PE X (two elt (.Name x px) i1 (.Name y py) i2 scope pos) (CD js wi wi2 te):=by intro MP s σ H Q I h;unfold two;rw[eval_ListComp];refine Lq (use:=MB) rfl r (c.zZ I.ok) c.kind c.names (NJ (n MP s σ H _ I h) λv K h1=>NJ h1 λt L a=>?_);let[it,fp,tn,J,M,e,u,T,st,z,w]:=a;subst e;refine A6 (R:=λj C=>compPost (Jn X.prog X.w) X.A X.xe MB (EP X MP σ Q) j C) c l g i p u T st z w λD C B E F f d q=>?_;let[m,G]:=d;exact #[m,G,λN k=>#[.ref D,B,F.turned (t':=E.toks) (λb o ne e=>k.extBut b o ne e) f.1 f.2.1 f.2.2.2.1 f.2.2.2.2.1 f.2.2.2.2.2,5,q]]
end
def Hc(I:QL)(js:q7)(h:OL)(te:TD)(δ:DS)(g:MH)(Q:DK):Prop:=I.n<=1000/\∀p,g p=MB->∃W:Nat->sg->MH->Prop,W 0 [] (av g p (.lst []))/\(∀i b M,i<=I.n->W i b M->I.C M)/\
 (∀i b d M,i<I.n->I.item i=MA d->W i b M->h (cδ [MA d,MB] js δ) M λc k=>c.n<=1000/\∃U:Nat->sg->MH->Prop,U 0 b k/\(∀j a M,j<=c.n->U j a M->c.C M)/\
  (∀j a e M,j<c.n->c.item j=MA e->U j a M->te (cδ [MA d,MA e] js δ) M λv l=>∃f,Sub f l/\f p=MA (.lst a)/\U (j+1) (a++[v]) (av f p (.lst (a++[v]))))/\∀a M,U c.n a M->W (i+1) a M)/\∀b M,W I.n b M->Q (.ref p) M
def CI(a:OL)(js:q7)(b:OL)(te:TD):TD:=λδ M Q=>a δ M λI c=>Hc I js b te δ c Q
def tu{K:J1}{H:Hp}{d:D}{v:V}(o:Option V)(r:Rep K H d v):Slots K H [MA d,MB] [MA v,o]:=by
 refine #[5,λi e h=>?_]
 match i,h with
 |0,h=>cases h;exact #[v,5,r]
 |1,h=>cases h
theorem tf{K:J1}{H:Hp}{d e:D}{v u:V}(r:Rep K H d v)(q:Rep K H e u):Slots K H [MA d,MA e] [MA v,MA u]:=ig (.cons r (.cons q .nil))
def xp{K:J1}{wd MU:OL}{js:q7}{te:TD}{σ:L2.St}{H:Hp}{Q:VK}(h:lift K (CI wd js MU te) σ H Q):CD js (kg K wd) (kg K MU) (lift K te) σ H Q:=by
 let[δ,M,R,L,hM,q,N]:=h;refine #[δ,M,_,L,hM,q,λI M1 H1 J g1 a1 O P p S=>?_];let[hn,O]:=O;let[W,w0,hC,C,done]:=O p (a1.fresh S);refine #[λi m t=>m=I.n-i/\i<=I.n/\ND K H1 t/\∃w M,w.length<=i*1000/\NM K t M/\W i w M,#[I.n,by simp,K3 _,.new S,[],_,K3 _,a1.j4 S .nil,w0],?_];rintro i m t ⟨rfl,T,f,w,x,hl,F,D⟩;by_cases a:i<I.n
 .refine .inr #[P.go i t x a f F (hC _ _ _ T D),λv H3 hy o=>?_];let[V,a3,d,ed,rd]:=P.yld i t x v H3 a f F (hC _ _ _ T D) hy;let q3:=C i w d x a ed D;refine #[cδ [MA d,MB] js δ,x,_,jk (js:=js) (L.mono ((g1.trans f).trans V)) (tu o rd),a3,q3,λy M4 H4 J2 X a4 Y g=>?_];let[b0,U,u0,k,l,r]:=Y;refine #[λj n z=>n=y.n-j/\j<=y.n/\ND K H4 z/\∃A M,A.length<=i*1000+j/\NM K z M/\U j A M,#[y.n,by simp,K3 _,.refl,w,M4,(),a4,u0],?_];rintro j n z ⟨rfl,Z,s,A,B,c0,G,E⟩;by_cases b:j<y.n
  .refine .inr #[g.go j z B b s G (k _ _ _ Z E),λu H6 a0=>?_];let[g6,a6,e,ee,re]:=g.yld j z B u H6 b s G (k _ _ _ Z E) a0;let s6:=jk (js:=js) (L.mono (((((g1.trans f).trans V).trans X).trans s).trans g6)) (tf (rd.mono ((X.trans s).trans g6)) re);refine #[cδ [MA d,MA e] js δ,B,_,s6,a6,l j A e B b ee E,λvv M' uu H7 g7 r7 a7 c=>?_];let[M8,s8,e8,w8]:=c;let[ts,hx,rs]:=(a7.sub s8) _ _ e8;refine #[ts,hx,?_,y.n-(j+1),(),5,b,((s.trans g6).trans g7).trans (.lst hx),A++[vv],_,by simp;omega,(a7.sub s8).vg hx (rs.append (.cons r7 .nil)),w8];rw[<-rs.length];let sz:1000000<=Jo:=NG rfl;omega
  .obtain rfl:j=y.n:=()
   exact .inl #[g.stop z B s G (k _ _ _ Z E),I.n-(i+1),(),5,a,((f.trans V).trans X).trans s,A,B,(),G,r _ _ E]
 .obtain rfl:i=I.n:=()
  exact .inl #[P.stop t x f F (hC _ _ _ T D),N _ _ _ _ (g1.trans f) (by rw[Rep]) F (done w x D)]
section
variable{X:Cx}{x y:Str}{px py pos:Pos}{js:q7}{scope:L9}{elt i1 i2:pv}{te:TD}{wd MU:OL}
theorem zm(c:NC X [x,y] js scope)(d:X.calm=MC)(e:DI X (.Name x px) i1 wd)(a:∀C s H fp,DI (NN X [x,y] js scope C s H fp) (.Name y py) i2 MU)(f:∀C s H fp,DE (NN X [x,y] js scope C s H fp) elt te) (g:∀x,JG i1 X.env x=pure x:=by intro _;rfl) (b:∀(env:Env) x,JG i2 env x=pure x:=by intro _ _;rfl) : DE X (.ListComp elt [#[.Name x px,i1,[],0],#[.Name y py,i2,[],0]] scope pos) (CI wd js MU te):=aX (Fu (te:=lift X.K te) (wi2:=kg X.K MU) c d e a f g b) λ_ _ _ h=>xp h
end
def N8(k:Int):Wl:=(k,0,k,1)
def NZ(k y:Int):Wl:=(k,y,k+1,y)
def QB(m:Int):Nat->r8
 |0=>[N8 m]
 |i+1=>QB m i++[NZ (i:Int) 0,NZ (i:Int) 1,N8 (i:Int)]
theorem tW(m:Int):∀i:Nat,(QB m i).length=1+3*i
 |0=>rfl
 |i+1=>by rw[QB,Ke,tW m i];simp;omega
theorem og{m:Int}{w:Wl}:∀{i:Nat},w∈QB m i->w=N8 m\/∃k:Nat,k<i/\(w=NZ (k:Int) 0\/w=NZ (k:Int) 1\/w=N8 (k:Int))
 |0,h=>.inl (Ku.mp h)
 |i+1,h=>by
  rw[QB,Jv]at h
  rcases h with h|h
  .rcases og h with h|⟨k,a,h⟩
   .exact .inl h
   .exact .inr #[k,(),h]
  .simp only[JM,List.not_mem_nil,or_false]at h
   exact .inr #[i,(),h]
def xv(w:Wl):Prop:=∃k:Int,0<=k/\k<=13/\(w=N8 k\/w=NZ k 0\/w=NZ k 1)
def D0{m:Nat}{w:Wl}(a:m<=13)(h:w∈QB (m:Int) m):xv w:=by
 rcases og h with h|⟨k,b,h|h|h⟩
 .exact #[m,(),(),.inl h]
 .exact #[k,(),(),.inr (.inl h)]
 .exact #[k,(),(),.inr (.inr h)]
 .exact #[k,(),(),.inl h]
def GX{w:Wl}(h:xv w):NK w:=by
 obtain⟨k,h0,h1,rfl|rfl|rfl⟩:=h
 .exact #[by simp only[N8];omega,by simp only[N8];omega,by simp only[N8];omega,by simp only[N8];omega,by simp only[N8,l1,l2,la];omega]
 .exact #[by simp only[NZ];omega,by simp only[NZ];omega,by simp only[NZ];omega,by simp only[NZ];omega,by simp only[NZ,l1,l2,la];omega]
 .exact #[by simp only[NZ];omega,by simp only[NZ];omega,by simp only[NZ];omega,by simp only[NZ];omega,by simp only[NZ,l1,l2,la];omega]
def m7(k x y:Int):sd (N8 k) x y=k-x:=by unfold sd OA N8;simp;omega
def oJ(k c x y:Int):sd (NZ k c) x y=y-c:=by unfold sd OA NZ;simp only;rw[show k+1-k=1 by omega,Int.sub_self,Int.one_mul,Int.zero_mul,Int.sub_zero]
def qd(z:Int):0<=JH z*JH z:=by
 rcases JB z 0 with h|h|h
 .rw[JL h];decide
 .subst h;decide
 .rw[JZ h];decide
def An(z:Int):0<=JH z*JH (z-1):=by
 rcases JB z 0 with h|h|h
 .rw[JL h,JL ()];decide
 .subst h;decide
 .rcases JB (z-1) 0 with g|g|g
  .omega
  .rw[g];simp
  .rw[JZ h,JZ g];decide
def BV{U V:Wl}(f:xv U)(g:xv V)(ne:U≠V):N1 U V:=by
 let h:∀k j:Int,k≠j->N1 (N8 k) (N8 j):=λk j e=>by
  refine #[?_,?_,?_,?_,?_,.inl ?_]
  .simp only[l1,l2,la,N8];omega
  .simp only[aV,NO,NS,m7];simp only[l1,l2,la,N8];omega
  .simp only[aV,NO,NS,m7];simp only[l1,l2,la,N8];omega
  .simp only[aV,NO,NS,m7];simp only[l1,l2,la,N8];omega
  .simp only[aV,NO,NS,m7];simp only[l1,l2,la,N8];omega
  .simp only[NO,NS,m7];exact qd _
 let c:∀k j y:Int,(y=0\/y=1)->N1 (N8 k) (NZ j y):=λk j y i=>by
  refine #[?_,?_,?_,?_,?_,.inl ?_]
  .simp only[l1,l2,la,N8,NZ];omega
  .simp only[aV,NO,NS,m7,oJ];simp only[l1,l2,la,N8,NZ];omega
  .simp only[aV,NO,NS,m7,oJ];simp only[l1,l2,la,N8,NZ];omega
  .simp only[aV,NO,NS,m7,oJ];simp only[l1,l2,la,N8,NZ];omega
  .simp only[aV,NO,NS,m7,oJ];simp only[l1,l2,la,N8,NZ];omega
  .simp only[NO,NS,m7];have:=An (k-j);rw[show k-j-1=k-(j+1) by omega]at this;exact this
 let d:∀k y j x:Int,(y=0\/y=1)->(x=0\/x=1)->¬(k=j/\y=x)->N1 (NZ k y) (NZ j x):=λk y j x i hx e=>by
  refine #[?_,?_,?_,?_,?_,.inl ?_]
  .simp only[l1,l2,la,NZ];omega
  .simp only[aV,NO,NS,oJ];simp only[l1,l2,la,NZ];omega
  .simp only[aV,NO,NS,oJ];simp only[l1,l2,la,NZ];omega
  .simp only[aV,NO,NS,oJ];simp only[l1,l2,la,NZ];omega
  .simp only[aV,NO,NS,oJ];simp only[l1,l2,la,NZ];omega
  .simp only[NO,NS,oJ];exact qd _
 let a:(0:Int)=0\/(0:Int)=1:=.inl rfl;let b:(1:Int)=0\/(1:Int)=1:=.inr rfl;obtain⟨k,h0,h1,rfl|rfl|rfl⟩:=f<;>obtain⟨j,g0,g1,rfl|rfl|rfl⟩:=g
 .exact h k j λz=>ne (by rw[z])
 .exact c k j 0 a
 .exact c k j 1 b
 .exact(c j k 0 a).swap
 .exact d k 0 j 0 a a λz=>ne (by rw[z.1])
 .exact d k 0 j 1 a b λz=>()
 .exact(c j k 1 b).swap
 .exact d k 1 j 0 b a λz=>()
 .exact d k 1 j 1 b b λz=>ne (by rw[z.1])
theorem nR(m:Nat):∀i:Nat,i<=m->(QB (m:Int) i).Nodup
 |0,_=>LC.mpr #[by simp,List.nodup_nil]
 |i+1,h=>by
  rw[QB,List.nodup_append]
  refine #[nR m i (),by simp[NZ,N8],λa c b f e=>?_]
  subst e
  let d:a=NZ (i:Int) 0\/a=NZ (i:Int) 1\/a=N8 (i:Int):=‹f›
  rcases og c with c|⟨k,g,c⟩
  .subst c
   rcases d with z|z|z<;>simp only[N8,NZ,Prod.mk.injEq]at z<;>omega
  .rcases c with rfl|rfl|rfl<;>rcases d with z|z|z<;>simp only[N8,NZ,Prod.mk.injEq]at z<;>omega
def CB{m:Nat}{ws:r8}(f:m<=13)(h:ws.Perm (QB (m:Int) m)):PF ws/\(∀w∈ws,NK w)/\ws.length<=40:=by let is:∀w∈ws,xv w:=λw a=>D0 f (h.mem_iff.mp a);let nd:ws.Nodup:=h.nodup_iff.mpr (nR m m (Je _));refine #[λi j U V b c d=>?_,λw a=>GX (is w a),by rw[h.length_eq,tW];omega];refine BV (is U (Jg c)) (is V (Jg d)) λe=>?_;subst e;let[h1,e1]:=J8.mp c;let[h2,e2]:=J8.mp d;exact b ((List.getElem_inj nd).mp (e1.trans e2.symm))
def EZ{t b X Y:Int}(a:0<t)(c:0<b){U V:Wl}(g:NK U)(h:NK V)(ne:¬(l1 U=l1 V/\l2 U=l2 V)):JS (Rh t b X Y U) (Rh t b X Y V)=MD:=by let h1:=ji (X:=X) (Y:=Y) (p:=U.1) (q:=U.2.1) (e:=V.1) (f:=V.2.1) a c g.b h.b;let h2:=ji (X:=X) (Y:=Y) (p:=U.2.2.1) (q:=U.2.2.2) (e:=V.2.2.1) (f:=V.2.2.2) a c g.d h.d;unfold Rh SS;rw[JS,Kt,Kt,Kt,Mw,Mw,Bool.and_true,<-Bool.decide_and,decide_eq_false_iff_not,h1,h2];exact ne
abbrev Vc:=Int×Int
def vc(a b:Vc):Int:=OA a.1 a.2 b.1 b.2
def vl(a:Vc):Int:=la a.1 a.2
def jX(a b:Vc):vc b a=-vc a b:=by unfold vc OA;grind
def Hj(b x y z:Vc):vc b y*vc x z=vc b x*vc y z+vc b z*vc x y:=by unfold vc OA;grind
def E1(a b c:Vc)(h:vc a b=0):vc b c*vl a=vc a c*vl b:=by unfold vc OA at *;unfold vl la;grind
def R7(a b:Vc):Prop:=vc a b=0->vl a*vl b<0
def jc(z:Int):(z<0/\JH z=-1)\/(z=0/\JH z=0)\/(0<z/\JH z=1):=by
 rcases JB z 0 with h|h|h
 .exact .inl #[h,JL h]
 .exact .inr (.inl #[h,by subst h;rfl])
 .exact .inr (.inr #[h,JZ h])
def i9{p q:Int}(h:p*q<0):(p<0/\0<q)\/(0<p/\q<0):=by
 rcases JB p 0 with a|a|a
 .rcases JB q 0 with b|b|b
  .have:=K8 a b;omega
  .subst b;simp at h
  .exact .inl #[a,b]
 .subst a;simp at h
 .rcases JB q 0 with b|b|b
  .exact .inr #[a,b]
  .subst b;simp at h
  .have:=JC a b;omega
def YG{a b:Vc}(c:Vc)(z:vc a b=0)(h:vl a*vl b<0):JH (vc b c)=-JH (vc a c):=by
 let e:=E1 a b c z;generalize vc b c=p at *;generalize vc a c=q at *;let j:∀{x y:Int},0<x->0<y->0<x*y:=λh1 h2=>JC h1 h2
 rcases i9 h with⟨h1,h2⟩|⟨h1,h2⟩<;>rcases jc p with⟨d,e1⟩|⟨d,e1⟩|⟨d,e1⟩<;>rcases jc q with⟨f,e2⟩|⟨f,e2⟩|⟨f,e2⟩<;>rw[e1,e2]<;>first|rfl|(exfalso;subst_vars;first
  |(let g:=K8 d h1;let i:=JX f h2;omega)
  |(let g:=JX d h1;let i:=K8 f h2;omega)
  |(let g:=JA d h1;let i:=JC f h2;omega)
  |(let g:=JC d h1;let i:=JA f h2;omega)
  |(let g:=K8 d h1;omega)
  |(let g:=JX d h1;omega)
  |(let g:=JA d h1;omega)
  |(let g:=JC d h1;omega)
  |(let i:=K8 f h2;omega)
  |(let i:=JX f h2;omega)
  |(let i:=JA f h2;omega)
  |(let i:=JC f h2;omega))
def QC(b x y:Vc):Bool:=if JH (vc b x)=JH (vc b y)then decide (vc x y<0)else decide (JH (vc b x)<JH (vc b y))
def lz(b x y:Vc):QC b x y=MC↔JH (vc b x)<JH (vc b y)\/(JH (vc b x)=JH (vc b y)/\vc x y<0):=by
 unfold QC;split
 .rename_i h;simp;omega
 .rename_i h;simp;omega
def vT{b x y:Vc}(h1:R7 b x)(h2:R7 b y)(a:R7 x y):QC b x y=MC\/QC b y x=MC:=by
 rw[lz,lz];rcases JB (vc x y) 0 with h|h|h
 .omega
 .have o:=a h;let e:=YG b h o;let e1:vc x b=-vc b x:=jX b x;let e2:vc y b=-vc b y:=jX b y;rw[e1,e2,Int.sign_neg,Int.sign_neg]at e;by_cases ne:JH (vc b x)=JH (vc b y)
  .have c:JH (vc b x)=0:=()
   let d:JH (vc b y)=0:=()
   let f:=i9 (h1 (Int.sign_eq_zero_iff_zero.mp c));let g:=i9 (h2 (Int.sign_eq_zero_iff_zero.mp d));let i:=i9 o;omega
  .omega
 .have:=jX x y;omega
def vW{b x y z:Vc}(h1:R7 b x)(h2:R7 b y)(l:R7 b z)(c:QC b x y=MC)(a:QC b y z=MC):QC b x z=MC:=by
 rw[lz]at *;rcases c with c|⟨c,b1⟩
 .left;rcases a with a|⟨a,d⟩<;>omega
 .rcases a with a|⟨a,d⟩
  .left;omega
  .right;exists ();let i:=Hj b x y z;rcases jc (vc b y)with⟨k,e⟩|⟨k,e⟩|⟨k,e⟩
   .have kx:vc b x<0:=by rcases jc (vc b x)with q|q|q<;>omega
    let f:vc b z<0:=by rcases jc (vc b z)with q|q|q<;>omega
    let g:=K8 kx d;let h:=K8 f b1;rcases JB (vc x z) 0 with q|q|q
    .exact q
    .rw[q]at i;simp at i;omega
    .have:=JX k q;omega
   .exfalso;let kx:vc b x=0:=by rcases jc (vc b x)with q|q|q<;>omega
    let j:=h1 kx;let e:=YG y kx j;have:JH (vc x y)=-1:=JL b1;rw[k]at e;simp at e;omega
   .have kx:0<vc b x:=by rcases jc (vc b x)with q|q|q<;>omega
    let f:0<vc b z:=by rcases jc (vc b z)with q|q|q<;>omega
    let g:=JA kx d;let h:=JA f b1;rcases JB (vc x z) 0 with q|q|q
    .exact q
    .rw[q]at i;simp at i;omega
    .have:=JC k q;omega
def AY{a b c:Vc}(h:R7 a b)(e:QC a c b=MC)(d:QC b c a=MC):False:=by
 rw[lz]at e d;let e1:vc b a=-vc a b:=jX a b;let e2:vc c b=-vc b c:=jX b c;let e3:vc c a=-vc a c:=jX a c;rw[e1,Int.sign_neg]at d;rw[e2]at e;rw[e3]at d;by_cases z:vc a b=0
 .have o:=YG c z (h z);rw[z]at e d;simp at e d;rcases jc (vc a c)with q|q|q<;>rcases jc (vc b c)with r|r|r<;>omega
 .rcases jc (vc a b)with p|p|p<;>rcases jc (vc a c)with q|q|q<;>rcases jc (vc b c)with r|r|r<;>omega
def rev(w:Wl):Wl:=(w.2.2.1,w.2.2.2,w.1,w.2.1)
def fw(ws:r8)(f:Nat):Wl:=if f%2=0 then NH ws ((f/2:Nat):Int)else rev (NH ws ((f/2:Nat):Int))
def fa(ws:r8)(f:Nat):Vc:=((fw ws f).1,(fw ws f).2.1)
def fb(ws:r8)(f:Nat):Vc:=((fw ws f).2.2.1,(fw ws f).2.2.2)
def fd(ws:r8)(f:Nat):Vc:=((fw ws f).2.2.1-(fw ws f).1,(fw ws f).2.2.2-(fw ws f).2.1)
def fx(f:Nat):Nat:=if f%2=0 then f+1 else f-1
def tS(f:Nat):fx f/2=f/2/\(fx f)%2=1-f%2:=by unfold fx;split<;>omega
def Cv(f:Nat):fx (fx f)=f:=by unfold fx;split<;>split<;>omega
def lH{f n:Nat}(h:f<2*n):fx f<2*n:=by unfold fx;split<;>omega
def Cw(ws:r8)(f:Nat):fw ws (fx f)=rev (fw ws f):=by
 unfold fw;rw[(tS f).1,(tS f).2];by_cases h:f%2=0
 .rw[ME (),MF h]
 .rw[MF (),ME h];rfl
def l6(ws:r8)(f:Nat):fa ws (fx f)=fb ws f:=by unfold fa fb;rw[Cw];rfl
def jD{ws:r8}(d:∀w∈ws,NK w)(hF:PF ws){g h:Nat}(t:g<2*ws.length)(x:h<2*ws.length)(ne:g≠h)(e:fa ws g=fa ws h):R7 (fd ws g) (fd ws h):=by
 let[g1,_,f]:=aW (ws:=ws) (k:=((g/2:Nat):Int)) () ();let[h1,_,i]:=aW (ws:=ws) (k:=((h/2:Nat):Int)) () ();let U:=d _ f;let V:=d _ i;rw[Kl]at g1 h1;unfold fa at e;let e1:=congrArg Prod.fst e;let e2:=congrArg Prod.snd e;unfold fd;unfold fw at *;by_cases a:g/2=h/2
 .exfalso;rw[<-a]at e1 e2;let lt:=U.lt;unfold l1 l2 la at lt;by_cases p:g%2=0
  .rw[MF p,ME (():¬h%2=0)]at e1 e2;unfold rev at e1 e2;dsimp only at e1 e2;omega
  .rw[ME p,MF (():h%2=0)]at e1 e2;unfold rev at e1 e2;dsimp only at e1 e2;omega
 .have F:=hF _ _ _ _ a g1 h1;generalize NH ws ((g/2:Nat):Int)=u at *;generalize NH ws ((h/2:Nat):Int)=v at *;intro z;let y:=U.lt;let A:=V.lt;unfold vc OA at z;let j:=F.e2;let l:=F.e4;let m:=F.e1;let n:=F.e3;let B:=F.ne;unfold aV at m j n l;unfold vl;by_cases p:g%2=0<;>by_cases q:h%2=0
  .rw[MF p,MF q]at z e1 e2 ⊢;exfalso;simp only[]at z e1 e2;let o:NS u v=0:=by unfold NS sd OA;grind
   let r:NS v u=0:=by unfold NS sd OA;grind
   let s:l1 u=l1 v:=by unfold l1;rw[e1,e2]
   omega
  .rw[MF p,ME q]at z e1 e2 ⊢;unfold rev at *;simp only[]at z e1 e2 ⊢;let b:la (u.2.2.1-u.1) (u.2.2.2-u.2.1)=l2 u-l1 u:=by unfold l1 l2 la;omega
   let c:la (v.1-v.2.2.1) (v.2.1-v.2.2.2)=-(l2 v-l1 v):=by unfold l1 l2 la;omega
   rw[b,c];exact JA () ()
  .rw[ME p,MF q]at z e1 e2 ⊢;unfold rev at *;simp only[]at z e1 e2 ⊢;let b:la (u.1-u.2.2.1) (u.2.1-u.2.2.2)=-(l2 u-l1 u):=by unfold l1 l2 la;omega
   let c:la (v.2.2.1-v.1) (v.2.2.2-v.2.1)=l2 v-l1 v:=by unfold l1 l2 la;omega
   rw[b,c];exact JX () ()
  .rw[ME p,ME q]at z e1 e2 ⊢;unfold rev at *;exfalso;simp only[]at z e1 e2;let o:NO u v=0:=by unfold NO sd OA;grind
   let r:NO v u=0:=by unfold NO sd OA;grind
   let s:l2 u=l2 v:=by unfold l2;rw[e1,e2]
   omega
def dO(R:Nat->Nat->Bool)(o:Option Nat)(g:Nat):Option Nat:=match o with
 |none=>MA g
 |some h=>if R g h=MC then MA g else MA h
theorem fold_min{R:Nat->Nat->Bool}{S:Nat->Prop}(a:∀x y,S x->S y->x≠y->R x y=MC\/R y x=MC)(c:∀x y z,S x->S y->S z->R x y=MC->R y z=MC->R x z=MC) :
 ∀(l:q7)(h:Nat),S h->(∀x∈l,S x)->∃m,l.foldl (dO R) (MA h)=MA m/\S m/\(m=h\/m∈l)/\(h=m\/R m h=MC)/\∀x∈l,x=m\/R m x=MC
 |[],h,sh,_=>#[h,5,sh,.inl rfl,.inl rfl,λx hx=>by cases hx]
 |g::l,h,sh,hl=>by
  let d:=hl g (_)
  rw[List.foldl_cons]
  by_cases r:R g h=MC
  .obtain⟨m,e,b,mem,h1,h2⟩:=fold_min a c l g d (λx hx=>hl x (by simp[hx]))
   let f:dO R (MA h) g=MA g:=by unfold dO;simp[r]
   rw[f]
   exists m,e,b,?_,?_
   .rcases mem with z|z
    .right;simp[z]
    .right;simp[z]
   .right
    rcases h1 with z|z
    .rw[<-z];exact r
    .exact c _ _ _ b d sh z r
   .intro x hx
    rcases JM.mp hx with z|z
    .subst z;exact h1
    .exact h2 x z
  .obtain⟨m,e,b,mem,h1,h2⟩:=fold_min a c l h sh (λx hx=>hl x (by simp[hx]))
   let f:dO R (MA h) g=MA h:=by unfold dO;simp[r]
   rw[f]
   exists m,e,b,?_,h1
   .rcases mem with z|z
    .exact .inl z
    .right;simp[z]
   .intro x hx
    rcases JM.mp hx with z|z
    .subst z
     by_cases ne:x=h
     .subst ne;exact h1
     .rcases a x h d sh ne with q|q
      .exact absurd q r
      .rcases h1 with z|z
       .right;rw[<-z];exact q
       .right;exact c _ _ _ b sh d z q
    .exact h2 x z
def xM(ws:r8)(f g:Nat):Bool:=decide (fa ws g=fb ws f)&&decide (g≠fx f)
def jO(ws:r8)(f:Nat):q7:=(Jq (2*ws.length)).filter (xM ws f)
def Po(ws:r8)(f g h:Nat):Bool:=QC (fd ws (fx f)) (fd ws g) (fd ws h)
def bh(ws:r8)(f:Nat):Nat:=((jO ws f).foldl (dO (Po ws f)) MB).getD (fx f)
def cZ{ws:r8}{f g:Nat}:g∈jO ws f↔g<2*ws.length/\fa ws g=fb ws f/\g≠fx f:=by unfold jO xM;simp[K1]
def k9{ws:r8}(i:∀w∈ws,NK w)(hF:PF ws){f:Nat}(j:f<2*ws.length):(jO ws f=[]/\bh ws f=fx f)\/(bh ws f∈jO ws f/\∀x∈jO ws f,x=bh ws f\/Po ws f (bh ws f) x=MC):=by
 unfold bh;cases c:jO ws f with
 |nil=>exact .inl #[5,rfl]
 |cons g l=>
  right
  let sub:∀x∈g::l,x<2*ws.length/\fa ws x=fb ws f/\x≠fx f:=λx hx=>cZ.mp (by rw[c];exact hx)
  let d:∀x,(x<2*ws.length/\fa ws x=fb ws f/\x≠fx f)->R7 (fd ws (fx f)) (fd ws x):=λx hx=>jD i hF (lH j) hx.1 (λz=>hx.2.2 z.symm) (by rw[l6,hx.2.1])
  let[m,e,o,mem,h1,h2]:=fold_min (R:=Po ws f) (S:=λx=>x<2*ws.length/\fa ws x=fb ws f/\x≠fx f) (λx y hx h ne=>vT (d x hx) (d y h) (jD i hF hx.1 h.1 ne (by rw[hx.2.1,h.2.1]))) (λx y z hx h k a b=>vW (d x hx) (d y h) (d z k) a b) l g (sub g (_)) (λx hx=>sub x (by simp[hx]))
  rw[List.foldl_cons]
  let n:dO (Po ws f) MB g=MA g:=rfl
  rw[n,e]
  simp only[Option.getD_some]
  refine #[by rcases mem with z|z<;>simp[z],λx hx=>?_]
  rcases JM.mp hx with z|z
  .subst z;exact h1
  .exact h2 x z
def F4{ws:r8}(b:∀w∈ws,NK w)(hF:PF ws){f:Nat}(a:f<2*ws.length):bh ws f<2*ws.length:=by
 rcases k9 b hF a with⟨_,e⟩|⟨h,_⟩
 .rw[e];exact lH a
 .exact(cZ.mp h).1
def Cm{ws:r8}(a:∀w∈ws,NK w)(hF:PF ws){f:Nat}(b:f<2*ws.length):fa ws (bh ws f)=fb ws f:=by
 rcases k9 a hF b with⟨_,e⟩|⟨h,_⟩
 .rw[e,l6]
 .exact(cZ.mp h).2.1
def Ef{ws:r8}(a:∀w∈ws,NK w)(hF:PF ws){f g:Nat}(b:f<2*ws.length)(d:g<2*ws.length)(e:bh ws f=bh ws g):f=g:=by
 by_cases ne:fx f=fx g
 .rw[<-Cv f,ne,Cv]
 .exfalso;let c:fb ws f=fb ws g:=by rw[<-Cm a hF b,<-Cm a hF d,e]
  let h:fx g∈jO ws f:=cZ.mpr #[lH d,by rw[l6,c],λz=>ne z.symm];let i:fx f∈jO ws g:=cZ.mpr #[lH b,by rw[l6,c],ne];rcases k9 a hF b with⟨z,_⟩|⟨k,l⟩
  .rw[z]at h;cases h
  .rcases k9 a hF d with⟨z,_⟩|⟨m,n⟩
   .rw[z]at i;cases i
   .have n1:=(cZ.mp k).2.2;let n2:=(cZ.mp m).2.2;let o:=(l _ h).resolve_left (λz=>n2 (by rw[<-e,<-z]));let j:=(n _ i).resolve_left (λz=>n1 (by rw[e,<-z]));rw[<-e]at j;exact AY (jD a hF (lH b) (lH d) ne (by rw[l6,l6,c])) o j
def Og(ws:r8)(f:Nat):Nat->Nat
 |0=>f
 |k+1=>bh ws (Og ws f k)
def rn(ws:r8)(f k:Nat):q7:=(Jq (k+1)).map (Og ws f)
def NR(ws:r8)(f k:Nat):Prop:=∀i j,i<j->j<=k->Og ws f i≠Og ws f j
def j8(ws:r8)(f k:Nat):(rn ws f k).length=k+1:=by simp[rn]
def B5(ws:r8)(f k:Nat):rn ws f (k+1)=rn ws f k++[Og ws f (k+1)]:=by unfold rn;rw[LQ,JE];rfl
theorem xA:∀(m:Nat)(l:q7),l.Nodup->(∀x∈l,x<m)->l.length<=m
 |0,l,_,h=>by
  cases l with
  |nil=>simp
  |cons a l=>exact absurd (h a (_)) ()
 |m+1,l,nd,h=>by
  let h1:=xA m (l.erase m) (nd.erase m) (λx hx=>by
   have:=h x (List.mem_of_mem_erase hx)
   let ne:x≠m:=λz=>by
    subst z
    exact absurd hx (nd.not_mem_erase)
   omega)
  have:=List.length_erase_le (a:=m) (l:=l)
  by_cases b:m∈l
  .have:=List.length_erase_of_mem b;omega
  .rw[List.erase_of_not_mem b]at h1;omega
section
variable{ws:r8}(hU:∀w∈ws,NK w)(hF:PF ws){f:Nat}(hf:f<2*ws.length)
include hU hF hf
theorem jM:∀k,Og ws f k<2*ws.length
 |0=>hf
 |k+1=>F4 hU hF (jM k)
theorem Bp{k:Nat}(h:NR ws f k)(ne:bh ws (Og ws f k)≠f):NR ws f (k+1):=λi j a b e=>by
 by_cases q:j<=k
 .exact h i j a q e
 .have:j=k+1:=()
  subst this;cases i with
  |zero=>exact ne e.symm
  |succ i=>exact h i k () (Je _) (Ef hU hF (jM hU hF hf i) (jM hU hF hf k) e)
def u5{k:Nat}(h:NR ws f k):k+1<=2*ws.length:=by
 rw[<-j8 ws f k];refine xA _ _ ?_ (λx hx=>?_)
 .unfold rn;rw[List.nodup_iff_pairwise_ne,LW];refine List.Pairwise.imp_of_mem ?_ (List.pairwise_lt_range (n:=k+1));intro a b e d c;exact h a b c (by have:=Ls.mp d;omega)
 .unfold rn at hx;let[i,_,5]:=JO.mp hx;exact jM hU hF hf i
end
structure Rng(ws:r8)(r:q7):Prop where
 ex:∃f k,f<2*ws.length/\k+1<=2*ws.length/\r=rn ws f k/\bh ws (Og ws f k)=f
theorem BJ(ws:r8)(f:Nat):NR ws f 0:=λi j a b=>()
def Bs{n d:Int}(hd:0<d):((Rat.divInt n d).den:Int) ∣ d:=by rw[Rat.den_divInt,ME ()];let h1:d.natAbs/d.gcd n ∣ d.natAbs:=Nat.div_dvd_of_dvd (Int.ofNat_dvd_left.mp (Int.gcd_dvd_left d n));exact Int.ofNat_dvd_left.mpr h1
section
variable{X:Cx}
def FP:Nx:=QH (λ_ _=>True) λi j=>.int (Builtin.bitXor i j)
theorem En:OC X (Ll .BitXor) FP:=dW (Sd Dx) λ_ _ _=>by rw[Rep]
variable{o:pv}{to:TD}{apos MT:Pos}
end
theorem EC:∀f:Nat,f<80->Builtin.bitXor (f:Int) 1=((fx f:Nat):Int):=⋯
def SU(n:Nat)(S:Int->Bool):J1->Hp->pd->Prop:=λK H a=>∃kvs:List (Key×V),H a=MA (.dK kvs)/\kvs.length<=n/\∀i:Int,(kvs.any λb=>decide (b.1=Sum.inl i))=S i
def RV(n:Nat)(S:Int->Bool):MO:=.gen (SU n S)
section
variable{K:J1}{H H':Hp}{M:MH}{a:pd}
theorem SU.xw{n:Nat}{S:Int->Bool}(h:SU n S K H a):mQ K H a (RV n S):=#[h,(by let[kvs,h1,_]:=h;rw[h1];simp),λH' g e=>let⟨kvs,h1,h2⟩:=h;#[kvs,e.trans h1,h2]]
theorem NM.di{n:Nat}{S:Int->Bool}(h:NM K H M)(e:M a=MA (RV n S)):SU n S K H a:=(h a _ e).1
theorem NM.HF{p:pd}(h:NM K H M)(b:H p=MB):NM K (upd H p (.dK [])) (av M p (RV 0 λ_=>MD)):=λa u e=>by
 by_cases ne:a=p
 .subst ne;rw[ag]at e;cases e;exact SU.xw #[[],aF,Je _,λ_=>rfl]
 .rw[ak ne]at e;exact(h a u e).fJ (.new b) (aE ne)
theorem ND.dK{kvs:List (Key×V)}{o:HO}(h:H a=MA (.dK kvs)):ND K H (upd H a o):=.put (λxs e=>by rw[h]at e;cases e) (λu xs e=>by rw[h]at e;cases e)
theorem NM.FC{n:Nat}{S:Int->Bool}{kvs:List (Key×V)}{i:Int}{v:V}(h:NM K H M)(hx:H a=MA (.dK kvs))(f:kvs.length<=n)(b:∀i:Int,(kvs.any λd=>decide (d.1=Sum.inl i))=S i) : NM K (upd H a (.dK (putK kvs (.inl i) v))) (av M a (RV (n+1) λj=>decide (j=i)||S j)):=λc u e=>by
 by_cases ne:c=a
 .subst ne;rw[ag]at e;cases e;refine SU.xw #[_,aF,by have:=gz kvs (.inl i) v;omega,λj=>?_];rw[eK,zE];by_cases z:j=i
  .subst z;rw[MF rfl];simp
  .rw[ME (λq=>z (by injection q)),<-eK,b];simp[z]
 .rw[ak ne]at e;exact(h c u e).fJ (.dK hx) (aE ne)
end
section
variable{X:Cx}{pos:Pos}
def Ei:TD:=λ_ M Q=>∀p,M p=MB->Q (.ref p) (av M p (RV 0 λ_=>MD))
theorem xR:DE X (.Dict [] [] pos) Ei:=aX xF λσ H Q a=>by let[δ,M,R,e,d,q,b]:=a;exact(λp c=>b _ _ _ _ (.new c) (by rw[Rep]) (d.HF c) (q p (d.fresh c)))
def Cz(g:Bool->Bool)(ty b:TD):TD:=λδ M Q=>ty δ M λy c=>b δ c λx a=>∃i l n S,y=.int i/\x=.ref l/\a l=MA (RV n S)/\Q (.bl (g (S i))) a
def As{K:J1}{g:Bool->Bool}{ty e:TD}{σ:L2.St}{H:Hp}{Q:VK}(h:lift K (Cz g ty e) σ H Q) : (lift K ty) σ H λy H1=>(lift K e) σ H1 λx c=>∃a o,x=.ref a/\CW c a y o/\Q (.bl (g o.isSome)) c:=by let[δ,M,R,f,p,q,d]:=h;refine #[δ,M,_,f,p,q,λy r v H1 g1 j s t=>#[δ,r,_,f.mono g1,s,t,λx D u c w k m b=>?_]];let[i,l,n,S,z,ex,A,B]:=b;subst z ex;rw[Rep]at j;rw[Rep]at k;subst j k;let[kvs,h1,h2,C]:=m.di A;exists l,fK kvs (.inl i),5,.inl #[kvs,.inl i,.inl h1,5,rfl];rw[<-eK,C];exact d _ _ _ _ (g1.trans w) (by rw[Rep]) m B
variable{e1 e2:pv}{ty td:TD}
theorem r9(n:X.A.units+66<Kh)(h1:DE X e1 ty)(h2:DE X e2 td)(j:LY .NotIn e2=MD:=by rfl):DT X (.Compare e1 [.NotIn] [e2] pos) (tBD (Cz (λb=>!b) ty td)):=
 jC (Ex (vd () h1 h2) j) λσ H Q e=>by let[δ,M,R,k,l,q,h]:=e;exact(As (g:=λb=>!b) (Q:=λx i=>∃c,x=.bl c/\Q c i) #[δ,M,_,k,l,q,λd o v i g r a f=>by
  let[c,m,z]:=f
  subst m
  rw[Rep]at r;subst r
  exact #[c,5,h _ _ _ g a z]])
def DP(td ty b:TD):Nu:=λB δ M=>b δ M λd c=>td δ c λx e=>ty δ e λy a=>∃l i n S,x=.ref l/\y=.int i/\a l=MA (RV n S)/\n<1000000/\B.nx δ (av a l (RV (n+1) λj=>decide (j=i)||S j))
theorem zb{o i a:pv}{h:TD}{b:Pos}(Q:X.A.units+66<Kh)(t:DE X o td)(w:DE X i ty)(hv:DE X a h)(f:La a (MA (.Subscript o i b)) pos.line X.env=pure MD:=by rfl):DSt X (.Assign [.Subscript o i b] a pos) (DP td ty h):=
 cn (AH () t w hv f) λD σ H c=>by let[δ,M,f,z,B,ok,q]:=c;exact(#[δ,M,_,f,z,q,λd C v H1 g1 R E F=>#[δ,C,_,f.mono g1,E,F,λx G u T g j I J=>#[δ,G,_,(f.mono g1).mono g,I,J,λy U V k m p r e=>by
  let[l,i,n,S,ex,L,N,W,O]:=e
  subst ex L
  rw[Rep]at j;rw[Rep]at p;subst j p
  let[kvs,h1,h2,P]:=r.di N
  let sz:1000000<=Jo:=NG rfl
  let s:ND X.K k (upd k l (.dK (putK kvs (.inl i) v))):=.dK h1
  exact #[l,7,.inl #[kvs,.inl i,h1,5,(),rfl],ok.nx _ _ _ _ (((g1.trans g).trans m).trans s) (f.mono (((g1.trans g).trans m).trans s)) (r.FC h1 h2 P) O]]]])
end
def Iu(ws:r8)(f:Nat)(r:q7):Prop:=∃a,NR ws f a/\bh ws (Og ws f a)=f/\r=rn ws f a
def Xk(ws:r8):Nat->p_->Prop
 |0,rs=>rs=[]
 |i+1,rs=>∃qs,Xk ws i qs/\((i∈qs.flatten/\rs=qs)\/(i∉qs.flatten/\∃r,Iu ws i r/\rs=qs++[r]))
def RL(M:MH)(ps:rp)(rs:p_):Prop:=Mq (λ(p:pd) (r:q7)=>M p=MA (.lst (r.map sq))) ps rs
def RL.len{M:MH}{ps:rp}{rs:p_}(h:RL M ps rs):ps.length=rs.length:=by
 unfold RL at h
 induction h with
 |nil=>rfl
 |cons _ _ a=>rw[Jz,Jz,a]
def RL.mono{M b:MH}{ps:rp}{rs:p_}(h:RL M ps rs)(s:∀p∈ps,∀o,M p=MA o->b p=MA o):RL b ps rs:=by
 unfold RL at *
 induction h with
 |nil=>exact .nil
 |cons a _ c=>exact .cons (s _ (_) _ a) (c λp d o e=>s p (by simp[d]) o e)
theorem RL.snoc{M:MH}{ps:rp}{rs:p_}{p:pd}{r:q7}(h:RL M ps rs)(e:M p=MA (.lst (r.map sq))):RL M (ps++[p]) (rs++[r]):=Paired.snoc h e
section
variable{α β:Type}{n:Nat}{k:ry}
def Pq(n:Nat)(k:ry){α:Type}:PySem.W.KasT α->(α->Prop)->Prop
 |.ret a,Q=>Q a
 |.ask i j f,Q=>i<n/\j<n/\Pq n k (f (decide (k i<k j))) Q
theorem fH{f:α->PySem.W.KasT β}{Q:β->Prop}:∀(t:PySem.W.KasT α),Pq n k t (λa=>Pq n k (f a) Q)->Pq n k (t.bind f) Q
 |.ret _,h=>h
 |.ask i j g,h=>#[h.1,h.2.1,fH _ h.2.2]
theorem cY{Q R:α->Prop}(b:∀a,Q a->R a):∀(t:PySem.W.KasT α),Pq n k t Q->Pq n k t R
 |.ret _,h=>b _ h
 |.ask i j g,h=>#[h.1,h.2.1,cY b _ h.2.2]
theorem uh{b:Nat->Nat->(Bool->J5->Prop)->J5->Prop}{s:J5}(c:∀i j (C:Bool->J5->Prop),i<n->j<n->C (decide (k i<k j)) s->b i j C s){Q:α->J5->Prop}:∀(t:PySem.W.KasT α),Pq n k t (λa=>Q a s)->t.kasWp b Q s
 |.ret _,h=>h
 |.ask i j g,h=>c i j _ h.1 h.2.1 (uh c _ h.2.2)
structure Ny(n:Nat)(p:Array Nat):Prop where
 perm:p.Perm (Jq n).toArray
def Ny.size{p:Array Nat}(h:Ny n p):p.size=n:=by have:=h.perm.size_eq;simpa using this
def Ny.lt{p:Array Nat}(h:Ny n p){i:Nat}(b:i<n):p.getD i 0<n:=by
 let a:i<p.size:=by rw[h.size];exact b
 have:p[i]∈(Jq n).toArray:=h.perm.mem_iff.mp (Array.getElem_mem a);simpa[Array.getD,a]using this
def Ny.inj{p:Array Nat}(h:Ny n p){i j:Nat}(f:i<n)(g:j<n)(e:p.getD i 0=p.getD j 0):i=j:=by
 let a:i<p.size:=by rw[h.size];exact f
 let b:j<p.size:=by rw[h.size];exact g
 let nd:p.toList.Nodup:=(Array.perm_iff_toList_perm.mp h.perm).nodup_iff.mpr ‹List.nodup_range›;let c:p.toList[i]=p.toList[j]:=by simpa[Array.getD,a,b]using e
 let d:=Kf.mp nd;rcases LV i j with h|h|h
 .exact absurd c (d i j _ _ h)
 .exact h
 .exact absurd c.symm (d j i _ _ h)
def ky(k:ry)(p:Array Nat)(i:Nat):Int:=k (p.getD i 0)
def Inj(n:Nat)(k:ry):Prop:=∀i j,i<n->j<n->k i=k j->i=j
theorem sj(d:Inj n k){p:Array Nat}(h:Ny n p){i j:Nat}(b:i<n)(c:j<n)(a:i≠j):ky k p i≠ky k p j:=λe=>a (h.inj b c (d _ _ (h.lt b) (h.lt c) e))
def Up(k:ry)(p:Array Nat)(m:Nat):Prop:=∀i j,i<j->j<m->ky k p i<ky k p j
def Dn(k:ry)(p:Array Nat)(m:Nat):Prop:=∀i j,i<j->j<m->ky k p j<ky k p i
theorem AO{p:Array Nat}{m:Nat}(h1:1<=m)(h:Up k p m)(h2:ky k p (m-1)<ky k p m):Up k p (m+1):=λi j a c=>by
 by_cases e:j=m
 .subst e;by_cases b:i=j-1
  .subst b;exact h2
  .have:=h i (j-1) () ();omega
 .exact h i j a ()
theorem BF{p:Array Nat}{m:Nat}(h1:1<=m)(h:Dn k p m)(h2:ky k p m<ky k p (m-1)):Dn k p (m+1):=λi j a c=>by
 by_cases e:j=m
 .subst e;by_cases b:i=j-1
  .subst b;exact h2
  .have:=h i (j-1) () ();omega
 .exact h i j a ()
theorem oF(b:Inj n k){p:Array Nat}(a:Ny n p):∀(f m:Nat),1<=m->m+f=n->Up k p m->Pq n k (PySem.W.kas_asc p f m) λr=>m<=r/\r<=n/\Up k p r/\(r=n\/ky k p r<ky k p (r-1))
 |0,m,h1,e,u=>#[Je _,(),u,.inl ()]
 |f+1,m,h1,e,u=>by
  exists a.lt (),a.lt ()
  by_cases c:k (p.getD m 0)<k (p.getD (m-1) 0)
  .rw[MI c]
   exact #[Je _,(),u,.inr c]
  .rw[MG c]
   let ne:=sj b a (i:=m) (j:=m-1) () () ()
   refine cY (λr h=>#[(),h.2]) _ (oF b a f (m+1) () () (AO h1 u ?_))
   unfold ky at ne ⊢;omega
theorem qu(b:Inj n k){p:Array Nat}(a:Ny n p):∀(f m:Nat),1<=m->m+f=n->Dn k p m->Pq n k (PySem.W.kas_desc f p m 0) λr=>r.1=p/\r.2.2=0/\m<=r.2.1/\r.2.1<=n/\Dn k p r.2.1
 |0,m,h1,e,u=>#[5,5,Je _,by show m<=n;omega,u]
 |f+1,m,h1,e,u=>by
  exists a.lt (),a.lt ()
  by_cases c:k (p.getD m 0)<k (p.getD (m-1) 0)
  .rw[MI c]
   exact cY (λr h=>#[h.1,h.2.1,(),h.2.2.2]) _ (qu b a f (m+1) () () (BF h1 u c))
  .rw[MG c]
   let ne:=sj b a (i:=m) (j:=m-1) () () ()
   let d:k (p.getD (m-1) 0)<k (p.getD m 0):=by unfold ky at ne;omega
   exists a.lt (),a.lt ()
   rw[MI d]
   exact #[5,5,Je _,by show m<=n;omega,u]
def getD_eq(p:Array Nat)(i:Nat):p.getD i 0=(p[i]?).getD 0:=by simp[Array.getD_eq_getD_getElem?]
theorem uH{p:Array Nat}{m:Nat}(a:Ny n p):Ny n (PySem.W.kas_rev p 0 m):=⟨(mirror_perm _ _ _ _).trans a.perm⟩
theorem DD{p:Array Nat}{m:Nat}(a:Ny n p)(b:m<=n)(h:Dn k p m):Up k (PySem.W.kas_rev p 0 m) m:=λi j c d=>by unfold ky PySem.W.kas_rev;rw[getD_eq,getD_eq,getElem?_mirror_all (by rw[a.size];exact b),getElem?_mirror_all (by rw[a.size];exact b),MF #[(),()],MF #[(),d],<-getD_eq,<-getD_eq];exact h (0+m-1-j) (0+m-1-i) () ()
theorem v5(b:Inj n k){p:Array Nat}(a:Ny n p){m:Nat}(h1:1<=m)(c:m<=n)(d:Dn k p m):Pq n k (PySem.W.kas_tail3 m n p) λr=>Ny n r.2/\1<=r.1/\r.1<=n/\Up k r.2 r.1:=fH _ (cY (λr h=>show Ny n _/\_ from #[uH a,by show 1<=r;omega,h.2.1,h.2.2.1]) _ (oF b (uH a) (n-m) m h1 () (DD a c d)))
def vG(b:Inj n k)(t:2<=n){p:Array Nat}(a:Ny n p):Pq n k (PySem.W.kas_count n p) λr=>Ny n r.2/\1<=r.1/\r.1<=n/\Up k r.2 r.1:=by
 refine fH _ (cY (λr h=>?_) _ (oF b a (n-1) 1 (Je _) () λi j c l=>()));let[f,g,u,m]:=h;by_cases e:r=n
 .rw[MF (by simp[e])];exact #[a,f,g,u]
 .rw[ME (by simp[e])];by_cases e1:r>1
  .rw[MF e1];exists a.lt (),a.lt ();have:k (p.getD 0 0)<k (p.getD (r-1) 0):=u 0 (r-1) () ();rw[MI this];exact #[a,f,g,u]
  .rw[ME e1];let o:r=1:=()
   subst o;refine fH _ (cY (λq h=>?_) _ (qu b a (n-(1+1)) (1+1) () () λi j c l=>?_))
   .obtain⟨e2,e3,e4,s,d⟩:=h;rw[ME (by rw[e3];exact LX 0),e2];exact v5 b a () s d
   .obtain rfl:i=0:=()
    obtain rfl:j=1:=()
    exact m.resolve_left e
theorem jQ(h:Inj n k){p:Array Nat}(g:Ny n p){m:Nat}(d:m<n)(u:Up k p m):∀(f l r:Nat),r<=l+f->l<=r->r<=m->(∀i,i<l->ky k p i<ky k p m)->(∀i,r<=i->i<m->ky k p m<ky k p i)->
 Pq n k (PySem.W.kas_place p m f l r) λx=>x<=m/\(∀i,i<x->ky k p i<ky k p m)/\(∀i,x<=i->i<m->ky k p m<ky k p i)
 |0,l,r,h1,h2,h3,a,b=>#[(),a,λi o d=>b i () d]
 |f+1,l,r,h1,h2,h3,a,b=>by
  show Pq n k (if l≥r then _ else _) _
  by_cases e:l≥r
  .rw[MF e]
   exact #[(),a,λi o d=>b i () d]
  .rw[ME e]
   exists g.lt d,g.lt ()
   by_cases c:k (p.getD m 0)<k (p.getD ((l+r)/2) 0)
   .rw[MI c]
    refine jQ h g d u f l ((l+r)/2) () () () a λi o q=>?_
    by_cases s:i=(l+r)/2
    .subst s;exact c
    .have:=u ((l+r)/2) i () q
     unfold ky at this ⊢;omega
   .rw[MG c]
    let ne:=sj h g (i:=m) (j:=(l+r)/2) d () ()
    refine jQ h g d u f ((l+r)/2+1) r () () h3 (λi o=>?_) b
    by_cases s:i=(l+r)/2
    .subst s;unfold ky at ne ⊢;omega
    .have:=u i ((l+r)/2) () ()
     unfold ky at ne this ⊢;omega
def wV{p:Array Nat}(a:Ny n p){m x:Nat}(b:m<n)(hx:x<=m)(i:Nat):ky k (bubble p m (m-x)) i=if i=x then ky k p m else if x<i/\i<=m then ky k p (i-1)else ky k p i:=by
 unfold ky;rw[getD_eq,getElem?_bubble (by rw[a.size];exact b) _ (),show m-(m-x)=x by omega];split
 .rw[<-getD_eq]
 .split
  .rw[<-getD_eq]
  .rw[<-getD_eq]
theorem uO(g:Inj n k):∀(f:Nat)(p:Array Nat)(m:Nat),Ny n p->m+f=n->Up k p m->Pq n k (PySem.W.kas_bin f p m) λq=>Ny n q/\Up k q n
 |0,p,m,hp,e,u=>#[hp,by rw[show n=m by omega];exact u]
 |f+1,p,m,hp,e,u=>by
  let c:m<n:=()
  refine fH _ (cY (λx h=>?_) _ (jQ g hp c u m 0 m () () (Je _) (λi l=>()) λi l o=>()))
  let[hx,a,b]:=h
  refine uO g f _ (m+1) ⟨(bubble_perm _ _ _).trans hp.perm⟩ () λi j d r=>?_
  rw[wV hp c hx,wV hp c hx]
  by_cases e1:i=x
  .rw[MF e1,ME (),MF #[(),()]]
   exact b _ () ()
  .rw[ME e1]
   by_cases e2:x<i
   .rw[MF #[e2,()],ME (),MF #[(),()]]
    exact u _ _ () ()
   .rw[ME ()]
    by_cases e3:j=x
    .rw[MF e3];exact a i ()
    .rw[ME e3]
     by_cases e4:x<j
     .rw[MF #[e4,()]]
      by_cases s:i=j-1
      .omega
      .exact u _ _ () ()
     .rw[ME ()]
      exact u _ _ d ()
def zR(a:Inj n k)(c:2<=n):Pq n k (PySem.W.kas_sort n) λp=>Ny n p/\Up k p n:=by
 refine fH _ (cY (λr h=>?_) _ (vG a c (p:=(Jq n).toArray) ⟨Array.Perm.refl _⟩));let[b,h1,h2,u]:=h;by_cases e:r.1<n
 .rw[MF e,show max r.1 1=r.1 by omega];exact uO a _ _ _ b () u
 .rw[ME e];have:r.1=n:=()
  exact #[b,by rw[this]at u;exact u]
end
section
variable{prog:Ju}{w:JV}{A:JP}{E:J3->J5->Prop}{s:J5}
abbrev mP(h:pq)(a:pd)(vs:List J3):pq:=((h.update a (Kg λ_=>#[])).push (K7 "tuple" vs.toArray 0)).push (K7 "list" #[] 0)
theorem AI{h:pq}{a:pd}{vs:List J3}{n:Nat}(b:h.get? a=MA (K7 "list" vs.toArray n)):∃e,(h.update a (Kg λ_=>#[])).get? a=MA (K7 "list" #[] e)/\(mP h a vs).get? a=MA (K7 "list" #[] e):=#[_,get?_update_seq b (λ_=>#[]),J6 _ (J6 _ (get?_update_seq b (λ_=>#[])))]
theorem xW{h:pq}{a b:pd}{vs:List J3}{o:Obj}(c:b≠a)(e:h.get? b=MA o):(mP h a vs).get? b=MA o:=J6 _ (J6 _ (((Ko h a (Kg λ_=>(#[]:Array J3))).2 b c).trans e))
def fP(vs:List J3)(p:Array Nat):Array J3:=JI (p.toList.map λi=>vs.getD i L7)
def Ai{a:pd}{vs:List J3}{n:Nat}{k:ry}{κ:SortKind}{P:PySem.Fin->J5->Prop}(m:s.heap.get? a=MA (K7 "list" vs.toArray n))(o:vs.length<64)(d:Inj vs.length k)
 (y:2<=vs.length->∀(R:SortKind->J5->Prop)(z:J3->J5->Prop),R κ { s with heap:=mP s.heap a vs }->Jj (Jn prog w) A (keyKind' vs.toArray) R z { s with heap:=mP s.heap a vs })
 (B:∀i j (C:Bool->J5->Prop),i<vs.length->j<vs.length->C (decide (k i<k j)) { s with heap:=mP s.heap a vs }->PySem.W.kas_ask prog w A κ vs i j C { s with heap:=mP s.heap a vs })
 (h:∀p,Ny vs.length p->Up k p vs.length->P (.done (.ret .none)) { s with heap:=sortedHeap s.heap a vs (fP vs p) }):Jj (Jn prog w) A (LM.«list.sort» #[[.ref a],[]]) P E s:=by
 let[e,r,b]:=AI (vs:=vs) m
 rw[list_sort_plain]
 refine J0 (listItems_at m rfl (J0 (listUpdate_at m rfl ?_ (by rw[Jl,Kv];omega) (K3 _))))
 refine J0 (seqEpoch_at r rfl (J0 (wpAny_newTuple ?_ (by show vs.length<=_;rw[Kv];omega))))
 refine J0 (wpAny_newList (Kn ?_) (K3 _))
 show Jj (Jn prog w) A _ P E { s with heap:=mP s.heap a vs }
 dsimp only
 by_cases h2:¬2<=vs.length
 .have f:vs.toArray.size<2:=by rw[Jl];omega
  rw[MF f,MF f]
  refine J0 (J9 ?_)
  rw[StateT.run_pure]
  refine J0 (J9 ?_)
  dsimp only
  let g:Ny vs.length (Jq vs.length).toArray:=⟨Array.Perm.refl _⟩
  let t:(fP vs (Jq vs.length).toArray).size=vs.length:=by unfold fP;simp
  let c:arrOf (SortSt.mk' general' (vs.toArray.zip vs.toArray) #[] 7 MB)=(Jq vs.length).toArray.map (PySem.W.kas_item (vs.toArray.zip vs.toArray)):=by
   let e:=PySem.W.kas_range (vs.toArray.zip vs.toArray)
   rw[show(vs.toArray.zip vs.toArray).size=vs.length by simp]at e
   exact e.symm
  rw[show(arrOf (SortSt.mk' general' (vs.toArray.zip vs.toArray) #[] 7 MB)).map (·.2)=fP vs (Jq vs.length).toArray from PySem.W.kat_snds rfl c]
  refine J0 (seqEpoch_at b rfl (J0 (listUpdate_at b rfl ?_ (K3 _) (by rw[t,Kv];omega))))
  simp only[bne_self_eq_false,Ka,if_false]
  exact J9 (h _ g λi j D J=>())
 let h2:2<=vs.length:=Decidable.not_not.mp h2
 let f:¬vs.toArray.size<2:=by rw[Jl];omega
 rw[ME f,ME f]
 refine J0 (y h2 _ _ ?_)
 refine J0 (Jp (PySem.W.kat_run (Q:=λst l=>l={ s with heap:=mP s.heap a vs }/\∃p,Ny vs.length p/\Up k p vs.length/\arrOf st=p.map (PySem.W.kas_item (vs.toArray.zip vs.toArray))/\failedOf st=MB)
  (G:=λp l=>l={ s with heap:=mP s.heap a vs }/\Ny vs.length p/\Up k p vs.length) rfl h2 o (λp st l _ b1 F u=>#[u.1,p,u.2.1,u.2.2,b1,F])
  (uh (n:=vs.length) (k:=k) B _ (cY (λp q=>#[5,q]) _ (zR d h2)))) ?_ λ_ _ x=>x)
 rintro⟨⟨⟩,st⟩ K ⟨v,p,g,H,c,I⟩
 dsimp only at v ⊢
 subst v
 let t:(fP vs p).size=vs.length:=by unfold fP;rw[Jl,J4,Kw,g.size]
 rw[show(arrOf st).map (·.2)=fP vs p from PySem.W.kat_snds rfl c]
 refine J0 (seqEpoch_at b rfl (J0 (listUpdate_at b rfl ?_ (K3 _) (by rw[t,Kv];omega))))
 rw[I]
 simp only[bne_self_eq_false,Ka,if_false]
 exact J9 (h p g H)
def vC{l:pd}{vs:List J3}{k:ry}{κ:SortKind}{Q:J3->J5->Prop}(f:s.heap.IsList l vs.toArray)(d:vs.length<64)(a:Inj vs.length k)
 (g:∀h':pq,(∀b o,s.heap.get? b=MA o->h'.get? b=MA o)->2<=vs.length->∀(R:SortKind->J5->Prop)(n:J3->J5->Prop),R κ { s with heap:=h' }->Jj (Jn prog w) A.in1.in1 (keyKind' vs.toArray) R n { s with heap:=h' })
 (r:∀h':pq,(∀b o,s.heap.get? b=MA o->h'.get? b=MA o)->∀i j (C:Bool->J5->Prop),i<vs.length->j<vs.length->C (decide (k i<k j)) { s with heap:=h' }->PySem.W.kas_ask prog w A.in1.in1 κ vs i j C { s with heap:=h' })
 (h:∀p,Ny vs.length p->Up k p vs.length->Q (.ref (s.z+1)) { s with heap:=sortedAll s.heap vs (fP vs p) }):Jj (Jn prog w) A (call (.builtin "sorted") [.ref l]) Q E s:=by
 refine Calls.call_function_entry kind_sorted plain_sorted entry_sorted (args_sorted1 _) ?_
 unfold LM.«sorted»
 refine J0 (m:=checkCount "sorted" 1 1 _) (J9 (J0 (collect_list f ?_ (by rw[Kv];omega))))
 refine J0 (wpAny_newList ?_ (by rw[Kv];omega))
 generalize e1:((s.heap.push (K7 "list" #[] 0)).update s.z (Kg (·++vs.toArray)))=h1
 let e:h1.objs.size=s.z+1:=by rw[<-e1,Heap.size_update,size_push']
 let t:∀b o,s.heap.get? b=MA o->h1.get? b=MA o:=λb o q=>by
  rw[<-e1,Heap.get?_update_ne _ _ _ _ (JF (Jm q)),Heap.get?_push_ne _ _ _ (JF (Jm q))]
  exact q
 let c:(h1.push (K7 "list" vs.toArray 0)).get? (s.z+1)=MA (K7 "list" vs.toArray 0):=by rw[<-e];exact Jh _ rfl
 show Jj _ _ _ _ _ { s with heap:=h1.push (K7 "list" vs.toArray 0) }
 rw[e]
 let kp:∀b o,s.heap.get? b=MA o->(mP (h1.push (K7 "list" vs.toArray 0)) (s.z+1) vs).get? b=MA o:=λb o q=>
  xW (JF (KJ (Jm q))) (J6 _ (t b o q))
 refine J0 (Kn (Lo slot_list_sort #[_,c,rfl] entry_list_sort (Ai (s:={ s with heap:=h1.push (K7 "list" vs.toArray 0) }) c d a (g _ kp) (r _ kp) λp u v=>#[7,J9 #[7,?_]]) (args_list_sort _)))
 have:=h p u v
 unfold sortedAll at this
 rw[e1]at this
 exact this
end
section
variable{X:Cx}
def p0(us:List (Int×Int))(i:Nat):Int×Int:=us.getD i (0,0)
def pky(us:List (Int×Int))(i:Nat):Int:=100*(p0 us i).1+(p0 us i).2
def iO{us:List (Int×Int)}{i:Nat}(h:i<us.length):p0 us i∈us:=by unfold p0;rw[List.getD_eq_getElem?_getD,J7 h];exact Kj h
def B6{xs:r4}{its:List J3}(h:Vals xs its):∀i,RelV (xs.getD i .non) (its.getD i .none):=by
 induction h with
 |nil=>intro i;simp;rfl
 |cons a _ b=>intro i;cases i with
  |zero=>exact a
  |succ i=>exact b i
theorem nQ{xs:r4}{its:List J3}(h:Vals xs its):∀l:q7,Vals (l.map λi=>xs.getD i .non) (l.map λi=>its.getD i .none)
 |[]=>.nil
 |i::l=>.cons (B6 h i) (nQ h l)
variable{prog:Ju}{w:JV}{A:JP}{E:J3->J5->Prop}{s:J5}
end
section
variable{X:Cx}
def SG(K:J1)(H:Hp):r4->List (Int×Int)->Prop
 |[],[]=>True
 |x::xs,u::us=>(∃a,x=.ref a/\NW K H a [.int u.1,.int u.2])/\SG K H xs us
 |_,_=>False
theorem SG.len{K:J1}{H:Hp}:∀{xs:r4}{us:List (Int×Int)},SG K H xs us->xs.length=us.length
 |[],[],_=>rfl
 |_::_,_::_,h=>by rw[Jz,Jz,SG.len h.2]
 |[],_::_,h=>h.elim
 |_::_,[],h=>h.elim
def wI(h:pq)(v:J3)(u:Int×Int):Prop:=∃a t1 b,v=.ref a/\IsTup h a (List.toArray [.int u.1 t1,.int u.2 b])
def Aq{MP:p4}{σ:List (Option V)}{H:Hp}{s:J5}(I:Inv X MP σ H s){x:V}{v:J3}{u:Int×Int}(h:∃a,x=.ref a/\NW X.K H a [.int u.1,.int u.2])(r:RelV x v):wI s.heap v u:=by let[a,5,b]:=h;cases r;let[c,d,e,_]:=I.tuple b;obtain⟨y1,g,rfl,⟨t1,rfl⟩,⟨f,rfl⟩⟩:=vals2 d;exact #[a,t1,f,5,e]
theorem xG{MP:p4}{σ:List (Option V)}{H:Hp}{s:J5}(I:Inv X MP σ H s):∀{xs:r4}{us:List (Int×Int)} {its:List J3},SG X.K H xs us->Vals xs its->∀i,i<us.length->wI s.heap (its.getD i .none) (p0 us i)
 |[],[],_,_,_,i,hi=>by simp at hi
 |x::xs,u::us,_,h,.cons a r,i,hi=>by
  cases i with
  |zero=>exact Aq I h.1 a
  |succ i=>exact xG I h.2 r i ‹hi›
 |[],_::_,_,h,_,_,_=>h.elim
 |_::_,[],_,h,_,_,_=>h.elim
theorem qL{h:pq}:∀{its:List J3}{us:List (Int×Int)},its.length=us.length->(∀i,i<us.length->wI h (its.getD i .none) (p0 us i))->∃fs:List J3,PySem.W.KatTups h its fs/\fs.length=us.length/\∀v∈fs,∃n t,v=Value.int n t
 |[],[],_,_=>#[[],PySem.W.KatTups.nil,5,λv hv=>by simp at hv]
 |v::its,u::us,hl,q=>by
  let[fs,b,c,d]:=qL (its:=its) (us:=us) ‹hl› λi f=>q (i+1) ‹f›
  let[a,t1,l,e,o,g,j,n,hd]:=q 0 (_)
  let k:v=.ref a:=e
  subst k
  refine #[.int u.1 t1::fs,PySem.W.KatTups.cons g j hd rfl b,by simp[c],λv hv=>?_]
  rcases JM.mp hv with rfl|hv
  .exact #[_,7]
  .exact d v hv
 |[],_::_,hl,_=>by simp at hl
 |_::_,[],hl,_=>by simp at hl
def wI.kept{h h':pq}{v:J3}{u:Int×Int}(q:wI h v u)(k:∀b o,h.get? b=MA o->h'.get? b=MA o):wI h' v u:=by let[a,t1,c,e,o,d,r]:=q;exact #[a,t1,c,e,o,k _ _ d,r]
def OE(u:Int×Int):D:=.tup [.int u.1,.int u.2]
theorem zS{K:J1}{H:Hp}:∀{us:List (Int×Int)} {xs:r4},aD K H (us.map OE) xs->SG K H xs us
 |[],xs,h=>by
  rw[Lp,aD]at h
  subst h;trivial
 |u::us,xs,h=>by
  rw[Ji,aD]at h
  let[x,r,5,a,b]:=h
  refine #[?_,zS b]
  unfold OE at a
  rw[Rep]at a
  let[p,e,5,c,d]:=a
  let[y1,f,5,e1,e2]:=fF d
  rw[Rep]at e1 e2
  subst e1 e2
  exact #[p,5,c]
theorem uB{K:J1}{H:Hp}:∀{ds:sg}{xs:r4},aD K H ds xs->∀i,i<ds.length->Rep K H (ds.getD i .non) (xs.getD i .non)
 |[],_,_,i,hi=>by simp at hi
 |d::ds,xs,h,i,hi=>by
  rw[aD]at h
  let[x,r,5,a,b]:=h
  cases i with
  |zero=>exact a
  |succ i=>exact uB b i ‹hi›
theorem nS{K:J1}{H:Hp}{ds:sg}{xs:r4}(h:aD K H ds xs):∀l:q7,(∀i∈l,i<ds.length)->aD K H (l.map λi=>ds.getD i .non) (l.map λi=>xs.getD i .non)
 |[],_=>aD.nil
 |i::l,q=>aD.cons (uB h i (q i (_))) (nS h l λj a=>q j (by simp[a]))
def N5(u v:Int×Int):Prop:=100*u.1+u.2<100*v.1+v.2
def wq{us:List (Int×Int)}{a:Array Nat}(h:Ny us.length a):(a.toList.map (p0 us)).Perm us:=by
 let e1:=(Array.perm_iff_toList_perm.mp h.perm).map (p0 us)
 let e2:(Jq us.length).map (p0 us)=us:=by
  apply List.ext_getElem
  .simp
  .intro i h1 h2;simp[p0,h2]
 simpa[e2]using e1
def yN{us:List (Int×Int)}{a:Array Nat}(h:Ny us.length a):(a.toList.map λi=>(us.map OE).getD i .non)=(a.toList.map (p0 us)).map OE:=by
 rw[KA];refine Lj λi c=>?_
 let b:i<us.length:=by
  have:i∈a:=‹c›
  have:=h.perm.mem_iff.mp this
  simpa using this
 simp[p0,b]
def nJ:Kq "sorted"=MA (.builtin "sorted"):=by first|exact boot_sorted|rfl
end
def k6(h:pq)(d:pd)(es:Array Kk)(ep:Nat):Prop:=∃o,h.get? d=MA o/\o.ExactDict/\o.data=.dict es ep
section
variable{prog:Ju}{w:JV}{A:JP}{E:J3->J5->Prop}{s:J5}{d it:pd}{es:Array Kk}{ep i:Nat}
theorem k6.ty(h:k6 s.heap d es ep):s.TypeIs (.ref d) "dict":=let⟨o,a,b,_⟩:=h;#[o,a,b.1]
theorem k6.kept{h h':pq}(q:k6 h d es ep)(k:∀o,h.get? d=MA o->h'.get? d=MA o):k6 h' d es ep:=let⟨o,a,b⟩:=q;#[o,k o a,b]
theorem k6.lt{h:pq}(q:k6 h d es ep):d<h.objs.size:=let⟨_,a,_⟩:=q;Jm a
def zo{Q:J3->J5->Prop}(e:(d==L8)=MD)(b:k6 s.heap d es ep)
 (q:Q (.ref s.z) { s with heap:=s.heap.push { cls:=.type "dict_keyiterator",data:=.fields (List.toArray [.ref d,.int 0 0,.int es.size 0,.int ep 0]) } }):Jj (Jn prog w) A (pyIter (.ref d)) Q E s:=by
 let a:=b.ty
 let[o,g1,f,c]:=b
 refine wpAny_pyIter_slot a F.slot_dict_iter (Lo F.slot_dict_iter a F.entry_dict_iter ?_ (F.args_dict_iter_1 _))
 unfold LM.«dict.__iter__»
 refine J0 ?_
 unfold Builtin.Dict.dictSlotNone
 refine J0 (wpAny_notOrdered_dict a ?_)
 show Jj _ _ (pure (Kd d)) _ _ s
 refine J9 ?_
 show Jj _ _ (Builtin.Dict.showsAll d >>= _) _ _ s
 unfold Builtin.Dict.showsAll
 rw[ME (by rw[e];exact Js)]
 refine J0 (J9 (J0 (wpAny_dictEntries g1 c (J0 (wpAny_dictEpoch g1 c ?_)))))
 refine J0 (K9 (J9 #[7,"dict_keyiterator",_,#[_,Jh _ rfl,rfl],L5.lookup,?_]))
 simpa[Md]using q
def xy{Q:Option J3->J5->Prop}(b:s.heap.IsKeyIter it d i es.size ep)(f:k6 s.heap d es ep)(g:i<es.size)
 (h:∀h':pq,h'.IsKeyIter it d (i+1) es.size ep->Lg it s.heap h'->Q (MA es[i].key) { s with heap:=h' }):Jj (Jn prog w) A (pyNext (.ref it)) Q E s:=by
 let[o,c,j,hd]:=id b
 let[od,g1,k,e]:=f
 let a:=b.typeIs
 unfold pyNext
 refine J0 (wpAny_attempt (Ly (name:=Ks "__next__") a L5 (Lo L5 a F.entry_dict_keyiterator_next ?_ (F.args_dict_keyiterator_next_1 _))))
 refine J0 (J9 (J0 (J0 ?_)))
 first|refine J0 (Lx a (J9 ?_))|refine J0 (wpAny_typeNameOf_keyiter a (J9 ?_))
 refine J0 (wpAny_fieldsOf c hd ?_)
 simp only[show Builtin.Dict_items.ownsTuple "dict_keyiterator"=MD by decide,Ka,if_false]
 show Jj _ _ (if(Kd d==L7)=MC then _ else _) _ _ s
 rw[ME (show ¬((Kd d==L7)=MC)from Js)]
 refine J0 (J9 (J0 (wpAny_dictEntries g1 e ?_)))
 rw[ME (_)]
 refine J0 (J9 (J0 (wpAny_dictEpoch g1 e ?_)))
 rw[ME (_)]
 refine J9 ?_
 simp only[show ¬((i:Int)<0)from by omega,if_false,Kl,Array.getElem?_eq_getElem g]
 refine J0 ?_
 first|refine J0 (Lx a (J9 ?_))|refine J0 (wpAny_typeNameOf_keyiter a (J9 ?_))
 refine J0 (wpAny_isOneOf_keyiter a ?_)
 show Jj _ _ (setField (.ref it) 1 (Md ((i:Int)+1)) >>= _) _ _ s
 refine J0 (wpAny_setField c hd (_) ?_)
 let n1:(s.heap.update it (Obj.mapFields (·.setIfInBounds 1 (Md ((i:Int)+1))))).IsKeyIter it d (i+1) es.size ep:=
  #[_,Lm _ c (Obj.isFreed_of_fields (Obj.data_mapFields hd _)),(Obj.cls_mapFields ..).trans j,by rw[Obj.data_mapFields hd];simp[Md]]
 refine J0 (Kn (J0 (wpAny_isOneOf_keyiter (s:={ s with heap:=s.heap.update it (Obj.mapFields (·.setIfInBounds 1 (Md ((i:Int)+1)))) }) n1.typeIs ?_)))
 show Jj _ _ (pure es[i].key) _ _ _
 exact J9 (J9 #[7,J9 (h _ n1 (Ko ..))])
def B9{Q:Option J3->J5->Prop}(h:A.handled=MB)(e:s.heap.IsKeyIter it d es.size es.size ep)(j:k6 s.heap d es ep)
 (k:∀h',Heap.ExtBut it s.heap h'->Q MB { s with heap:=h' }):Jj (Jn prog w) A (pyNext (.ref it)) Q E s:=by
 let[o,f,l,hd]:=id e
 let[od,g1,n,g]:=j
 let c:=e.typeIs
 unfold pyNext
 refine J0 (wpAny_attempt (Ly (name:=Ks "__next__") c L5 (Lo L5 c F.entry_dict_keyiterator_next ?_ (F.args_dict_keyiterator_next_1 _))))
 refine J0 (J9 (J0 (J0 ?_)))
 first|refine J0 (Lx c (J9 ?_))|refine J0 (wpAny_typeNameOf_keyiter c (J9 ?_))
 refine J0 (wpAny_fieldsOf f hd ?_)
 simp only[show Builtin.Dict_items.ownsTuple "dict_keyiterator"=MD by decide,Ka,if_false]
 show Jj _ _ (if(Kd d==L7)=MC then _ else _) _ _ s
 rw[ME (show ¬((Kd d==L7)=MC)from Js)]
 refine J0 (J9 (J0 (wpAny_dictEntries g1 g ?_)))
 rw[ME (_)]
 refine J0 (J9 (J0 (wpAny_dictEpoch g1 g ?_)))
 rw[ME (_)]
 refine J9 ?_
 simp only[show ¬((es.size:Int)<0)from by omega,if_false,Kl,Array.getElem?_eq_none (Je es.size)]
 refine J0 ?_
 first|refine J0 (Lx c (J9 ?_))|refine J0 (wpAny_typeNameOf_keyiter c (J9 ?_))
 show Jj _ _ (setField (.ref it) 0 .none >>= _) _ _ s
 refine J0 (wpAny_setField f hd (_) ?_)
 show Jj _ _ (newExc (.type "StopIteration") [] >>= _) _ _ _
 refine J0 ?_
 simp only[newExc,newTuple]
 refine J0 (K9 ?_ (by size_fits))
 refine J0 (m:=firstArgMember _ _) (wpAny_of_eq (a:=L7) (by first|rfl|(simp only[firstArgMember];rfl)) ?_)
 refine K9 ?_ (by size_fits)
 simp only[raiseNew]
 refine J0 (wpAny_handled ?_)
 rw[show A.in1.handled=MB from h]
 refine J0 (J9 (wpAny_throw ?_))
 refine J0 (wpAny_isInstance (T:="StopIteration") (b:=MC) #[_,Jh _ rfl,rfl] isSubtype_stop ?_)
 exact J9 (k _ (((Ko ..).extBut.push _).push _))
theorem wo(m:A.handled=MB)(I d:pd)(f:d≠I)(es:Array Kk)(ep:Nat):Walks prog w A I [I,d] [I] es.size (λi v=>∃e,es[i]?=MA e/\v=e.key) (λi h=>h.IsKeyIter I d i es.size ep/\k6 h d es ep) where
 sub:=λb a=>by simp at a;simp[a]
 frame:=λ_ _ _ st j=>#[st.1.at λo e=>j I (_) o e,st.2.kept λo e=>j d (_) o e]
 item:=λi s Q E k st c=>xy st.1 st.2 k λg n1 l=>c _ g s.toks #[es[i],by simp[k],rfl] #[n1,st.2.kept λo e=>(l.2 d f).trans e] λb o a e=>l.extBut b o (λh=>a (by simp[h])) e
 done:=λs Q E st c=>B9 m st.1 st.2 λg n=>c g s.toks λb o a e=>n b o (λh=>a (by simp[h])) e
 self:=λ_ _ _ _ st c=>wpAny_pyIter_keyiter st.1 c
theorem Cb(c:(d==L8)=MD):PySem.W.KdlSrc prog w "dict" d d es.size (λi v=>∃e,es[i]?=MA e/\v=e.key) (λh=>k6 h d es ep) where
 type:=λ_ a=>a.ty
 there:=λ_ a=>#[a.lt,a.lt]
 keep:=λ_ _ a f=>a.kept λo e=>f d (.inl rfl) o e
 notList:=⋯
 notTuple:=⋯
 hint:=λ_ _ _ _ a b=>PySem.W.kdl_hint_dict a.ty b
 iter:=λ_ _ g a=>#[_,_,(λ_ _ b=>zo c a b),wo g _ d (JF a.lt) es ep,#[#[_,Jh _ rfl,5,rfl],a.kept λo e=>J6 _ e]]
end
section
variable{X:Cx}
def y8{P:Ju}{w:JV}{xs:List OB}{a:List (N3×pd×J3)}(r:Mq RW xs a):(a.map (entryOfKey (eF P w))).map (·.key)=xs.map λx=>Kd x.2.1:=by
 induction r with
 |nil=>rfl
 |cons h t b=>simp only[Ji,b,h.2.1];rfl
theorem nG:∀xs:List OB,Vals (xs.map λx=>V.ref x.2.1) (xs.map λx=>Kd x.2.1)
 |[]=>.nil
 |x::xs=>.cons rfl (nG xs)
def qY(h:X.calm=MC):bS X (.type "list") (λvs H Q=>∃p xs,vs=[.ref p]/\H p=MA (.ext (bW X.prog X.w p xs))/\∀l,H l=MB->Q (.ref l) (upd H l (.lst (xs.map λx=>V.ref x.2.1)))):=by
 intro MP s σ H vs us Q I r j;let[p,xs,k,m,q]:=j;subst k;let[u,5,n]:=vals1 r;cases n;obtain⟨⟨h1,h2,D,E,f,o,es,ep,t,v,y,g⟩,_⟩:=I.hok p _ m;let z:es.size=xs.length:=by rw[<-Kw,g,J4,ly f]
 refine PySem.W.kdl_call (Cb (es:=es) (ep:=ep) h1) (I.ok.hd h) #[o,t,v,y] (by rw[z];exact h2) λA B a c kp C it=>?_
 let ea:a.toList=xs.map λx=>Kd x.2.1:=by
  rw[<-y8 (P:=X.prog) (w:=X.w) f,<-g];apply List.ext_getElem?;intro i;by_cases d:i<es.size
  .have b:i<a.size:=by rw[it.1];exact d
   let[e,e1,e2]:=it.2 i a[i] (by simp[b]);simp[b,d]at e1 ⊢;rw[e2,<-e1]
  .have b:¬i<a.size:=by rw[it.1];exact d
   simp[d,b]
 refine #[.ref s.z,_,I.laid (t':=B) kp (Je _) (show bL X.prog X.w _ A _ (.lst _)from #[by rw[J4];exact h2,_,c,nG xs,?_]),5,q _ (I.hok.fresh (Je _))];rw[<-ea,Array.toArray_toList];exact C
def EI:RC:=λa M Q=>Af a M Q\/∃l kvs,a=[.ref l]/\M l=MA (OF kvs)/\∀p,M p=MB->Q (.ref p) (av M p (.lst (kvs.map λx=>QA x.1)))
theorem nF{K:J1}{H:Hp}:∀{kvs:Nv}{xs:List OB},xs.map (·.1)=kvs.map (·.1)->(∀x∈xs,dD K H x.2.1 x.1)->aD K H (kvs.map λx=>QA x.1) (xs.map λx=>V.ref x.2.1)
 |[],[],_,_=>by rw[Lp,Lp];exact aD.nil
 |y::kvs,x::xs,h,k=>by
  rw[Ji,Ji]at h
  injection h with e1 e2
  rw[Ji,Ji]
  exact aD.cons (by rw[<-e1];exact Ad (k x (_))) (nF e2 λz a=>k z (by simp[a]))
 |[],_::_,h,_=>by cases h
 |_::_,[],h,_=>by cases h
def mj(f:X.calm=MC):d5 X (.type "list") EI:=by
 intro MP s σ H vs us Q I d g;let[h,M,R,e,a,q,b]:=g;rcases q with q|⟨l,kvs,i,j,q⟩
 .exact Bu MP s σ H vs us Q I d #[h,M,R,e,a,q,b]
 .subst i;let[v,5,r]:=bP e;rw[Rep]at r;subst r;let[xs,h1,h2,k,m]:=a.dsp j;exact qY f MP s σ H _ us Q I d #[_,xs,5,h1 _ _,λz c=>b (.ref z) _ _ _ (.new c) (by rw[Rep]) (a.j4 c (nF h2 k)) (q z (a.fresh c))]
end
def N4(t b X Y:Int)(u:Vc):D:=Mx (MY t b X 1 u.1) (MY t b Y 1 u.2)
def gk(t b X Y:Int)(u:Vc):N3:=((MY t b X 1 u.1).num,((MY t b X 1 u.1).den:Int),(MY t b Y 1 u.2).num,((MY t b Y 1 u.2).den:Int))
theorem rK(t b X Y:Int)(u:Vc):N4 t b X Y u=QA (gk t b X Y u):=rfl
def rE{t b X Y:Int}(a:0<t)(c:0<b){p q:Vc}(h:gk t b X Y p=gk t b X Y q):p=q:=by unfold gk at h;injection h with h1 h;injection h with h2 h;injection h with d e;let e1:MY t b X 1 p.1=MY t b X 1 q.1:=Rat.ext h1 (by exact_mod_cast h2);let e2:MY t b Y 1 p.2=MY t b Y 1 q.2:=Rat.ext d (by exact_mod_cast e);let f:=(Mv a c ⋯ ⋯).mp e1;let g:=(Mv a c ⋯ ⋯).mp e2;exact Prod.ext () ()
def Nd(u:Vc):Prop:=(0<=u.1/\u.1<=20)/\(0<=u.2/\u.2<=20)
def ea(w:Wl):Vc:=(w.1,w.2.1)
def eb(w:Wl):Vc:=(w.2.2.1,w.2.2.2)
theorem NK.ea{w:Wl}(h:NK w):Nd (ea w):=#[h.a,h.b]
theorem NK.eb{w:Wl}(h:NK w):Nd (eb w):=#[h.c,h.d]
theorem NK.eab{w:Wl}(h:NK w):SD.ea w≠SD.eb w:=λe=>by have:=h.lt;unfold SD.ea SD.eb at e;injection e with e1 e2;unfold l1 l2 la at this;omega
def du(us:List Vc)(u:Vc):List Vc:=if u∈us then us else us++[u]
def qP{us:List Vc}{u v:Vc}:v∈du us u↔v∈us\/v=u:=by
 unfold du;split
 .constructor
  .exact .inl
  .rintro(h|rfl)
   .exact h
   .assumption
 .simp
def t8{us:List Vc}{u:Vc}(h:us.Nodup):(du us u).Nodup:=by
 unfold du;split
 .exact h
 .rename_i hn;rw[List.nodup_append];refine #[h,by simp,λa c b d e=>?_];have:b=u:=‹d›
  subst this;subst e;exact hn c
def lJ(us:List Vc)(u:Vc):(du us u).length<=us.length+1:=by
 unfold du;split
 .omega
 .simp
def Nc(ws:r8):Nat->List Vc
 |0=>[]
 |i+1=>match ws[i]? with
  |some w=>du (du (Nc ws i) (ea w)) (eb w)
  |none=>Nc ws i
theorem mn(ws:r8):∀i,(Nc ws i).Nodup
 |0=>List.nodup_nil
 |i+1=>by
  unfold Nc
  split
  .exact t8 (t8 (mn ws i))
  .exact mn ws i
theorem h8(ws:r8):∀i,(Nc ws i).length<=2*i
 |0=>Je _
 |i+1=>by
  let a:=h8 ws i
  unfold Nc
  split
  .have h1:=lJ (du (Nc ws i) (ea (by assumption:_))) (eb (by assumption:_))
   let h2:=lJ (Nc ws i) (ea (by assumption:_))
   omega
  .omega
theorem dS{ws:r8}{u:Vc}:∀i,u∈Nc ws i↔∃j w,j<i/\ws[j]?=MA w/\(u=ea w\/u=eb w)
 |0=>by simp[Nc]
 |i+1=>by
  let b:=dS (ws:=ws) (u:=u) i
  unfold Nc
  split
  .rename_i w hw
   rw[qP,qP,b]
   constructor
   .rintro((⟨j,v,h1,h2,a⟩|h)|h)
    .exact #[j,v,(),h2,a]
    .exact #[i,w,(),hw,.inl h]
    .exact #[i,w,(),hw,.inr h]
   .rintro⟨j,v,h1,h2,a⟩
    by_cases e:j=i
    .subst e
     rw[hw]at h2;cases h2
     rcases a with a|a
     .exact .inl (.inr a)
     .exact .inr a
    .exact .inl (.inl #[j,v,(),h2,a])
  .rename_i hw
   rw[b]
   constructor
   .rintro⟨j,v,h1,h2,a⟩
    exact #[j,v,(),h2,a]
   .rintro⟨j,v,h1,h2,a⟩
    by_cases e:j=i
    .subst e;rw[hw]at h2;cases h2
    .exact #[j,v,(),h2,a]
theorem zW{ws:r8}(a:∀w∈ws,NK w){i:Nat}:∀u∈Nc ws i,Nd u:=λu b=>by
 let[j,w,_,h2,c]:=(dS i).mp b;have:=a w (Jg h2);rcases c with rfl|rfl
 .exact this.ea
 .exact this.eb
def QJ(t b X Y:Int)(us:List Vc):Nv:=us.map λu=>(gk t b X Y u,D.bl MC)
def A0{t b X Y:Int}(a:0<t)(c:0<b)(us:List Vc)(u:Vc):putD (QJ t b X Y us) (gk t b X Y u) (.bl MC)=QJ t b X Y (du us u):=by
 let ea:((QJ t b X Y us).any λx=>decide (x.1=gk t b X Y u))=decide (u∈us):=by
  rw[Bool.eq_iff_iff,List.any_eq_true,ML];constructor
  .rintro⟨x,hx,e⟩;let[v,hv,5]:=JO.mp hx;have:gk t b X Y v=gk t b X Y u:=‹e›
   rw[<-rE a c this];exact hv
  .intro h;exact #[_,JO.mpr #[u,h,rfl],by simp]
 unfold putD du;rw[ea];by_cases h:u∈us
 .rw[MF ‹h›,MF h];unfold QJ;rw[KA];refine Lj λv hv=>?_;dsimp only[Function.comp];split
  .rfl
  .rfl
 .rw[ME ‹h›,ME h];unfold QJ;rw[JE];rfl
theorem k8(u:Vc):¬N5 u u:=λh=>by unfold N5 at h;omega
theorem zu{a c:List Vc}(b:a.Perm c)(d:a.Pairwise N5)(e:c.Pairwise N5):a=c:=List.Perm.eq_of_pairwise (le:=N5) (λx y _ _ h1 h2=>by unfold N5 at h1 h2;omega) d e b
def Dh{ps:List Vc}{u:Vc}{j:Nat}(h:ps.Pairwise N5)(g:j<=ps.length)(h1:∀i,i<j->N5 (p0 ps i) u)(h2:∀i,j<=i->i<ps.length->N5 u (p0 ps i)):(f6 ps j u).Pairwise N5/\(f6 ps j u).Perm (u::ps):=by
 constructor
 .unfold f6;rw[List.pairwise_append]
  let lt:∀x∈ps.take j,N5 x u:=λx hx=>by
   let[i,b,5]:=List.getElem_of_mem hx
   let a:i<j/\i<ps.length:=by rw[Lc]at b;omega
   have:=h1 i a.1
   unfold p0 at this
   simpa[a.2]using this
  let d:∀x∈ps.drop j,N5 u x:=λx hx=>by
   let[i,b,5]:=List.getElem_of_mem hx
   let a:j+i<ps.length:=by rw[List.length_drop]at b;omega
   have:=h2 (j+i) () a
   unfold p0 at this
   simpa[a]using this
  refine #[h.sublist (List.take_sublist _ _),List.pairwise_cons.mpr #[d,h.sublist (List.drop_sublist _ _)],λx hx y c=>?_];rcases JM.mp c with rfl|c
  .exact lt x hx
  .have e:=lt x hx;let f:=d y c;unfold N5 at e f ⊢;omega
 .unfold f6;have:(ps.take j++u::ps.drop j).Perm (u::(ps.take j++ps.drop j)):=List.perm_middle
  rwa [LO]at this
theorem Dj{t b X Y:Int}(a:0<t)(c:0<b){u v:Vc}(d:Nd u)(hv:Nd v):Mr (MY t b X 1 u.1) (MY t b Y 1 u.2) (MY t b X 1 v.1) (MY t b Y 1 v.2)↔N5 u v:=n9 a c d.2 hv.2
theorem Nd.bx{t b X Y:Int}(S:Np t b X Y){u:Vc}(h:Nd u):MZ 200 (MY t b X 1 u.1):=S.bx ⋯ (by have:=h.1;omega)
theorem Nd.by'{t b X Y:Int}(S:Np t b X Y){u:Vc}(h:Nd u):MZ 200 (MY t b Y 1 u.2):=S.by' ⋯ (by have:=h.2;omega)
def Av{u v:Vc}(a:Nd u)(hv:Nd v)(ne:u≠v)(h:¬N5 u v):N5 v u:=by
 let h1:=a.2;let h2:=hv.2;unfold N5 at h ⊢;by_cases e:100*u.1+u.2=100*v.1+v.2
 .exact absurd (Prod.ext () ()) ne
 .omega
def Sf(u:Vc):Lw:=.tuple [.int u.1,.int u.2]
theorem um{M:MH}:∀us:List Vc,Pl M (us.map OE) (us.map Sf)
 |[]=>.nil
 |u::us=>.cons (Pd.of rfl) (um us)
theorem uE:∀us:List Vc,KL (us.map Sf)=MC
 |[]=>rfl
 |u::us=>by rw[Ji,KL,uE us];rfl
def Bo(u:Vc)(us:List Vc):(us.map Sf).any (λq=>JS q (Sf u))=decide (u∈us):=by
 rw[List.any_map,Bool.eq_iff_iff,List.any_eq_true,ML];constructor
 .rintro⟨v,hv,e⟩;let e:JS (.tuple [.int v.1,.int v.2]) (.tuple [.int u.1,.int u.2])=MC:=e;rw[oe]at e;let e:=MJ e;rw[show u=v from Prod.ext e.1.symm e.2.symm];exact hv
 .intro h;exists u,h;show JS (.tuple [.int u.1,.int u.2]) (.tuple [.int u.1,.int u.2])=MC;rw[oe];exact MI #[5,rfl]
def D3{M:MH}{l:pd}{us:List Vc}(u:Vc)(g:Bool->Bool)(Q:DK)(h:M l=MA (.lst (us.map OE)))(q:Q (.bl (g (decide (u∈us)))) M):B4 g (OE u) (.ref l) M Q:=by exists _,_,Pd.of (p:=Sf u) rfl,.inl (.lst h (um us)),5,uE us;rw[Bo];exact q
def AM(us:List Vc)(u v:Vc)(ne:u≠v):us.map OE++(Jq 2).filterMap (λj=>if j=0 then(if u∈us then MB else MA (OE u))else(if v∈us then MB else MA (OE v)))=(du (du us u) v).map OE:=by unfold du;by_cases h1:u∈us<;>by_cases h2:v∈us<;>simp[Jq,Jq.loop,h1,h2,ne.symm]
section
variable{X:Cx}{MP:p4}{σ:L2.St}{H:Hp}{s:J5}{a b:pd}{k:N3}
def Al{A:JP}{E:J3->J5->Prop}{Q:Unit->J5->Prop}{xs:List OB}{v:V}{u:J3}(D:A.units+8<Kh)(I:L2.Inv X MP σ H s)(e:H a=MA (.ext (bW X.prog X.w a xs)))(i:∀x∈xs,dD X.K H x.2.1 x.1)(j:dD X.K H b k)(f:RelV v u)(F:xs.length<Jo)
 (h:∀g,L2.Inv X MP σ (upd H a (.ext (bW X.prog X.w a (fX xs k b v)))) g->Q .unit g):Jj (Jn X.prog X.w) A (dictSet a (.ref b) u) Q E s:=by
 let[hd,l,G,r,m]:=oE I e i
 refine wpAny_dictSet_heap (knd:=eF X.prog X.w) (hsz:=by rw[<-ly r];exact l) (():A.units+4<Kh) (qT I j) m λJ c n=>h _ ?_
 let[q,o,p,d,t,z,B,_,C]:=c
 refine jl I (by rw[e];exact LJ) n #[q,d] #[#[hd,?_,?_,_,g8 r k b f,q,o,p,d,t,z,B],#[q,d],λh1 h2 x y=>lG h1 h2 x y]
 .have:=mB xs k b v;omega
 .rw[<-jb (g8 r k b f)];exact C
end
def se{prog:Ju}{w:JV}{A:JP}{R:Result->J5->Prop}{s:J5}{kx g a b:pv}{d:ro}{scope:L9}{pos:Pos}{it:J3}{D:pd}{env:Env}(J:Nat->J5->Prop)
 (step:∀n s,J n s->Jj (Jn prog w) A (pyNext it) (λr i=>match r with
  |none=>R (.ok .next) i
  |some v=>Jj (Jn prog w) A (Lk a it v) (λ_ k=>Jj (Jn prog w) A (Me a env v) (λ_ l=>
   Jj (Jn prog w) A (forIn d MC λc r=>if r=MC then do let ok <-isTrue c env (eval c env);pure (LD ok)else pure (LD r)) (λok j=>
    if ok=MC then Jj (Jn prog w) A (eval kx env) (λo p=>Jj (Jn prog w) A (eval g env) (λq t=>Jj (Jn prog w) A (dictSet D o q) (λ_ u=>∃m,m<n/\J m u) Nn t) Nn p) Nn j
    else ∃m,m<n/\J m j) Nn l) Nn k) Nn i) Nn s)
 (n:Nat) (h:J n s):Lh (Jn prog w) A (.compLoop (.DictComp kx g [#[a,b,d,0]] scope pos) 0 it (.ref D) env) R s:=by
 let f:∀{E:J3->J5->Prop} e y,Nn e y->E e y:=λ_ _ z=>z.elim
 refine codeAny_loop rfl J (λn s C=>?_) n h
 show Jj _ _ (Sem.onRaise (compTurn (.DictComp kx g [#[a,b,d,0]] scope pos) 0 it (.ref D) env) (λx=>do noteFrame x env;theTreesLotGoes x)) _ _ s
 refine wpAny_noted ?_
 rw[compTurn_dict]
 refine J0 (L0 (J0 (Jp (step n s C) (λr i h1=>?_) f)))
 cases r with
 |none=>exact J9 h1
 |some v=>
  refine J0 (Jp h1 (λ_ k h2=>J0 (Jp h2 (λ_ l F=>J0 (Jp F (λok j B=>?_) f)) f)) f)
  cases ok with
  |false=>exact J9 #[5,B]
  |true=>exact J0 (J0 (Jp B (λo p G=>J0 (Kn (Jp G (λq t H=>J0 (L0 (Kn (Jp H (λ_ u I=>J9 #[5,I]) f)))) f))) f))
def xt(X:Cx)(js:q7)(own:Own)(tc:TT)(tk te:TE)(σ:L2.St)(J:It)(H1:Hp)(Q:VK):Prop:=∀D,H1 D=MB->∃W:Nat->Nat->Hp->Prop,(∃m,W 0 m (upd H1 D (.ext (bW X.prog X.w D []))))/\∀i m H,W i m H->
 (J.stop i H/\Q (.ref D) H)\/(J.go i H/\∀y d,J.yld i H y d->∃os,own y d os/\tc (cσ os js σ) d λb e=>if b=MC then
  tk (cσ os js σ) e λf g=>te (cσ os js σ) g λv c=>∃b k xs,f=.ref b/\c D=MA (.ext (bW X.prog X.w D xs))/\(∀x∈xs,dD X.K c x.2.1 x.1)/\dD X.K c b k/\xs.length<Jo/\∃a,a<m/\W (i+1) a (upd c D (.ext (bW X.prog X.w D (fX xs k b v))))else ∃a,a<m/\W (i+1) a e)
def oM(X:Cx)(js:q7)(own:Own)(a:TI)(tc:TT)(tk te:TE):TE:=λσ H Q=>a σ H λJ H1=>xt X js own tc tk te σ J H1 Q
section
variable{X:Cx}{xs:rq}{tg:pv}{pos:Pos}{js:q7}{scope:L9}{kx vx iter:pv}{ifs:ro}{tk te:TE}{tc:TT}{g:TG}{own:Own}{wi:TI}{MP:p4}{σ:L2.St}{H:Hp}{s:J5}{fp:rp}{it:pd}{tn:Nat->pq->Prop}{J:It}
def nj(c:NC X xs js scope)(hc:X.calm=MC)(hG:OR xs.length g own)(hg:∀C s H fp,PG (NN X xs js scope C s H fp) tg g)(ht:∀C s H fp,R9 (NN X xs js scope C s H fp) ifs tc)(hk:∀C s H fp,PE (NN X xs js scope C s H fp) kx tk)(he:∀C s H fp,PE (NN X xs js scope C s H fp) vx te)(hu:X.A.units+8<Kh)
 {R:J3->pd->Result->J5->Prop} {E:J3->J5->Prop} {Q:VK}
 (I:Inv X MP σ H s) (T:Turn X.prog X.w X.K tg J fp it tn) (st:tn 0 s.heap) (hf:∀b∈fp,cB X MP H b) (wc:xt X js own tc tk te σ J H Q)
 (hR:∀D C h G,Inv X MP σ h G->cB X MP h C->(∃m,G.heap.Ns C m)->Q (.ref D) h->R (.ref D) C (.ok .next) G) :
 Jj (Jn X.prog X.w) X.A newDict (λd0 e0=>Jj (Jn X.prog X.w) X.A (Mh scope X.env.globals (eM scope.names X.env) [] X.env.qual MB .none (MA X.env)) (λN f0=>
  Lh (Jn X.prog X.w) X.A (.compStart (.DictComp kx vx [#[tg,iter,ifs,0]] scope pos) 0 (.ref it) d0 { N with scope:=relabel scope X.env }) (R d0 N.locals) f0) E e0) E s:=by
 let g0:∀b∈fp,b<s.z:=λb a=>let⟨o,e,_⟩:=T.obj 0 _ st b a;Jm e
 let hD:H s.z=MB:=I.hok.fresh (Je _)
 refine K9 (oX ?_)
 generalize hh:s.heap.push { cls:=.type "dict",data:=.dict #[] }=f
 generalize h0:pushCells (({ s with heap:=f }:J5).heap.push { cls:=.type "dict",data:=.dict #[] }) scope.names=j
 let k3:∀b o,s.heap.get? b=MA o->f.get? b=MA o:=λb o e=>by rw[<-hh];exact J6 _ e
 let I3:Inv X MP σ (upd H s.z (.ext (bW X.prog X.w s.z []))) { s with heap:=f }:=by
  rw[<-hh];exact uf I
 let l:∀b∈fp,cB X MP (upd H s.z (.ext (bW X.prog X.w s.z []))) b:=λb a=>#[by rw[aE (JF (g0 b a))];exact(hf b a).1,(hf b a).2]
 let s0:f.objs.size=s.z+1:=by rw[<-hh,Kz]
 let i0:∀b∈fp,b<f.objs.size:=λb a=>by rw[s0];exact KJ (g0 b a)
 let k4:∀b o,f.get? b=MA o->j.get? b=MA o:=λb o e=>by rw[<-h0];exact pushCells_keeps _ _ b o (J6 _ e)
 let I4:=mw c I3 l i0 (h':=j) h0.symm k4
 obtain⟨W,⟨m0,w0⟩,k0⟩:=wc _ hD
 let Pn:tn 0 j:=T.keep 0 _ _ st λb a o e=>k4 b o (k3 b o e)
 generalize hX:NN X xs js scope f.objs.size { s with heap:=f } (upd H s.z (.ext (bW X.prog X.w s.z []))) fp=X' at I4
 let S:∀{pins':p4}{h:Hp}{L:L2.St}{G:J5},Inv X' [] L h G->(∀b∈fp,h b=MB)->∀b∈fp,cB X' [] h b:=λ{pins' h L G} J' hn b a=>by
  subst hX
  let[a1,a2]:=J'.ok.exf b a
  exact #[hn b a,a1,J'.ok.exfs b a,.inl a,a2,λp hp=>absurd (show p∈([]:p4)from hp) (_)]
 let O:Lh (Jn X.prog X.w) X.A (.compLoop (.DictComp kx vx [#[tg,iter,ifs,0]] scope pos) 0 (.ref it) (.ref s.z) (kP scope f.objs.size X.env)) (R (.ref s.z) f.objs.size)
  { s with heap:=j }:=by
  refine se (λn G=>∃i os h,os.length=xs.length/\Inv X' [] (cσ os js σ) h G/\tn i G.heap/\(∀b∈fp,h b=MB)/\W i n h) ?_ m0 #[0,_,_,by simp,I4,Pn,λb a=>(l b a).1,w0]
  rintro n s5 ⟨i,os,H5,t0,I5,Ot,n0,w5⟩
  rcases k0 i n H5 w5 with⟨stop,q⟩|⟨go,step⟩
  .subst hX
   refine Jp (T.done (NN X xs js scope f.objs.size { s with heap:=f } (upd H s.z (.ext (bW X.prog X.w s.z []))) fp) rfl rfl rfl hc i [] s5 _ H5 Nn I5 (S (pins':=[]) I5 n0) Ot stop) (λr s6 U=>?_) λ_ _ z=>z
   let[hr,I6]:=U
   subst hr
   refine hR _ _ H5 s6 (I3.yP I6.os I6.base I6.hok I6.bare λb a=>#[(l b a).2.2.2.1,(l b a).2.1,(l b a).2.2.2.2.1,(l b a).2.2.2.2.2]) (I3.oV (Je _) I6.free) (let⟨m,hm,_⟩:=I6.loc;#[m,hm]) q
  .subst hX
   refine Jp (T.item (NN X xs js scope f.objs.size { s with heap:=f } (upd H s.z (.ext (bW X.prog X.w s.z []))) fp) rfl rfl rfl hc i [] s5 _ H5 Nn I5 (S (pins':=[]) I5 n0) Ot go) (λr s6 V=>?_) λ_ _ z=>z
   let[u,hr,h6]:=V
   subst hr
   refine Jp h6 (λ_ s7 Y=>?_) λ_ _ z=>z
   let[y,H7,I7,r7,y7,O6,u0]:=Y
   let v0:=I7.pinned (S (pins':=[]) I7 u0) (T.obj _ _ O6)
   let[M,o0,q8]:=step y H7 y7
   let l8:=hG.len _ _ _ o0
   refine Jp (hg _ _ _ _ _ s7 _ H7 y u (λL h=>L=cσ M js σ/\h=H7) v0 r7 (hG.run y H7 os _ M _ t0 o0 #[5,rfl])) (λ_ s8 Z=>?_) λ_ _ z=>z
   let[i1,H8,I8,e8,x0]:=Z
   subst e8 x0
   refine Jp (ht _ _ _ _ _ s8 _ _ _ I8 q8) (λok s9 a0=>?_) λ_ _ z=>z
   let[H9,I9,q9]:=a0
   let P:∀{m':Nat}{x:Hp}{t:J5},Inv (NN X xs js scope f.objs.size { s with heap:=f } (upd H s.z (.ext (bW X.prog X.w s.z []))) fp) ([]++gW fp s7.heap) (cσ M js σ) x t->m'<n->W (i+1) m' x->
    ∃m,m<n/\∃i os h,os.length=xs.length/\Inv (NN X xs js scope f.objs.size { s with heap:=f } (upd H s.z (.ext (bW X.prog X.w s.z []))) fp) [] (cσ os js σ) h t/\tn i t.heap/\(∀b∈fp,h b=MB)/\W i m h:=λ{m' x t} B F y0=>by
    refine #[m',F,i+1,M,x,l8,B.eG,T.keep _ _ _ O6 λb a o e=>(B.pin (b,o) (Jt _ (Jt _ (bH a e)))).1,λb a=>?_,y0]
    let[o',e,d]:=T.obj _ _ O6 b a
    exact(B.pin (b,o') (Jt _ (Jt _ (bH a e)))).2.1
   cases ok with
   |false=>
    rw[ME Js]at q9 ⊢
    let[m',F,w9]:=q9
    exact P I9 F w9
   |true=>
    rw[MF rfl]at q9 ⊢
    refine Jp (hk _ _ _ _ _ s9 _ _ _ I9 q9) (λkv t b0=>?_) λ_ _ z=>z
    let[kk,x,B,z0,b1]:=b0
    refine Jp (he _ _ _ _ _ t _ _ _ B b1) (λv j1 c0=>?_) λ_ _ z=>z
    let[vv,k1,c1,d1,b,k,ys,ek,q0,e1,f1,r0,m',F,g1]:=c0
    subst ek
    cases z0
    exact Al (X:=NN X xs js scope f.objs.size { s with heap:=f } (upd H s.z (.ext (bW X.prog X.w s.z []))) fp) hu c1 q0 e1 f1 d1 r0 λm1 h1=>P h1 F g1
 exact codeAny_compStart_dict O (T.self X.A 0 _ _ _ Pn O)
def zF(c:NC X xs js scope)(k:X.calm=MC)(l:PI X tg iter wi)(n:OR xs.length g own)(p:∀C s H fp,PG (NN X xs js scope C s H fp) tg g)(r:∀C s H fp,R9 (NN X xs js scope C s H fp) ifs tc)(t:∀C s H fp,PE (NN X xs js scope C s H fp) kx tk)(u:∀C s H fp,PE (NN X xs js scope C s H fp) vx te)(y:X.A.units+8<Kh)(z:∀x,JG iter X.env x=pure x:=by intro _;rfl) : PE X (.DictComp kx vx [#[tg,iter,ifs,0]] scope pos) (oM X js own wi tc tk te):=by intro MP s σ H Q I h;rw[arm_eval_DictComp];refine Lq (use:=MB) rfl z (c.zZ I.ok) c.kind c.names (NJ (l MP s σ H _ I h) λv N h1=>NJ h1 λB O a=>?_);let[it,fp,tn,J,P,e,E,T,st,F,w]:=a;subst e;refine nj (R:=λi C=>compPost (Jn X.prog X.w) X.A X.xe MB (EP X MP σ Q) i C) c k n p r t u y E T st F w λD C G K L f d q=>?_;let[m,M]:=d;exact #[m,M,λS j=>#[.ref D,G,L.turned (t':=K.toks) (λb o ne e=>j.extBut b o ne e) f.1 f.2.1 f.2.2.2.1 f.2.2.2.2.1 f.2.2.2.2.2,5,q]]
def xS{i:Nat}{y:Str}{l j:Pos}(c:NC X xs js scope)(F:X.calm=MC)(G:X.N.Nodup)(K:PI X tg iter wi)(L:OR xs.length g own)(M:∀C s H fp,PG (NN X xs js scope C s H fp) tg g)(O:∀C s H fp,R9 (NN X xs js scope C s H fp) ifs tc)(P:∀C s H fp,PE (NN X xs js scope C s H fp) kx tk)(S:∀C s H fp,PE (NN X xs js scope C s H fp) vx te)(U:X.A.units+8<Kh)(V:X.N[i]?=MA y)(E:X.env.scope.names.lookup y=MA .local)
 (p:La (.DictComp kx vx [#[tg,iter,ifs,0]] scope pos) (MA (.Name y l)) j.line X.env=pure MC) (W:∀x,JG iter X.env x=pure x:=by intro _;rfl) :
 PS X (.Assign [.Name y l] (.DictComp kx vx [#[tg,iter,ifs,0]] scope pos) j) (Bn (oM X js own wi tc tk te) (de i)):=by
 intro MP s σ H B I h
 rw[exec_Assign_Name_used _ _ _ _ p]
 refine J0 (L0 (J0 ?_))
 show Jj _ X.A (do let _ <-comprehension (.DictComp kx vx [⟨tg,iter,ifs,0⟩] scope pos) scope X.env _ newDict MD (eval iter X.env) (MA (Me (.Name y l) X.env))) _ _ s
 refine J0 (Jp (Lq (use:=MA (Me (.Name y l) X.env)) (Q:=λ_ n=>SP X MP B .next n) rfl W (c.zZ I.ok) c.kind c.names
  (NJ (K MP s σ H _ I h) λv s1 h1=>NJ h1 λY s2 Z=>?_)) (λ_ n hq=>J9 (J9 hq)) λ_ _ e=>e)
 let[it,fp,tn,J,H2,e,I2,T,st,f2,w]:=Z
 subst e
 refine nj (R:=λr C=>compPost (Jn X.prog X.w) X.A X.xe (MA (Me (.Name y l) X.env)) (λ_ n=>SP X MP B .next n) r C) c F L M O P S U I2 T st f2 w λD C H' n I' k d q=>?_
 let[m,hm]:=d
 show Jj _ X.A (Me (.Name y l) X.env (.ref D)) _ _ _
 refine wpAny_assign_Name (j6 I' G V (.inl E) (v:=.ref D) rfl (λs9 I9 f=>?_) (.inr E))
 let[a,sb,ha]:=f
 let t:C≠a:=by
  rcases ha with z|z
  .rw[z];exact k.2.1
  .exact λe=>k.2.2.2.2.1 y a z e.symm
 refine #[m,hm.sameBut sb t,λh' u=>?_]
 exact #[_,H',I9.turned (t':=s9.toks) (λb o ne e=>u.extBut b o ne e) k.1 k.2.1 k.2.2.2.1 k.2.2.2.2.1 k.2.2.2.2.2,q]
end
def Fd(I:QL)(tk:QD)(js:q7)(tc:Nh)(g te:TD)(δ:DS)(a:MH)(Q:DK):Prop:=I.n<=900000/\∀p,a p=MB->∃W:Nat->Nv->MH->Prop,W 0 [] (av a p (OF []))/\(∀i kvs M,i<=I.n->W i kvs M->I.C M)/\
 (∀i kvs d M,i<I.n->I.item i=MA d->W i kvs M->∃os,Ap tk d os/\tc (cδ os js δ) M λb c=>if b=MC then g (cδ os js δ) c λy h=>te (cδ os js δ) h λe f=>∃k,y=QA k/\f p=MA (OF kvs)/\kvs.length<=i/\W (i+1) (putD kvs k e) (av f p (OF (putD kvs k e)))else W (i+1) kvs c)/\∀kvs M,W I.n kvs M->Q (.ref p) M
def lD(a:OL)(tk:QD)(js:q7)(tc:Nh)(b te:TD):TD:=λδ M Q=>a δ M λI c=>Fd I tk js tc b te δ c Q
section
variable{X:Cx}
def lR{F:OL}{tk:QD}{js:q7}{tc:Nh}{G te:TD}{σ:L2.St}{H:Hp}{Q:VK}(h:lift X.K (lD F tk js tc G te) σ H Q):oM X js (qU X.K tk) (kg X.K F) (liftT X.K tc) (lift X.K G) (lift X.K te) σ H Q:=by
 let[δ,M,R,L,hM,q,x]:=h;refine #[δ,M,_,L,hM,q,λI M1 H1 J g1 N z A p B=>?_];let[hn,z]:=z;let[W,w0,hC,l,done]:=z p (N.fresh B);refine #[λi m g=>m=I.n-i/\i<=I.n/\ND X.K H1 g/\∃kvs M,NM X.K g M/\W i kvs M,#[I.n,by simp,K3 _,.new B,[],_,N.Cn _ _ B,w0],?_];rintro i m g ⟨rfl,C,f,kvs,j,r,o⟩;by_cases a:i<I.n
 .refine .inr #[A.go i g j a f r (hC _ _ _ C o),λv H3 hy=>?_];let[D,a3,d,ed,rd]:=A.yld i g j v H3 a f r (hC _ _ _ C o) hy;let[os,ow,q3]:=l i kvs d j a ed o;let[us,uv,su]:=rB rd ow;let E:=jk (js:=js) (L.mono ((g1.trans f).trans D)) su;refine #[us,uv,cδ os js δ,j,_,E,a3,q3,λb O H4 s P t=>?_];cases b with
  |false=>
   rw[ME Js]at t ⊢
   exact #[I.n-(i+1),(),5,a,(f.trans D).trans s,kvs,O,P,t]
  |true=>
   rw[MF rfl]at t ⊢
   refine #[cδ os js δ,O,_,E.mono s,P,t,λy M5 u H5 S r5 a5 q5=>#[cδ os js δ,M5,_,(E.mono s).mono S,a5,q5,λe M6 u6 T U r6 V c=>?_]]
   let[k,ey,e6,a0,w6]:=c
   subst ey
   let[b,5,sp]:=pZ (r5.mono U)
   let[xs,h1,h2,Y,h4]:=V.dsp e6
   let Z:xs.length=kvs.length:=by have:=congrArg List.length h2;simpa using this
   let sz:1000000<=Jo:=NG rfl
   let g7:ND X.K T (upd T p (.ext (bW X.prog X.w p (fX xs k b u6)))):=.ext (h1 X.prog X.w)
   exact #[b,k,xs,5,h1 _ _,Y,sp,(),I.n-(i+1),(),5,a,((((f.trans D).trans s).trans S).trans U).trans g7,putD kvs k e,_,V.xQ _ _ h1 h2 h4 Y sp r6,w6]
 .obtain rfl:i=I.n:=()
  exact .inl #[A.stop g j f r (hC _ _ _ C o),x _ _ _ _ (g1.trans f) (by rw[Rep]) r (done kvs j o)]
variable{xs:rq}{tg:pv}{pos:Pos}{js:q7}{scope:L9}{kx vx iter:pv}{ifs:ro}{tx te:TD}{tc:Nh}{g:TG}{tk:QD}{wd:OL}
theorem yp(i:Nat){y:Str}{j e:Pos}(k:X.N.Nodup)(G:X.A.units+66<Kh)(c:NC X xs js scope)(l:X.calm=MC)(m:DI X tg iter wd)(n:OR xs.length g (qU X.K tk))(o:∀C s H fp,PG (NN X xs js scope C s H fp) tg g)(p:∀C s H fp,DTs (NN X xs js scope C s H fp) ifs tc)(r:∀C s H fp,DE (NN X xs js scope C s H fp) kx tx)(t:∀C s H fp,DE (NN X xs js scope C s H fp) vx te) (u:X.N[i]?=MA y:=by rfl) (w:X.env.scope.names.lookup y=MA .local:=by rfl) (h:La (.DictComp kx vx [#[tg,iter,ifs,0]] scope pos) (MA (.Name y j)) e.line X.env=pure MC:=by rfl) (f:∀x,JG iter X.env x=pure x:=by intro _;rfl) : DSt X (.Assign [.Name y j] (.DictComp kx vx [#[tg,iter,ifs,0]] scope pos) e) (c7 (lD wd tk js tc tx te) (aU i)):=cn (xS (tk:=lift X.K tx) (te:=lift X.K te) (tc:=liftT X.K tc) c l k m n o p r t () u w h f) λE σ H b=>by let[δ,M,f,a,B,ok,q]:=b;exact(lR #[δ,M,_,f,a,q,λd I v H1 g1 z D F=>ok.nx _ _ _ _ g1 ((f.mono g1).set z i) D F])
theorem wg(i:Nat){x v:Str}{b e a:Pos}(f:X.N.Nodup)(h:X.A.units+66<Kh)(c:NC X [x] js scope)(j:X.calm=MC)(k:DI X (.Name x b) iter wd)(l:∀C s H fp,DTs (NN X [x] js scope C s H fp) ifs tc)(m:∀C s H fp,DE (NN X [x] js scope C s H fp) kx tx)(n:∀C s H fp,DE (NN X [x] js scope C s H fp) vx te) (o:X.N[i]?=MA v:=by rfl) (p:X.env.scope.names.lookup v=MA .local:=by rfl) (d:La (.DictComp kx vx [#[.Name x b,iter,ifs,0]] scope pos) (MA (.Name v e)) a.line X.env=pure MC:=by rfl) (q:∀x,JG iter X.env x=pure x:=by intro _;rfl) : DSt X (.Assign [.Name v e] (.DictComp kx vx [#[.Name x b,iter,ifs,0]] scope pos) a) (c7 (lD wd .one js tc tx te) (aU i)):=yp i f h c j k sT (λ_ _ _ _=>fg c 0 rfl) l m n o p d q
end
section
variable{X:Cx}
def Ct:Nx:=λx y M Q=>match x,y with
 |.ref a,.int k=>∃d,M a=MA (.lst [d])/\0<=k/\k<=1000/\∀z,M z=MB->Q (.ref z) (av M z (.lst (JJ k.toNat d)))
 |_,_=>False
theorem qH{K:J1}{H:Hp}{d:D}{v:V}(r:Rep K H d v):∀n,aD K H (JJ n d) (JJ n v)
 |0=>by rw[List.replicate_zero,List.replicate_zero];exact .nil
 |n+1=>by rw[KU,KU];exact .cons r (qH r n)
theorem qJ{a:Type}(v:a):∀n,(JJ n [v]).flatten=JJ n v
 |0=>rfl
 |n+1=>by rw[KU,LS,qJ v n];rfl
theorem BX:OC X (Ll .Mult) Ct:=iS EN λv u H Q f=>by
 let[x,y,M,R,g,h,a,q,b]:=f;unfold Ct at q;split at q
 .obtain⟨d,hd,h0,h1,q⟩:=q;obtain rfl:v=.ref _:=g;obtain rfl:u=.int _:=h;let[xs,hx,i]:=a _ _ hd;let[w,5,c]:=bP i;let sz:1000000<=Jo:=NG rfl;refine #[_,_,7,5,hx,(),(),by simp;omega,λz e=>?_];rw[qJ];exact b _ _ _ _ (.new e) (by rw[Rep]) (a.j4 e (qH c _)) (q z (a.fresh e))
 .exact q.elim
end
section
def l3(a u:J3):checkTypeCall "enumerate" #[[a],[("start",u)]]=pure .unit:=by kernel_rfl
def mR(a u:J3):checkBuiltinCall "enumerate.__new__" #[[.type "enumerate",a],[("start",u)]]=pure .unit:=by kernel_rfl
def sU(a b u:J3):argsOk "object.__init__" #[[a,b],[("start",u)]]:=by unfold argsOk;rw[PySem.signature?_of (id:="object.__init__") (n:=['_','_','t','i','n','i','_','_']) (o:=['t','c','e','j','b','o']) (by kernel_rfl) F.owner_object];kernel_rfl
def me(l it:pd):Obj×Obj:=({ cls:=.type "list_iterator",data:=.fields (List.toArray [.ref l,.int 0 0]) },{ cls:=.type "enumerate",data:=.fields (List.toArray [.none,.bool MD,.ref it,Md 1,.none,.none]) })
variable{prog:Ju}{w:JV}{A:JP}{E:J3->J5->Prop}{s:J5}{l:pd}{items:Array J3}{n:Nat}{t:Tok}{Q:J3->J5->Prop}
def wM(a:s.heap.get? l=MA { cls:=.type "list",dict:=MB,data:=.seq items n,slots:=#[] })
 (h:Q (.ref (s.heap.push (me l 0).1).objs.size) { s with heap:=(s.heap.push (me l 0).1).push (me l s.z).2 }) :
 Jj (Jn prog w) A (LM.«enumerate.__new__» #[[.type "enumerate",.ref l],[("start",.int 1 t)]]) (λfin b=>∃v,fin=.done (.ret v)/\Q v b) E s:=by
 let[e,g,d,f,os]:=s
 let e1:=sub_enumerate
 let e2:Heap.IsList (Shared.heap #[e,g,d,f,os]) l items:=#[_,a,5,n,rfl]
 wp_walk using AutoSeq1.wpAny_loadPart' a
 refine wpAny_stack_any λst=>J9 ?_
 split
 case h_1 c _ _ _ _ _=>cases (c==Mo "enumerate")<;>(wp_walk using AutoSeq1.wpAny_loadPart' a,wpAny_pyIter_list e2;exact #[7,h])
 all_goals (wp_walk using AutoSeq1.wpAny_loadPart' a,wpAny_pyIter_list e2;exact #[7,h])
theorem sJ:Meets (LM.«enumerate.__new__» #[[.type "enumerate",.ref l],[("start",.int 1 t)]]) (λ_ R s=>s.heap.get? l=MA { cls:=.type "list",dict:=MB,data:=.seq items n,slots:=#[] }/\R (.ok (.ret (.ref (s.heap.push (me l 0).1).objs.size))) { s with heap:=(s.heap.push (me l 0).1).push (me l s.z).2 }):=.of_wp λprog w A R s z=>wM (Q:=λv a=>R (.ok (.ret v)) a) z.1 z.2
theorem qx{e:J3}{u:J3}:Meets (LM.«object.__init__» #[[e,.ref l],[("start",u)]]) (λ_ R s=>s.TypeIs e "enumerate"/\R (.ok (.ret .none)) s):=
 .of_wp λprog w A R s a=>by
  let[ty,r]:=a
  let e1:=F.called_enumerate.init.lookup
  let e2:=F.called_enumerate.made
  repeat (any_goals (first|assumption|wp_step))
  exact #[7,r]
def sM(m:s.heap.get? l=MA { cls:=.type "list",dict:=MB,data:=.seq items n,slots:=#[] })
 (h:∀h',IsEnum h' (s.z+1) s.z 1 .none->h'.IsListIter s.z l 0->(∀b o,s.heap.get? b=MA o->h'.get? b=MA o)->Q (.ref (s.z+1)) { s with heap:=h' }) :
 Jj (Jn prog w) A (call (.type "enumerate") [.ref l] [("start",.int 1 t)]) Q E s:=by
 let C:=F.called_enumerate
 let[c,p,u]:=C.mro
 let x:=C.made
 let y:=C.sub
 let B:=C.notType
 let D:=C.canCreate
 let G:=l3 (.ref l) (.int 1 t)
 refine wpAny_call (codeAny_of_tree (J9 #[Code.quiet_builtin _ (by decide +kernel),codeAny_builtin F.entry_type_call ?_]))
 rw[Around.under_plain rfl rfl]
 repeat (any_goals (first|assumption|wp_step))
 let j:(s.heap.push (me l 0).1).objs.size=s.z+1:=Kz ..
 let g1:IsEnum ((s.heap.push (me l 0).1).push (me l s.z).2) (s.z+1) s.z 1 .none:=by
  have:=Jh (s.heap.push (me l 0).1) (o:=(me l s.z).2) rfl
  rw[j]at this;exact this
 let q:=h _ g1 #[_,J6 _ (Jh _ rfl),5,rfl] λb o z=>J6 _ (J6 _ z)
 refine codeAny_mono (codeAny_call_builtin C.plain F.entry_enumerate_new (wpAny_of_eq (mR _ _) (sJ prog w A.in1 (wants (λv k=>v=.ref (s.z+1)/\k.TypeIs v "enumerate"/\Q v k) E) s #[m,by rw[j];exact #[5,#[_,g1,rfl],q]]))) λr f i=>?_
 match r,i with
 |.error e,i=>exact i
 |.ok (.ret v),⟨ev,ty,qv⟩=>
  let H:=C.init.lookup
  let I:=C.init.bind v
  repeat (any_goals (first|assumption|wp_step))
  refine codeAny_mono (codeAny_call_builtin C.init.plain F.entry_object_init (C.init.check _ _ _ _ _ _ _ _ ty (sU _ _ _) (qx prog w A.in1 (wants (λr d=>r=.none/\Q v d) E) f #[ty,5,qv]))) λg d a=>?_
  match g,a with
  |.error e,a=>exact a
  |.ok (.ret r),⟨er,q2⟩=>
   subst er
   repeat (any_goals (first|assumption|wp_step))
end
section
variable{X:Cx}{elts:ro}{kt:Nat}{pt:Pos}
def lP{pos kp:Pos}{T:String}{e k:pv}{name:Str}{env:Env}{M:Model}{A:JP}{E:J3->J5->Prop}{s:J5}{Q:J3->J5->Prop}
 (h:Jj M A (spliced (Kr pos (Jk [e] env))) (λvs b=>Jj M A (eval k env) (λu c=>Jj M A (call (.type T) vs [(name,u)]) Q E c) E b) E s)
 (i:Kr pos (Jk [e] env)=(MD,eval e env)::Kr pos (Jk [] env):=by rfl) (g:(Kr pos (Jk [e] env)).any (·.1)=MD:=by rfl) :
 Jj M A (callWith pos (.type T) [] (Kr pos (Jk [e] env)) (Mf pos (Lb [#[MA name,k,kp]] env))) Q E s:=by
 let j:Jj M A (evalArgs (.type T) MC (Kr pos (Jk [e] env)) (Mf pos (Lb [#[MA name,k,kp]] env))) (λa b=>Jj M A (call (.type T) a.pos a.kw) Q E b) E s:=by
  rw[i]at h ⊢
  refine evalArgs_kwB rfl (Jp h (λvs b d=>?_) λ_ _ z=>z)
  exact kws_cons (Jp d (λu c f=>kws_nil f) λ_ _ z=>z)
 unfold callWith
 refine J0 (Kn (Jp j (λa b d=>J0 (L0 ?_)) λ_ _ z=>z))
 let l:(Mf pos (Lb [#[MA name,k,kp]] env)).any (·.1.isNone)=MD:=rfl
 simp only[g,l,Bool.or_false]
 exact J0 (J9 (J0 (Jp d (λr c m=>J0 (Kn (wpAny_point (J9 m)))) λ_ _ z=>z)))
def DX(K:J1)(b:TA):TI:=λσ H R=>b σ H λvs H1=>∃a xs,vs=[.ref a]/\H1 a=MA (.lst xs)/\R (YD K 1 a) H1
def yX{a k:pv}{j:TA}{p pos kp:Pos}(y:Gl X "enumerate")(B:X.mg "enumerate"=MB)(C:PA X [a] j)(g:∀MP s σ H (Q:VK),Inv X MP σ H s->Q (.int 1) H->Jj (Jn X.prog X.w) X.A (eval k X.env) (EP X MP σ Q) X.xe s)
 (m:Jk [a] X.env=[(MD,eval a X.env)]:=by rfl):PI X (.Tuple elts kt pt) (.Call (.Name "enumerate" p) [a] [#[MA "start",k,kp]] pos) (DX X.K j):=by
 intro MP s σ H R I h
 refine Ln (gc I y B fY (lP (NJ (C pos MP s σ H _ I h) λus D ⟨vs,H1,E,F,G⟩=>?_) (by rw[m];rfl) (by rw[m];rfl)))
 let[l,xs,J,L,q]:=G
 subst J
 let[u,5,M]:=F.one
 cases M
 refine NJ (g MP D σ H1 (λv N=>v=.int 1/\N=H1) E #[5,rfl]) λu c ⟨v,o,f,O,e1,e2⟩=>?_
 subst e1 e2
 let[t,5]:=O
 let[z,P,n,r,T,e]:=f.oQ L
 refine sM e λU x i g=>wpAny_pyIter_enum x ?_
 let fp:∀b∈[c.z+1,c.z],cB X MP o b:=λb S=>by
  let d:c.z<=b:=by
   rcases(show b=c.z+1\/b=c.z by simpa using S)with rfl|rfl
   .exact Mn _
   .exact Je _
  exact f.oV d (f.hok.fresh d)
 exact #[_,[c.z+1,c.z],_,_,o,5,f.kept (t':=c.toks) g,nX 1 l _ _ (Nat.succ_ne_self _),#[#[_,x],i],fp,q]
def Ed(c:N7):OL:=λδ M R=>c δ M λe b=>∃l a,e=[.ref l]/\b l=MA (.lst a)/\R #[a.length,λi=>(a[i]?).map λd=>.tup [.int ((i+1:Nat):Int),d],λM=>M l=MA (.lst a)] b
theorem yO{a:pv}{d:N7}{p pos kp g:Pos}{kc}(h:Gl X "enumerate")(i:X.mg "enumerate"=MB)(j:DA X [a] d)(b:Jk [a] X.env=[(MD,eval a X.env)]:=by rfl):DI X (.Tuple elts kt pt) (.Call (.Name "enumerate" p) [a] [#[MA "start",.Constant (.int 1) kc g,kp]] pos) (Ed d):=
 jW (yX h i j (λMP s σ H Q I q=>yu MP s σ H Q I q) b) λσ H R k=>by
  let[δ,M,w,b,m,q,c]:=k
  exact #[δ,M,_,b,m,q,λx n vs H1 g1 o f ⟨l,y,e,t,u⟩=>by
   subst e
   let[v,5,r]:=bP o
   rw[Rep]at r;subst r
   let[xs,hx,z]:=f _ _ t
   exact #[l,xs,5,hx,c _ n H1 _ g1 f u (uW 1)]]
end
section
variable{X:Cx}{MP:p4}{σ:L2.St}{H:Hp}{s:J5}
def kB{h':pq}{t':Nat}{ch:rp}(I:Inv X MP σ H s)(k:∀b o,b∉ch->s.heap.get? b=MA o->h'.get? b=MA o)(f:∀b∈ch,cB X MP H b):Inv X MP σ H { s with heap:=h',toks:=t' }:=by
 let ne:∀b u,H b=MA u->b∉ch:=λb u q d=>by rw[(f b d).1]at q;cases q
 refine I.step (g':=s.gens) (d':=s.drawn) (ch:=ch) (λb d=>?_) (λb o _ _ a q _=>k b o a q) (λb o _ _ a q _=>#[o.slots,k b o a q]) (λ_ _ _ _ n=>n) (λb o a q=>#[o,k b o a q]) (λ_ _ q=>q) (λ_ _ _ q=>q) (λb ps q=>#[#[],by rw[q];simp]) (λm e=>?_) (λb u q=>?_) I.bare
 .obtain⟨l,e1,_,e3,e4,g⟩:=f b d;exact #[e3,e1,e4,g]
 .obtain⟨o,h,i,j,r⟩:=e;exact #[o,h,i,k _ o (λd=>(f _ d).2.1 rfl) j,r]
 .refine(I.hok b u q).fJ (λc v a z=>?_) (λ_ z=>z) λ_ _ z=>z;rcases a with y|y
  .subst y;exact k _ v (ne _ u q) z
  .exact k c v (ne c _ y) z
end
def Itz(K:J1)(a b:pd):It:=
 #[λi H=>∃xs c x y,NX K H a xs/\NX K H b c/\xs[i]?=MA x/\c[i]?=MA y,λi H x d=>∃T y z,x=.ref T/\H T=MB/\d=upd H T (.tup [y,z])/\(∀xs,NX K H a xs->xs[i]?=MA y)/\∀c,NX K H b c->c[i]?=MA z,λi H=>∃xs c,NX K H a xs/\NX K H b c/\(xs.length<=i\/c.length<=i)]
def xu{P:Ju}{w:JV}{K:J1}{L:ro}{kt}{pt:Pos}(a b z TI TO j l:pd)(D:ZipApart z TI TO j l a b):Turn P w K (.Tuple L kt pt) (Itz K a b) [z,TI,TO,j,l] z (λi h=>IsZip h z TI TO .none/\IsPair h TI (.ref j) (.ref l)/\(∃p q,IsPair h TO p q)/\h.IsListIter j a i/\h.IsListIter l b i) where
 mem:=by simp
 obj:=λi h st c f=>by
  obtain⟨h1,h2,⟨p,q,t⟩,u,A⟩:=st
  rcases(show c=z\/c=TI\/c=TO\/c=j\/c=l by simpa using f)with rfl|rfl|rfl|rfl|rfl
  .exact #[_,h1,λv y=>by cases (show Data.fields _=Data.cell v from y)]
  .exact #[_,h2,λv y=>by cases (show Data.seq _ _=Data.cell v from y)]
  .exact #[_,t,λv y=>by cases (show Data.seq _ _=Data.cell v from y)]
  .obtain⟨o,B,_,d⟩:=u
   exact #[o,B,λv y=>by rw[d]at y;cases y]
  .obtain⟨o,B,_,d⟩:=A
   exact #[o,B,λv y=>by rw[d]at y;cases y]
 keep:=λi h M st k=>by
  obtain⟨h1,h2,⟨p,q,t⟩,u,A⟩:=st
  exact #[k z (_) _ h1,k TI (_) _ h2,#[p,q,k TO (_) _ t],u.at λo y=>k j (_) o y,A.at λo y=>k l (_) o y]
 item:=by
  intro X V W Y f i MP s σ H E I S st Z
  subst V W Y
  let[xs,ys,x,y,m,r,hx,hy]:=Z
  obtain⟨h1,h2,⟨p,q,t⟩,u,A⟩:=st
  let[N,C,p1,a0]:=I.list m
  let[O,F,p2,b0]:=I.list r
  let[Q,c0,d0]:=C.get hx
  let[R,e0,f0]:=F.get hy
  refine wpAny_pyNext_zip_item D h1 h2 t u A p1.isList p2.isList (x:=Q) (y:=R) ‹c0› ‹e0› λM a1 a2 a3 a4 a5 a6 a7=>#[7,wpAny_letOwnedTupleGo_zip (s:={ s with heap:=M }) a1 λG b1 T=>?_]
  let T:Lg z M G:=T
  let fr:=I.fresh
  let lt:∀c∈[z,TI,TO,j,l],c<s.z:=λc f=>by
   rcases(show c=z\/c=TI\/c=TO\/c=j\/c=l by simpa using f)with rfl|rfl|rfl|rfl|rfl
   .exact Jm h1
   .exact Jm h2
   .exact Jm t
   .obtain⟨o,B,_⟩:=u;exact Jm B
   .obtain⟨o,B,_⟩:=A;exact Jm B
  let I1:Inv X MP σ (upd H s.z (.tup [x,y])) { s with heap:=s.heap.push { cls:=.type "tuple",data:=.seq (List.toArray [Q,R]) },toks:=s.toks }:=
   I.laid (λb v q=>J6 _ q) (Je _) #[NG rfl,[Q,R],.cons d0 (.cons f0 .nil),#[_,Jh _ rfl,5,7],#[_,Jh _ rfl,rfl]]
  let fk:∀c∈[z,TI,TO,j,l],cB X MP (upd H s.z (.tup [x,y])) c:=λc f=>#[by rw[aE (JF (lt c f))];exact(S c f).1,(S c f).2]
  let I2:Inv X MP σ (upd H s.z (.tup [x,y])) { s with heap:=G,toks:=s.toks }:=by
   refine kB (ch:=[z,TO,j,l]) (s:={ s with heap:=s.heap.push { cls:=.type "tuple",data:=.seq (List.toArray [Q,R]) },toks:=s.toks }) I1 (λc o g q=>?_) λc f=>fk c (by simp at f ⊢;rcases f with rfl|rfl|rfl|rfl<;>simp)
   let q:(s.heap.push { cls:=.type "tuple",data:=.seq (List.toArray [Q,R]) }).get? c=MA o:=q
   simp at g
   refine(T.2 c g.1).trans ?_
   rcases Heap.get?_push_cases q with⟨rfl,rfl⟩|q
   .exact a5
   .exact a7 c o g.1 g.2.1 g.2.2.1 g.2.2.2 q
  let U:∀c o,c≠z->M.get? c=MA o->G.get? c=MA o:=λc o n e=>(T.2 c n).trans e
  refine #[.ref s.z,_,I2,5,#[_,x,y,5,fr,5,λzs J=>by rw[I.jm J m];exact hx,λzs J=>by rw[I.jm J r];exact hy],#[b1,U _ _ D.TIz (a7 _ _ D.TIz D.TITO D.TIi1 D.TIi2 h2),#[_,_,U _ _ D.TOz a2],a3.at λo e=>U _ o D.i1z e,a4.at λo e=>U _ o D.i2z e],λc f=>(fk c f).1]
 done:=by
  intro X V W Y f i MP s σ H E I S st Z
  subst V W Y
  let[xs,ys,m,r,he]:=Z
  obtain⟨h1,h2,⟨p,q,t⟩,u,A⟩:=st
  let[N,C,p1,a0]:=I.list m
  let[O,F,p2,b0]:=I.list r
  let l1:=C.length
  let l2:=F.length
  refine wpAny_pyNext_zip_end (I.ok.hd f) D h1 h2 t u A p1.isList p2.isList (he.imp (λe=>by simp;omega) λe=>by simp;omega) λM k=>#[5,?_]
  exact kB (t':=s.toks) (ch:=[z,TO,j,l]) I (λc o g q=>by simp at g;exact k c o g.1 g.2.1 g.2.2.1 g.2.2.2 q) λc f=>S c (by simp at f ⊢;rcases f with rfl|rfl|rfl|rfl<;>simp)
 self:=λ_ _ _ _ _ st h=>wpAny_pyIter_zip st.1 h
def Ft{n l1 l2:Nat}(a:l1<n)(b:l2<n):ZipApart (n+4) (n+2) (n+3) n (n+1) l1 l2:=by constructor<;>exact λe=>absurd (id e:@Eq Nat _ _) ()
def DU:Kq "zip"=MA (.type "zip"):=by decide +kernel
section
variable{X:Cx}{elts:ro}{kt:Nat}{pt:Pos}
def Gr(K:J1)(c:TA):TI:=λσ H R=>c σ H λvs H1=>∃a b xs d,vs=[.ref a,.ref b]/\H1 a=MA (.lst xs)/\H1 b=MA (.lst d)/\R (Itz K a b) H1
def Fc{a b:pv}{x:TA}{p pos:Pos}(A:Gl X "zip")(B:X.mg "zip"=MB)(C:PA X [a,b] x)(E:Jk [a,b] X.env=(MD,eval a X.env)::Jk [b] X.env:=by rfl)(j:(Kr pos (Jk [b] X.env)).any (·.1)=MD:=by rfl):PI X (.Tuple elts kt pt) (.Call (.Name "zip" p) [a,b] [] pos) (Gr X.K x):=by
 intro MP s σ H R I h;refine Call_ (gc I A B DU (KI (NJ (C pos MP s σ H _ I h) λus c d=>?_) E j));let[vs,H1,e,F,G]:=d;let[l1,l2,xs,T,J,k,l,q]:=G;subst J;let[U,V,5,m,n]:=vals2 F;cases m;cases n;let[W,f,n1,L,M,e1]:=e.oQ k;let[Y,g,n2,N,O,e2]:=e.oQ l;let P:c.heap.IsList l1 f.toArray:=#[_,e1,5,n1,rfl];let L2:c.heap.IsList l2 g.toArray:=#[_,e2,5,n2,rfl];let o:=Jm e1;let r:=Jm e2;refine call_zip_2 P L2 λZ y t u v w Q S=>wpAny_pyIter_zip y ?_
 let fp:∀b∈[c.z+4,c.z+2,c.z+3,c.z,c.z+1],cB X MP H1 b:=λb z=>by
  let i:c.z<=b:=by simp at z;rcases z with rfl|rfl|rfl|rfl|rfl<;>first|exact Nat.le_add_right _ _|exact Je _
  exact e.oV i (e.hok.fresh i)
 let D:ZipApart (c.z+4) (c.z+2) (c.z+3) c.z (c.z+1) l1 l2:=by exact Ft o r
 exact #[_,_,_,_,H1,5,e.kept (t':=c.toks) S,xu l1 l2 _ _ _ _ _ D,#[y,t,#[_,_,u],v,w],fp,q]
def GK(g:N7):OL:=λδ M R=>g δ M λh f=>∃a b c fs,h=[.ref a,.ref b]/\f a=MA (.lst c)/\f b=MA (.lst fs)/\R #[min c.length fs.length,λi=>(c[i]?).bind λd=>(fs[i]?).map λe=>.tup [d,e],λM=>M a=MA (.lst c)/\M b=MA (.lst fs)] f
theorem xq{K:J1}{D:N7}:∀(σ:L2.St)(H:Hp) R,kg K (GK D) σ H R->Gr K (xT K D) σ H R:=
 λσ H R N=>by
  let[δ,M,Z,O,P,q,s]:=N
  exact #[δ,M,_,O,P,q,λds Q vs H1 g1 S t U=>by
   let[l1,l2,c,fs,e,u,w,V]:=U
   subst e
   let[v1,v2,5,r,E]:=fF S
   rw[Rep]at r E;subst r E
   let[xs,hx,rs]:=t _ _ u
   let[W,A,rt]:=t _ _ w
   refine #[l1,l2,xs,W,5,hx,A,s _ Q H1 _ g1 t V #[λF k G j l=>?_,λi F k m G j l=>?_,?_]]
   .obtain⟨n,o⟩:=(show k l1=MA (.lst c)/\k l2=MA (.lst fs)from l)
    let[a,d,f]:=j _ _ n
    let[b,g,h]:=j _ _ o
    exists a,b,NX.of d,NX.of g
    show a.length<=min c.length fs.length\/b.length<=min c.length fs.length
    rw[<-f.length,<-h.length];omega
   .obtain⟨n,o⟩:=(show k l1=MA (.lst c)/\k l2=MA (.lst fs)from l)
    let[a,d,f]:=j _ _ n
    let[b,g,h]:=j _ _ o
    let m:i<min c.length fs.length:=m
    let h1:i<a.length:=by rw[<-f.length];omega
    let h2:i<b.length:=by rw[<-h.length];omega
    exact #[a,b,a[i],b[i],NX.of d,NX.of g,by simp[h1],by simp[h2]]
   .rintro i F k v H3 m G j l ⟨T,y,z,rfl,p,rfl,A,Y⟩
    let[n,o]:=(show k l1=MA (.lst c)/\k l2=MA (.lst fs)from l)
    let m:i<min c.length fs.length:=m
    let I:i<c.length:=()
    let J:i<fs.length:=()
    let[a,d,f]:=j _ _ n
    let[b,g,h]:=j _ _ o
    let[x,e1,e2]:=f.get (show c[i]?=MA c[i] by simp[I])
    let[x',B,C]:=h.get (show fs[i]?=MA fs[i] by simp[J])
    let t1:=A a (NX.of d)
    let L:=Y b (NX.of g)
    rw[e1]at t1;cases t1
    rw[B]at L;cases L
    exact #[.new p,j.new p,.tup [c[i],fs[i]],by simp[I,J],by rw[Rep];exact #[T,7,NW.of aF,.cons (e2.mono (.new p)) (.cons (C.mono (.new p)) .nil)]]]
theorem EF{a b:pv}{d:N7}{p pos:Pos}(e:Gl X "zip")(f:X.mg "zip"=MB)(g:DA X [a,b] d)(h:Jk [a,b] X.env=(MD,eval a X.env)::Jk [b] X.env:=by rfl)(c:(Kr pos (Jk [b] X.env)).any (·.1)=MD:=by rfl):DI X (.Tuple elts kt pt) (.Call (.Name "zip" p) [a,b] [] pos) (GK d):=jW (Fc e f g h c) xq
end
structure Gs(g h:Int):Prop where
 g0:0<g
 g1:g<=12
 h0:0<=h
 h1:h<=24
def gp(g h:Int)(u:Vc):D:=.tup [.int (g*u.1-h),.int (g*u.2-h)]
def NI(g h:Int)(w:Wl):D:=.tup [gp g h (ea w),gp g h (eb w)]
def vB{g h a c:Int}(b:0<g):g*a-h<g*c-h↔a<c:=by
 constructor
 .intro e;exact Int.lt_of_mul_lt_mul_left (():g*a<g*c) ()
 .intro e;have:=Int.mul_lt_mul_of_pos_left e b;omega
def kQ{g h a c:Int}(b:0<g):g*a-h=g*c-h↔a=c:=by let h1:=vB (h:=h) (a:=a) (c:=c) b;let h2:=vB (h:=h) (a:=c) (c:=a) b;omega
def Il{g h a c:Int}(b:0<g):g*a-h<=g*c-h↔a<=c:=by let h2:=vB (h:=h) (a:=c) (c:=a) b;omega
def ue{g h a b c d:Int}(e:0<g):HT.lexLt [g*a-h,g*b-h] [g*c-h,g*d-h]=HT.lexLt [a,b] [c,d]:=by simp only[HT.lexLt,vB e,kQ e]
def AV{g h a b c d:Int}(e:0<g):HT.cC [g*a-h,g*b-h] [g*c-h,g*d-h]=HT.cC [a,b] [c,d]:=by simp only[HT.cC,vB e,kQ e,gt_iff_lt]
def oN{g h a b c d:Int}(e:0<g):HT.lexLe [g*a-h,g*b-h] [g*c-h,g*d-h]=HT.lexLe [a,b] [c,d]:=by simp only[HT.lexLe,vB e,kQ e,Il e]
def FU(g h a b c d e f:Int):OA (g*c-h-(g*a-h)) (g*d-h-(g*b-h)) (g*e-h-(g*a-h)) (g*f-h-(g*b-h))=(g*g)*OA (c-a) (d-b) (e-a) (f-b):=by unfold OA;grind
def GI{g:Int}(a:0<g)(z:Int):JH (g*g*z)=JH z:=by let b:=JC a a;rw[Int.sign_mul,JZ b,Int.one_mul]
def ir{g h x:Int}(G:Gs g h)(hx:0<=x/\x<=20):Bd 12 (g*x-h):=by let h1:=G.g0;let h2:=G.g1;let c:=G.h0;let d:=G.h1;let a:g*x<=12*20:=Int.mul_le_mul h2 hx.2 hx.1 ⋯;let b:0<=g*x:=LK () hx.1;show(g*x-h).natAbs<2^12;omega
def oh{g h:Int}(a:0<g)(u v:Vc):JS (.tuple [.int (g*u.1-h),.int (g*u.2-h)]) (.tuple [.int (g*v.1-h),.int (g*v.2-h)])=decide (u=v):=by rw[oe,MK,kQ a,kQ a];exact #[λe=>Prod.ext e.1 e.2,λe=>by rw[e];exact #[5,rfl]]
def N0(M:MH)(r:pd)(n:Nat):Prop:=∃a b c:Int,M r=MA (.lst [.int a,.int b,.int c])/\0<=a/\0<=b/\b<2147483647/\0<=c/\c<=n
theorem N0.le{M:MH}{r:pd}{n m:Nat}(h:N0 M r n)(l:n<=m):N0 M r m:=let⟨a,b,c,h1,h2,d,e,f,g⟩:=h;#[a,b,c,h1,h2,d,e,f,()]
theorem N0.ne{M:MH}{r p:pd}{n:Nat}(h:N0 M r n)(a:M p=MB):r≠p:=let⟨_,_,_,h1,_⟩:=h;ax h1 a
theorem N0.new{M:MH}{r p:pd}{n:Nat}{o:MO}(h:N0 M r n)(d:M p=MB):N0 (av M p o) r n:=let⟨a,b,c,h1,h2⟩:=h;#[a,b,c,by rw[ak (ax h1 d)];exact h1,h2]
theorem N0.upd{M:MH}{r p:pd}{n:Nat}{o:MO}(h:N0 M r n)(ne:r≠p):N0 (av M p o) r n:=let⟨a,b,c,h1,h2⟩:=h;#[a,b,c,by rw[ak ne];exact h1,h2]
def Kx(xs:rp)(M b:MH):Prop:=∀a o,a∉xs->M a=MA o->b a=MA o
theorem Kx.refl{xs:rp}{M:MH}:Kx xs M M:=λ_ _ _ h=>h
theorem Kx.trans{xs:rp}{M c M2:MH}(a:Kx xs M c)(b:Kx xs c M2):Kx xs M M2:=λx o n h=>b x o n (a x o n h)
theorem Kx.upd{xs:rp}{M b:MH}{p:pd}{o:MO}(a:Kx xs M b)(c:p∈xs):Kx xs M (av b p o):=λx u n h=>by let ne:x≠p:=λe=>n (by rw[e];exact c);rw[ak ne];exact a x u n h
theorem Kx.new{xs:rp}{M b:MH}{p:pd}{o:MO}(a:Kx xs M b)(c:b p=MB):Kx xs M (av b p o):=λx u n h=>by rw[ak (ax (a x u n h) c)];exact a x u n h
def X4(g h:Int)(w:Wl):Lw:=.tuple [.tuple [.int (g*w.1-h),.int (g*w.2.1-h)],.tuple [.int (g*w.2.2.1-h),.int (g*w.2.2.2-h)]]
theorem yy{M:MH}(g h:Int):∀ws:r8,Pl M (ws.map (NI g h)) (ws.map (X4 g h))
 |[]=>.nil
 |w::ws=>.cons (Pd.of rfl) (yy g h ws)
theorem Am(g h:Int):∀ws:r8,KL (ws.map (X4 g h))=MC
 |[]=>rfl
 |w::ws=>by rw[Ji,KL,Am g h ws];rfl
theorem xh(g h:Int):∀ws:r8,KP (ws.map (X4 g h))<=10
 |[]=>NG rfl
 |w::ws=>by
  rw[Ji,KP]
  exact Nat.max_le.mpr #[NG rfl,xh g h ws]
def wH(g h:Int)(ws:r8):L4 (.list (ws.map (X4 g h)))=MC:=by unfold L4;let h1:=Am g h ws;let h2:=xh g h ws;rw[Kp];refine #[by rw[Mj];exact h1,MI ?_];rw[PyData.depth];omega
theorem rX(g h:Int):∀ws:r8,JS (.list (ws.map (X4 g h))) (.list [])=ws.isEmpty
 |[]=>by simp[JS,Kt]
 |w::ws=>by simp[JS,Kt]
def BQ{g h:Int}{ws:r8}{v:Int}(h0:0<=v)(h1:v<ws.length):∃w,w∈ws/\atI (ws.map (NI g h)) v=MA (NI g h w):=by
 obtain⟨j,rfl⟩:∃j:Nat,v=(j:Int):=#[v.toNat,()];let a:j<ws.length:=()
 exact #[ws[j],Kj a,bM (by simp[a])]
def A8{g h:Int}{w:Wl}(W:NK w){v:Int}(h0:0<=v)(h1:v<2):∃p,Nd p/\atI [gp g h (ea w),gp g h (eb w)] v=MA (gp g h p):=by
 rcases(():v=0\/v=1)with rfl|rfl
 .exact #[_,W.ea,rfl]
 .exact #[_,W.eb,rfl]
def xI{ws:r8}:PF ws↔ws.Pairwise N1:=by
 rw[Kf];constructor
 .intro h i j b c a;exact h i j _ _ () (J7 b) (J7 c)
 .intro h i j U V a d e;let[b,5]:=J8.mp d;let[c,5]:=J8.mp e;rcases Nat.lt_or_gt_of_ne a with z|z
  .exact h i j b c z
  .exact(h j i c b z).swap
theorem t5{a b:r8}(p:b.Perm a)(h:PF a):PF b:=xI.mpr ((p.pairwise_iff λ{x y} z=>N1.swap z).mpr (xI.mp h))
theorem Eh{ws:r8}{w:Wl}{j:Nat}(h:PF ws)(hw:∀(t:Nat)(v:Wl),ws[t]?=MA v->N1 w v):PF (f6 ws j w):=t5 (ik ws j w) (t5 (List.perm_append_singleton w ws).symm (wb h hw))
def Ca{g h:Int}(d:0<g){u v:Vc}(i:Nd u)(hv:Nd v)(ne:u≠v):∃w:Wl,NK w/\(if HT.lexLt [g*v.1-h,g*v.2-h] [g*u.1-h,g*u.2-h]=MC then[g*v.1-h,g*v.2-h]else[g*u.1-h,g*u.2-h])=[g*w.1-h,g*w.2.1-h]/\
 (if HT.cC [g*v.1-h,g*v.2-h] [g*u.1-h,g*u.2-h]=MC then[g*v.1-h,g*v.2-h]else[g*u.1-h,g*u.2-h])=[g*w.2.2.1-h,g*w.2.2.2-h]:=by
 let[w,e1,e2,W]:=vD (p:=u.1) (q:=u.2) (e:=v.1) (f:=v.2) i.1 i.2 hv.1 hv.2 (λz=>ne (Prod.ext z.1 z.2))
 exists w,W,?_
 .rw[ue d]
  by_cases c:HT.lexLt [v.1,v.2] [u.1,u.2]=MC
  .rw[MF c]at e1 ⊢
   injection e1 with b a;injection a with a _
   rw[b,a]
  .rw[ME c]at e1 ⊢
   injection e1 with b a;injection a with a _
   rw[b,a]
 .rw[AV d]
  by_cases c:HT.cC [v.1,v.2] [u.1,u.2]=MC
  .rw[MF c]at e2 ⊢
   injection e2 with b a;injection a with a _
   rw[b,a]
  .rw[ME c]at e2 ⊢
   injection e2 with b a;injection a with a _
   rw[b,a]
def wx{b:Type}(f:b->D)(l:List b):cutD (l.map f) (MA 1) MB=(l.drop 1).map f:=by
 unfold cutD;rw[show(MA 1:rf)=MA ((1:Nat):Int)from rfl,HT.By,HT.z5];cases l with
 |nil=>rfl
 |cons a l=>
  have:min 1 ((a::l).map f).length=1:=by simp
  rw[this]
  simp
  exact KR (_)
theorem zJ{M:MH}:∀bs:List Bool,Pl M (bs.map D.bl) (bs.map PyData.bool)
 |[]=>.nil
 |b::bs=>.cons (.bl b) (zJ bs)
theorem yH:∀bs:List Bool,KL (bs.map PyData.bool)=MC
 |[]=>rfl
 |b::bs=>by rw[Ji,KL,yH bs];rfl
def Er(c:Bool)(bs:List Bool):(bs.map PyData.bool).any (λq=>JS q (.bool c))=bs.any (λb=>b==c):=by
 rw[List.any_map]
 congr 1
def OM(m:Nat):Nat->r8
 |0=>(JN 0 (m+1)).map λk:Nat=>N8 (k:Int)
 |i+1=>OM m i++[NZ (i:Int) 0,NZ (i:Int) 1]
theorem oY(m:Nat):∀i,(OM m i).length=m+1+2*i
 |0=>by simp[OM]
 |i+1=>by rw[OM,Ke,oY m i];simp;omega
theorem qS(m:Nat):∀i k,i+k=m->(OM m i).Perm (QB (m:Int) i++(JN i k).map λk:Nat=>N8 (k:Int))
 |0,k,e=>by
  obtain rfl:k=m:=()
  rw[OM,QB,List.range'_concat,JE]
  simpa using(List.perm_append_comm (l₁:=(JN 0 k).map λk:Nat=>N8 (k:Int)) (l₂:=[N8 (k:Int)]))
 |i+1,k,e=>by
  let b:=qS m i (k+1) ()
  rw[List.range'_succ,Ji]at b
  rw[OM,QB]
  refine(b.append_right _).trans ?_
  rw[List.append_assoc,List.append_assoc]
  refine List.Perm.append_left _ ?_
  generalize (JN (i+1) k).map (λk:Nat=>N8 (k:Int))=R
  let a:(N8 (i:Int)::R++[NZ (i:Int) 0,NZ (i:Int) 1]).Perm ([NZ (i:Int) 0,NZ (i:Int) 1]++(N8 (i:Int)::R)):=List.perm_append_comm
  exact a
def uY(m:Nat):(OM m m).Perm (QB (m:Int) m):=by have:=qS m m 0 ();simpa using this
def Jb(k:Int):NI 12 0 (N8 k)=.tup [.tup [.int (12*k),.int 0],.tup [.int (12*k),.int 12]]:=by simp[NI,gp,N8,ea,eb]
def Jd(k:Int):NI 12 0 (NZ k 0)=.tup [.tup [.int (12*k),.int 0],.tup [.int (12*k+12),.int 0]]/\NI 12 0 (NZ k 1)=.tup [.tup [.int (12*k),.int 12],.tup [.int (12*k+12),.int 12]]:=by
 let e:12*(k+1)=12*k+12:=()
 simp[NI,gp,NZ,ea,eb,e]
def raw(g h:Int)(w:Wl):Wl:=(g*w.1-h,g*w.2.1-h,g*w.2.2.1-h,g*w.2.2.2-h)
theorem yI(g h:Int):∀ws:r8,(ws.map (raw g h)).map uw=ws.map (NI g h)
 |[]=>rfl
 |w::ws=>by rw[Ji,Ji,Ji,yI g h ws];rfl
def Fl{g h:Int}(G:Gs g h){w:Wl}(W:NK w):Uok (10^3) (raw g h w):=by
 let k:∀{x:Int},(0<=x/\x<=20)->-(10^3)<=g*x-h/\g*x-h<=10^3:=λ{x} hx=>by
  let h1:=G.g0
  let h2:=G.g1
  let e:=G.h0
  let f:=G.h1
  let a:g*x<=12*20:=Int.mul_le_mul h2 hx.2 hx.1 ⋯
  let b:0<=g*x:=LK () hx.1
  omega
 exact #[k W.a,k W.b,k W.c,k W.d]
section
variable{X:Cx}
def wX:Lw->Bool
 |.list _=>MC
 |.tuple _=>MC
 |_=>MD
structure Zp(P:Lw):Prop where
 s:P.showable=MC
 d:P.hasDict=MD
 n:P.depth<=40
 l:P.shown.length<=Jo
def Cj:RC:=λa M Q=>match a with
 |[d]=>∃P,Pd M d P/\wX P=MC/\Zp P/\Q (.str P.shown) M
 |_=>False
def uk(i:X.A.guards=MA [])(x:X.A.units+64<Kh):d5 X (.builtin "repr") Cj:=by
 intro MP s σ H vs us Q I r ⟨y,M,R,j,a,q,c⟩;unfold Cj at q;split at q
 .obtain⟨P,k,di,S,q⟩:=q;let[v,5,m]:=bP j;let[u,5,o]:=vals1 r;let[B,f]:=bw I a k m o;obtain⟨b,rfl⟩:∃b,u=.ref b:=by cases f<;>first|exact #[_,rfl]|cases di
  let[h,g,d,t,os]:=s;refine repr_of_reads' (h₀:=h) f S.s (λz=>by rw[S.d]at z;cases z) i (by have:=S.n;omega) (λ_ _ e=>e) (λh' u p w=>?_) S.l;let It:=I.kept (h':=h') (t':=p) w;exact #[.str P.shown,H,It,#[u,rfl],c _ _ _ _ .refl (by rw[Rep]) a q]
 .exact q.elim
def FN:Nx:=λx y M Q=>match x,y with
 |.str a,.str b=>a=b/\Q (.bl MC) M
 |_,_=>False
def Df:OC X (JY .Eq) FN:=by
 intro MP s σ H v u g i Q I e f h;let[x,y,M,R,c,d,a,q,b]:=h;unfold FN at q;split at q
 .obtain⟨rfl,q⟩:=q;rw[Rep]at c d;subst c d;let[t1,5]:=e;let[j,5]:=f;refine PySem.P.eq_str ?_;rw[beq_self_eq_true];exact #[.bl MC,H,I,5,b _ _ _ _ .refl (by rw[Rep]) a q]
 .exact q.elim
theorem uL:Kq "repr"=MA (.builtin "repr"):=boot_repr
end
theorem tR{ws:r8}:∀{i:Nat}{rs:p_},Xk ws i rs->rs.length<=i
 |0,rs,h=>by rw[show rs=[]from h];simp
 |i+1,rs,⟨qs,h1,h2⟩=>by
  have:=tR h1
  rcases h2 with⟨_,rfl⟩|⟨_,r,_,rfl⟩
  .omega
  .simp;omega
structure YB(ws:r8)(r:q7):Prop where
 rng:Rng ws r
 len:r.length<=2*ws.length
 lt:∀g∈r,g<2*ws.length
 pos:0<r.length
theorem pK{ws:r8}(a:∀w∈ws,NK w)(hF:PF ws):∀{i:Nat}{rs:p_},i<=2*ws.length->Xk ws i rs->∀r∈rs,YB ws r
 |0,rs,_,h,r,hr=>by rw[show rs=[]from h]at hr;cases hr
 |i+1,rs,hi,⟨qs,h1,h2⟩,r,hr=>by
  rcases h2 with⟨_,rfl⟩|⟨_,f,⟨b,n,e,rfl⟩,rfl⟩
  .exact pK a hF () h1 r hr
  .rcases Jv.mp hr with z|z
   .exact pK a hF () h1 r z
   .have:r=rn ws i b:=‹z›
    subst this
    let d:=u5 a hF (():i<2*ws.length) n
    refine #[#[i,b,(),d,5,e],by rw[j8];omega,λg c=>?_,by rw[j8];omega]
    unfold rn at c
    let[j,_,5]:=JO.mp c
    exact jM a hF () j
def RL.get{M:MH}{ps:rp}{rs:p_}(h:RL M ps rs){i:Nat}(b:i<ps.length):∃r,rs[i]?=MA r/\M ps[i]=MA (.lst (r.map sq)):=by
 unfold RL at h
 induction h generalizing i with
 |nil=>simp at b
 |@cons p r ps rs a _ ih=>
  cases i with
  |zero=>exact #[r,5,a]
  |succ i=>simpa using ih ‹b›
def yL{ws:r8}(e:∀w∈ws,NK w){g:Nat}(i:g<2*ws.length):Nd (fa ws g):=by
 let[_,_,f]:=aW (ws:=ws) (k:=((g/2:Nat):Int)) () ();let W:=e _ f;unfold fa fw;by_cases h:g%2=0
 .rw[MF h];exact #[W.a,W.b]
 .rw[ME h];exact #[W.c,W.d]
def uc{n j:Nat}(h:j<n):L2.ixN n (j:Int)=MA j:=by unfold L2.ixN;rw[MF (),MF ()];rfl
def Ld(v:Int):Prop:=0<=v/\v<=80
theorem jt(k:N3)(d:D)(c:N3):∀kvs:Nv,((kvs.map λx=>if x.1=k then(x.1,d)else x).find? λx=>decide (x.1=c)).map (·.2)=if c=k/\(kvs.any λx=>decide (x.1=k))=MC then MA d else(kvs.find? λx=>decide (x.1=c)).map (·.2)
 |[]=>by simp
 |x::kvs=>by
  let f:=jt k d c kvs
  rw[Ji,JK,JK,LH]
  by_cases a:x.1=k
  .rw[MF a]
   by_cases b:x.1=c
   .have e:c=k:=b.symm.trans a
    simp[a,e]
   .have ne:¬c=k:=λz=>b (a.trans z.symm)
    rw[ME (λz=>ne z.1)]
    rw[ME (λz=>ne z.1)]at f
    simp only[MG b]
    exact f
  .rw[ME a]
   by_cases b:x.1=c
   .have ne:¬c=k:=λz=>a (b.trans z)
    rw[ME (λz=>ne z.1)]
    simp[b]
   .simp only[MG b,MG a,Bool.false_or]
    exact f
def qe(kvs:Nv)(k:N3)(d:D)(a:N3):dE (putD kvs k d) a=if a=k then MA d else dE kvs a:=by
 unfold putD dE;by_cases h:(kvs.any λx=>decide (x.1=k))=MC
 .rw[MF h,jt];by_cases e:a=k
  .rw[MF #[e,h],MF e]
  .rw[ME (λz=>e z.1),ME e]
 .rw[ME h,List.find?_append];by_cases e:a=k
  .subst e;have:(kvs.find? λx=>decide (x.1=a))=MB:=by rw[List.find?_eq_none];intro x hx b;exact h (List.any_eq_true.mpr #[x,hx,b])
   rw[this,MF rfl];simp
  .rw[ME e];have:([(k,d)]:Nv).find? (λx=>decide (x.1=a))=MB:=by simp;exact λz=>e z.symm
   rw[this];simp
def qG(kvs:Nv)(k:N3)(d:D):(putD kvs k d).map (·.1)=if k∈kvs.map (·.1)then kvs.map (·.1)else kvs.map (·.1)++[k]:=by
 unfold putD;let e:((kvs.any λx=>decide (x.1=k))=MC)↔k∈kvs.map (·.1):=by rw[List.any_eq_true,JO];exact #[λc=>by let[x,a,b]:=c;exact(#[x,a,‹b›]),λf=>by let[x,a,b]:=f;exact(#[x,a,‹b›])]
 by_cases h:k∈kvs.map (·.1)
 .rw[MF (e.mpr h),MF h,KA];apply Lj;intro x _;show(if x.1=k then(x.1,d)else x).1=x.1;split<;>rfl
 .rw[ME (λz=>h (e.mp z)),ME h,JE];rfl
def Ab(K:J1):Own:=λy H os=>∃a b u v w,y=.ref a/\NW K H a [u,.ref b]/\NW K H b [v,w]/\os=[MA u,MA v,MA w]
def GD(d:D)(os:DS):Prop:=∃p q r,d=.tup [p,.tup [q,r]]/\os=[MA p,MA q,MA r]
def vE{K:J1}{H:Hp}{d:D}{v:V}{os:DS}(r:Rep K H d v)(h:GD d os):∃us,Ab K v H us/\Slots K H os us:=by let[p,q,t,5,5]:=h;rw[Rep]at r;let[a,xs,5,i,e]:=r;rw[aD]at e;let[u,n,5,j,e]:=e;rw[aD]at e;let[y,o,5,g,e]:=e;rw[aD]at e;subst e;rw[Rep]at g;let[b,s,5,k,c]:=g;let l:=c;rw[aD]at c;let[v,x,5,m,c]:=c;rw[aD]at c;let[w,z,5,f,c]:=c;rw[aD]at c;subst c;exact #[_,#[a,b,u,v,w,5,i,k,rfl],ig (ds:=[p,q,t]) (xs:=[u,v,w]) (.cons j (.cons m (.cons f .nil)))]
theorem Bz{K:J1}:OR 3 (tO K 2 (fB (de 0) (fB (tO K 2 (fB (de 1) (fB (de 2) rY))) rY))) (Ab K):=#[λ_ _ os c=>by let[a,b,u,v,w,_,_,_,e]:=c;rw[e];rfl,λy H f g os Q h d q=>by
 let[a,b,u,v,w,e,h1,h2,i]:=d
 match f,h with
 |[o,o',o''],_=>rw[i]at q;exact #[a,_,e,h1,5,u,7,_,7,#[b,7,h2,5,v,7,w,7,5,5,q]]]
def Dw(I:QL)(js:q7)(tc:Nh)(te:TD)(δ:DS)(f:MH)(Q:DK):Prop:=I.n<=1000000/\∀p,f p=MB->∃W:Nat->sg->MH->Prop,W 0 [] (av f p (.lst []))/\(∀i a M,i<=I.n->W i a M->I.C M)/\
 (∀i a d M,i<I.n->I.item i=MA d->W i a M->∃os,GD d os/\tc (cδ os js δ) M λb g=>if b=MC then te (cδ os js δ) g λe h=>∃c,Sub c h/\c p=MA (.lst a)/\W (i+1) (a++[e]) (av c p (.lst (a++[e])))else ∃c,Sub c g/\W (i+1) a c)/\∀a M,W I.n a M->Q (.ref p) M
def yR(a:OL)(js:q7)(tc:Nh)(te:TD):TD:=λδ M Q=>a δ M λI b=>Dw I js tc te δ b Q
section
variable{X:Cx}{K:J1}
def sA{C:OL}{js:q7}{tc:Nh}{te:TD}{σ:L2.St}{H:Hp}{Q:VK}(h:lift K (yR C js tc te) σ H Q):oU js (Ab K) (kg K C) (liftT K tc) (lift K te) σ H Q:=by
 let[δ,M,R,D,P,q,t]:=h;refine #[δ,M,_,D,P,q,λI M1 H1 J g1 E w x p y=>?_];let[S,w]:=w;let[W,T,hC,l,done]:=w p (E.fresh y);refine #[λi m j=>m=I.n-i/\i<=I.n/\ND K H1 j/\∃c M,c.length<=i/\NM K j M/\W i c M,#[I.n,by simp,K3 _,.new y,[],_,Je _,E.j4 y .nil,T],?_];rintro i m j ⟨rfl,z,f,c,k,U,r,o⟩;by_cases a:i<I.n
 .refine .inr #[x.go i j k a f r (hC _ _ _ z o),λv V Y=>?_];let[A,Z,d,ed,rd]:=x.yld i j k v V a f r (hC _ _ _ z o) Y;let[os,ow,q3]:=l i c d k a ed o;let[us,uv,su]:=vE rd ow;let F:=jk (js:=js) (D.mono ((g1.trans f).trans A)) su;refine #[us,uv,cδ os js δ,k,_,F,Z,q3,λb M4 H4 B G s=>?_];cases b with
  |false=>
   rw[ME Js]at s ⊢
   let[M5,s5,w5]:=s
   exact #[I.n-(i+1),(),5,a,(f.trans A).trans B,c,M5,(),G.sub s5,w5]
  |true=>
   rw[MF rfl]at s ⊢
   refine #[cδ os js δ,M4,_,F.mono B,G,s,λe M' u H5 g5 r5 L g=>?_]
   let[M6,N,e6,w6]:=g
   let[zs,hx,O]:=(L.sub N) _ _ e6
   refine #[zs,hx,?_,I.n-(i+1),(),5,a,(((f.trans A).trans B).trans g5).trans (.lst hx),c++[e],_,by simp;omega,(L.sub N).vg hx (O.append (.cons r5 .nil)),w6]
   rw[<-O.length]
   exact Nat.lt_of_le_of_lt U (JD a (JT S ⋯))
 .obtain rfl:i=I.n:=()
  exact .inl #[x.stop j k f r (hC _ _ _ z o),t _ _ _ _ (g1.trans f) (by rw[Rep]) r (done c k o)]
end
section
variable{X:Cx}{x y z:Str}{px py pz pt pu pos:Pos}{kt ku:Nat}{js:q7}{scope:L9}{elt iter:pv}{ifs:ro}{te:TD}{tc:Nh}{wd:OL}
theorem B8(c:NC X [x,y,z] js scope)(a:X.calm=MC){C:pd}{s:J5}{H:Hp}{fp:rp}:PG (NN X [x,y,z] js scope C s H fp) (.Tuple [.Name x px,.Tuple [.Name y py,.Name z pz] ku pu] kt pt) (tO X.K 2 (fB (de 0) (fB (tO X.K 2 (fB (de 1) (fB (de 2) rY))) rY))):=ph (X:=NN X [x,y,z] js scope C s H fp) a (eE (fg c 0 rfl) (eE (ph (X:=NN X [x,y,z] js scope C s H fp) a (eE (fg c 1 rfl) (eE (fg c 2 rfl) lj)) rfl rfl) lj)) rfl rfl
end
section
variable{X:Cx}{x y z:Str}{px py pz pt pu pos:Pos}{kt ku:Nat}{js:q7}{scope:L9}{elt iter:pv}{ifs:ro}{te:TD}{tc:Nh}{wd:OL}
theorem yS(i:Nat){v:Str}{h b:Pos}(k:X.N.Nodup)(c:NC X [x,y,z] js scope)(j:X.calm=MC)(l:DI X (.Tuple [.Name x px,.Tuple [.Name y py,.Name z pz] ku pu] kt pt) iter wd)(m:∀C s H fp,DTs (NN X [x,y,z] js scope C s H fp) ifs tc)(n:∀C s H fp,DE (NN X [x,y,z] js scope C s H fp) elt te) (o:X.N[i]?=MA v:=by rfl) (p:X.env.scope.names.lookup v=MA .local:=by rfl) (g:La (.ListComp elt [#[.Tuple [.Name x px,.Tuple [.Name y py,.Name z pz] ku pu] kt pt,iter,ifs,0]] scope pos) (MA (.Name v h)) b.line X.env=pure MC:=by rfl) (f:∀x,JG iter X.env x=pure x:=by intro _;rfl) : DSt X (.Assign [.Name v h] (.ListComp elt [#[.Tuple [.Name x px,.Tuple [.Name y py,.Name z pz] ku pu] kt pt,iter,ifs,0]] scope pos) b) (c7 (yR wd js tc te) (aU i)):=cn (uS (te:=lift X.K te) (tc:=liftT X.K tc) c j k l Bz (λ_ _ _ _=>B8 c j) m n o p g f) λE σ H e=>by let[δ,M,f,a,B,ok,q]:=e;exact(sA #[δ,M,_,f,a,q,λd w v H1 g1 r t u=>ok.nx _ _ _ _ g1 ((f.mono g1).set r i) t u])
end
section
variable{X:Cx}{x y:Str}{px py pt pos:Pos}{kt:Nat}{js:q7}{scope:L9}{kx vx iter:pv}{ifs:ro}{tx te:TD}{tc:Nh}{wd:OL}
theorem vA(i:X.A.units+66<Kh)(c:NC X [x,y] js scope)(a:X.calm=MC)(b:DI X (.Tuple [.Name x px,.Name y py] kt pt) iter wd)(d:∀C s H fp,DTs (NN X [x,y] js scope C s H fp) ifs tc)(e:∀C s H fp,DE (NN X [x,y] js scope C s H fp) kx tx)(f:∀C s H fp,DE (NN X [x,y] js scope C s H fp) vx te) (g:∀x,JG iter X.env x=pure x:=by intro _;rfl):DE X (.DictComp kx vx [#[.Tuple [.Name x px,.Name y py] kt pt,iter,ifs,0]] scope pos) (lD wd (.many 2) js tc tx te):=aX (zF (tk:=lift X.K tx) (te:=lift X.K te) (tc:=liftT X.K tc) c a b tQ (λ_ _ _ _=>pj c a) d e f () g) λ_ _ _ h=>lR h
end
section
variable{X:Cx}
end
def Rv(f:Str)(d:D):List (Str×D)->List (Str×D)
 |[]=>[(f,d)]
 |(g,x)::r=>if g=f then(g,d)::r else(g,x)::Rv f d r
def gI(K:J1)(H:Hp):List (Str×D)->List (Str×V)->Prop
 |[],[]=>True
 |p::ps,q::qs=>p.1=q.1/\Rep K H p.2 q.2/\gI K H ps qs
 |_,_=>False
section
variable{K:J1}{H H':Hp}
theorem gI.mono(g:ND K H H'):∀{fs:List (Str×D)} {vs:List (Str×V)},gI K H fs vs->gI K H' fs vs
 |[],[],_=>trivial
 |_::_,_::_,h=>#[h.1,h.2.1.mono g,gI.mono g h.2.2]
 |[],_::_,h=>h.elim
 |_::_,[],h=>h.elim
theorem gI.len:∀{fs:List (Str×D)} {vs:List (Str×V)},gI K H fs vs->vs.length=fs.length
 |[],[],_=>rfl
 |_::_,_::_,h=>by rw[Jz,Jz,gI.len h.2.2]
 |[],_::_,h=>h.elim
 |_::_,[],h=>h.elim
theorem gI.get{f:Str}:∀{fs:List (Str×D)} {vs:List (Str×V)},gI K H fs vs->(∀d,fs.lookup f=MA d->∃v,vs.lookup f=MA v/\Rep K H d v)/\(fs.lookup f=MB->vs.lookup f=MB)
 |[],[],_=>#[λ_ e=>(by cases e),λ_=>rfl]
 |(g,x)::r,(g',y)::r',h=>by
  let[e,h1,h2]:=h
  let e:g=g':=e
  subst e
  let a:=gI.get (f:=f) h2
  simp only[List.lookup]
  cases f==g with
  |true=>exact #[λd e=>(by cases e;exact #[y,5,h1]),λe=>(by cases e)]
  |false=>exact a
 |[],_::_,h=>h.elim
 |_::_,[],h=>h.elim
theorem gI.put{f:Str}{d:D}{v:V}(r:Rep K H d v):∀{fs:List (Str×D)} {vs:List (Str×V)},gI K H fs vs->gI K H (Rv f d fs) (fR f v vs)
 |[],[],_=>#[5,r,trivial]
 |(g,x)::q,(g',y)::q',h=>by
  let[e,h1,h2]:=h
  let e:g=g':=e
  subst e
  unfold Rv fR
  by_cases z:g=f
  .rw[MF z,MF z];exact #[5,r,h2]
  .rw[ME z,ME z];exact #[5,h1,gI.put r h2]
 |[],_::_,h=>h.elim
 |_::_,[],h=>h.elim
end
def dh(C:pd)(fs:List (Str×D)):MO:=.gen λK H a=>∃b vs,H a=MA (.ins C b vs)/\gI K H fs vs
theorem Ho{K:J1}{H:Hp}{a C b:pd}{fs:List (Str×D)}{vs:List (Str×V)}(h:H a=MA (.ins C b vs))(r:gI K H fs vs):mQ K H a (dh C fs):=#[#[b,vs,h,r],by rw[h];simp,λc g e=>#[b,vs,e.trans h,r.mono g]]
theorem NM.Ik{K:J1}{H:Hp}{M:MH}{p:pd}{o:HO}{m:MO}(h:NM K H M)(g:ND K H (upd H p o))(q:mQ K (upd H p o) p m):NM K (upd H p o) (av M p m):=λa u e=>by
 by_cases ne:a=p
 .subst ne;rw[ag]at e;cases e;exact q
 .rw[ak ne]at e;exact(h a u e).fJ g (aE ne)
def Hx(K:J1)(c:TD)(f:Str):TD:=λδ M Q=>c δ M λx b=>∃a C fs d,x=.ref a/\b a=MA (dh C fs)/\Cls K C/\bR K C f/\fs.lookup f=MA d/\Q d b
def Ht(K:J1)(c d:TD)(f:Str):Nu:=λB δ M=>d δ M λy e=>c δ e λx b=>∃a C fs,x=.ref a/\b a=MA (dh C fs)/\Cls K C/\bR K C f/\fs.length<1000/\B.nx δ (av b a (dh C (Rv f y fs)))
def wG(P:Ju)(w:JV)(K:J1)(mg:Str->Option J3)(base:pq)(k:Nat)(C:pd)(m:Str)(sp:Nl):Prop:=
 ∃f fd ps,Ni P w K mg base OT k f fd ps (dN K sp)/\Meth K C m f/\Binds K fd ps []
def wD(P:Ju)(w:JV)(K:J1)(mg:Str->Option J3)(base:pq)(k:Nat)(c:Str)(C:pd)(sp:Nl):Prop:=
 ∃f fd ps,Ni P w K mg base OT k f fd ps (dN K sp)/\L2.Mk K C f/\Binds K fd ps []/\mg c=MA (.ref C)
def vJ(P:Ju)(w:JV)(K:J1)(mg:Str->Option J3)(base:pq)(k:Nat)(c m:Str)(sp:Nl):Prop:=
 ∃S f fd ps,Ni P w K mg base OT k f fd ps (dN K sp)/\Ky K (.ref f)=MC/\Binds K fd ps []/\mg c=MA (.ref S)/\
  PySem.W.specialIn K (.ref S) "__getattribute__"=MA (MA (.builtin "type.__getattribute__"))/\PySem.W.readsIn K S (.type "type")=MC/\PySem.W.findCls K (.ref S) (.type "type") m=MA (.val (.ref f))
section
variable{P:Ju}{w:JV}{K:J1}{mg:Str->Option J3}{base:pq}{j k:Nat}{C:pd}{c m:Str}{sp:Nl}
theorem wG.mono(h:wG P w K mg base j C m sp)(l:j<=k):wG P w K mg base k C m sp:=let⟨f,fd,ps,F,r⟩:=h;#[f,fd,ps,F.mono l,r]
theorem wD.mono(h:wD P w K mg base j c C sp)(l:j<=k):wD P w K mg base k c C sp:=let⟨f,fd,ps,F,r⟩:=h;#[f,fd,ps,F.mono l,r]
theorem vJ.mono(h:vJ P w K mg base j c m sp)(l:j<=k):vJ P w K mg base k c m sp:=let⟨S,f,fd,ps,F,r⟩:=h;#[S,f,fd,ps,F.mono l,r]
end
def C2(C:pd)(m:Str)(sp:Nl)(c:TD)(t:N7):TD:=λδ M Q=>c δ M λx b=>∃a fs,x=.ref a/\b a=MA (dh C fs)/\fs.lookup m=MB/\t δ b λd e=>sp (x::d) e Q
def ED(C:pd)(sp:Nl)(t:N7):TD:=λδ M Q=>t δ M λb a=>∀x,a x=MB->sp (.ref x::b) (av a x (dh C [])) λv c=>v=.non/\Q (.ref x) c
section
variable{X:Cx}{k:Nat}{C:pd}{x c m f:Str}{sp:Nl}{p np pos pos' apos:Pos}{o e value:pv}{es:ro}{ta tv:TD}{t:N7}
theorem eZ(j:DE X o ta)(r:Lf o f X.env (eval o X.env)=eval o X.env:=by rfl):DE X (.Attribute o f pos) (Hx X.K ta f):=
 aX (EW j r) λσ H Q b=>by let[δ,M,R,s,w,q,g]:=b;exact(#[δ,M,_,s,w,q,λx G v H1 g1 h i z=>by
  let[a,C,fs,d,ex,h1,c,n,l,y]:=z
  subst ex
  rw[Rep]at h;subst h
  obtain⟨⟨A,vs,B,D⟩,_⟩:=i _ _ h1
  let[u,E,F]:=D.get.1 d l
  exact #[a,C,A,vs,u,5,B,c,n,E,g _ _ _ _ g1 F i y]])
theorem gb(hv:DE X value tv)(D:DE X o ta)(d:La value (MA (.Attribute o f pos')) pos.line X.env=pure MD:=by rfl):DSt X (.Assign [.Attribute o f pos'] value pos) (Ht X.K ta tv f):=
 cn (Dy D hv d) λE σ H b=>by let[δ,M,d,F,B,ok,q]:=b;exact(#[δ,M,_,d,F,q,λy G v H1 g1 I J L=>#[δ,G,_,d.mono g1,J,L,λx O u j h r s z=>by
  let[a,C,fs,ex,h1,c,n,l,N]:=z
  subst ex
  rw[Rep]at r;subst r
  obtain⟨⟨w,vs,i,A⟩,_⟩:=s _ _ h1
  let g:ND X.K j (upd j a (.ins C w (fR f v vs))):=.put (λxs z=>by rw[i]at z;cases z) (λu xs z=>by rw[i]at z;cases z)
  exact #[a,C,w,vs,5,i,c,n,by rw[A.len];exact l,ok.nx _ _ _ _ ((g1.trans h).trans g) (d.mono ((g1.trans h).trans g)) (s.Ik g (Ho aF ((A.mono g).put (I.mono (h.trans g))))) N]]])
def ym{pl:Sem Bool}(cl:Cls X.K C)(F:wG X.prog X.w X.K X.mg X.base k C m sp)(h:NL k X.A)(i:DE X o ta)
 (j:eval (.Call (.Attribute o m apos) [] [] pos) X.env=(do
  let ov <-eval o X.env
  standAt apos.atName
  let(f,first) <-holding [ov] (getMethod ov m pl)
  callWith pos f first (Kr pos (Jk [] X.env)) (Mf pos (Lb [] X.env))):=by rfl):DE X (.Call (.Attribute o m apos) [] [] pos) (C2 C m sp ta zG):=by
 let[f,fd,ps,F,n,r]:=F
 refine aX (zT i cl n F h r .nil uI j) λσ H Q ⟨δ,M,R,s,u,q,b⟩=>#[δ,M,_,s,u,q,λx y v H1 g1 d g z=>?_]
 let[a,fs,ex,h1,l,B]:=z
 subst ex
 rw[Rep]at d;subst d
 obtain⟨⟨D,vs,E,G⟩,_⟩:=g _ _ h1
 exists a,D,vs,5,E,G.get.2 l
 show dN X.K sp [.ref a] H1 Q E0
 exact #[_,y,R,.cons (by rw[Rep]) .nil,g,B,b.go g1]
def Az(F:wD X.prog X.w X.K X.mg X.base k x C sp)(B:NL (k+1) X.A)(D:DA X (e::es) t)(E:Gl X x:=by rfl)(h:(x==("__debug__":Str))=MD:=by decide)
 (G:Jk (e::es) X.env=(MD,eval e X.env)::Jk es X.env:=by rfl) (i:(Kr pos (Jk es X.env)).any (·.1)=MD:=by rfl):DE X (.Call (.Name x p) (e::es) [] pos) (ED C sp t):=by
 let[f,fd,ps,F,I,J,L]:=F
 refine aX (Bv I F B E L J .nil uI D h G i) λσ H Q ⟨δ,M,R,N,O,q,j⟩=>#[δ,M,_,N,O,q,λds P us H1 g1 S l z=>λy a r hd ne=>?_]
 let g:ND X.K H1 (upd (upd H1 a (.own y)) y (.ins C a [])):=(ND.new hd).trans (.new (by rw[aE ne.symm];exact r))
 let T:NM X.K (upd (upd H1 a (.own y)) y (.ins C a [])) (av P y (dh C [])):=λb u e=>by
  by_cases n:b=y
  .subst n
   rw[ag]at e;cases e
   exact Ho aF trivial
  .rw[ak n]at e
   let nd:b≠a:=λz=>by
    subst z
    have:=l.fresh hd
    rw[e]at this;cases this
   exact(l b u e).fJ g (by rw[aE n,aE nd])
 show dN X.K sp (.ref y::(us++[])) _ _ E0
 rw[KD]
 exact #[_,_,_,.cons (by rw[Rep]) (S.mono g),T,z y (l.fresh r),λd M' v H' U s V W=>by
  let[Y,Z]:=W
  subst Y
  rw[Rep]at s
  exact #[s,j _ _ _ _ ((g1.trans g).trans U) (by rw[Rep]) V Z]]
def BR{pl:Sem Bool}(F:vJ X.prog X.w X.K X.mg X.base k c m sp)(v:NL k X.A)(y:DA X (e::es) t)(B:Gl X c:=by rfl)(d:(c==("__debug__":Str))=MD:=by decide)
 (g:Jk (e::es) X.env=(MD,eval e X.env)::Jk es X.env:=by rfl) (i:(Kr pos (Jk es X.env)).any (·.1)=MD:=by rfl)
 (D:eval (.Call (.Attribute (.Name c np) m apos) (e::es) [] pos) X.env=(do
  let ov <-eval (.Name c np) X.env
  standAt apos.atName
  let(f,first) <-holding [ov] (getMethod ov m pl)
  callWith pos f first (Kr pos (Jk (e::es) X.env)) (Mf pos (Lb [] X.env))):=by rfl):DE X (.Call (.Attribute (.Name c np) m apos) (e::es) [] pos) (si sp t):=by
 let[S,f,fd,ps,F,E,G,J,L,N,O]:=F
 intro MP s σ H Q I h
 let[δ,M,R,P,T,q,j]:=h
 refine PySem.W.methodCall_KW (pl:=pl) (pb I B J ?_ d) D
 refine PySem.W.method_cls I.kIn L (PySem.W.cls_value I.kIn N O rfl ?_)
 let U:=I.tok (s.toks+1)
 refine PySem.W.callWith_K (h₀:=X.base) I.ok.mod.kin E (NJ (y pos MP _ σ H _ U #[δ,M,_,P,T,q,λa b vs H1 g1 l n z=>(show ∃a b,ND X.K H H1/\aD X.K H1 a vs/\NM X.K H1 b/\sp a b R from #[a,b,g1,l,n,z])]) λus V ⟨vs,H1,u,r,z⟩=>#[u.kIn,?_]) g i
 let[a,b,g1,l,n,z]:=z
 refine tK F v G .nil uI u r ?_
 rw[KD]
 exact #[a,b,R,l,n,z,j.go g1]
end
def vY(K:J1)(C:pd)(x qual:Str)(st:pe):Prop:=∃f fd,RX K x qual st f fd/\Meth K C x f
def wL(K:J1)(mg:Str->Option J3)(c x qual:Str)(st:pe):Prop:=∃S f fd,RX K x qual st f fd/\mg c=MA (.ref S)/\
 PySem.W.specialIn K (.ref S) "__getattribute__"=MA (MA (.builtin "type.__getattribute__"))/\PySem.W.readsIn K S (.type "type")=MC/\PySem.W.findCls K (.ref S) (.type "type") x=MA (.val (.ref f))
def nY(K:J1)(mg:Str->Option J3)(c:Str)(C:pd)(qual:Str)(st:pe):Prop:=∃f fd,RX K "__init__" qual st f fd/\L2.Mk K C f/\mg c=MA (.ref C)
section
variable{P:Ju}{w:JV}{K:J1}{mg:Str->Option J3}{base:pq}{C:pd}{c x qual:Str}{st:pe}{N ps:rq}{k:Nat}{sp:Nl}
def Ir(T:vY K C x qual st)(S:NB N ps (ao st))
 (b:∀(kV a d:J3)(an:Option pd)(cdv ct:J3)(us:List J3),us.length=ps.length->LR (Kc x qual (aZ st) (aL st) (ao st) .none kV a d an cdv ct) #[us,[]]=pure (ps.zip us))
 (len:∀ds M Q,sp ds M Q->ds.length=ps.length)
 (body:∀(f:pd)(cdv:J3)(A:JP)(outer:List Env)(s:J5)(H:Hp)(E:XK),NL k (A.deeper (Mg qual (ao st) s.z f cdv))->
  ∃t,DSs (gJ OT P w K mg base N qual (ao st) f cdv A outer s H E).nox (aL st) t/\∀ds M Q,sp ds M Q->t (jA Q) (dw N ds) M):wG P w K mg base (k+1) C x sp:=by
 let[f,fd,F,e]:=T
 exact #[f,fd,ps,X5 F S len (λ_ _=>trivial) (body f),e,F.binds b]
def IX(T:wL K mg c x qual st)(S:NB N ps (ao st))
 (b:∀(kV a d:J3)(an:Option pd)(cdv ct:J3)(us:List J3),us.length=ps.length->LR (Kc x qual (aZ st) (aL st) (ao st) .none kV a d an cdv ct) #[us,[]]=pure (ps.zip us))
 (len:∀ds M Q,sp ds M Q->ds.length=ps.length)
 (body:∀(f:pd)(cdv:J3)(A:JP)(outer:List Env)(s:J5)(H:Hp)(E:XK),NL k (A.deeper (Mg qual (ao st) s.z f cdv))->
  ∃t,DSs (gJ OT P w K mg base N qual (ao st) f cdv A outer s H E).nox (aL st) t/\∀ds M Q,sp ds M Q->t (jA Q) (dw N ds) M):vJ P w K mg base (k+1) c x sp:=by
 let[e,f,fd,F,r]:=T
 exact #[e,f,fd,ps,X5 F S len (λ_ _=>trivial) (body f),F.kp,F.binds b,r]
def HC(T:nY K mg c C qual st)(S:NB N ps (ao st))
 (b:∀(kV a d:J3)(an:Option pd)(cdv ct:J3)(us:List J3),us.length=ps.length->LR (Kc "__init__" qual (aZ st) (aL st) (ao st) .none kV a d an cdv ct) #[us,[]]=pure (ps.zip us))
 (len:∀ds M Q,sp ds M Q->ds.length=ps.length)
 (body:∀(f:pd)(cdv:J3)(A:JP)(outer:List Env)(s:J5)(H:Hp)(E:XK),NL k (A.deeper (Mg qual (ao st) s.z f cdv))->
  ∃t,DSs (gJ OT P w K mg base N qual (ao st) f cdv A outer s H E).nox (aL st) t/\∀ds M Q,sp ds M Q->t (jA Q) (dw N ds) M):wD P w K mg base (k+1) c C sp:=by
 let[f,fd,F,e,g]:=T
 exact #[f,fd,ps,X5 F S len (λ_ _=>trivial) (body f),e,F.binds b,g]
end
section
variable{K:J1}{mg:Str->Option J3}{c x qual:Str}{st:pe}{C f:pd}{oc:J3}{od an:Option pd}{osl:Array (Option J3)}{kV doc pm cdv ct:J3}
def vY.mk(a:LG K K6 c=MA (MA (.ref C)))(b:KC K (.ref C) x=MA (MA (.ref f)))(e:PySem.W.isFn K (.ref f)=MC) (l:K.lookup f=MA #[oc,od,.func (Kc x qual (aZ st) (aL st) (ao st) .none kV doc pm an cdv ct),osl]) (d:Lv K cdv qual=MC) (k:Ky K (.ref f)=MC):vY K (cl K c) x qual st:=by rw[uJ a];exact #[f,_,oO l d k,b,e,k]
theorem wL.mk{h:pq}(X:K.In h)(G:h.Ns K6 mg)(a:LG K K6 c=MA (MA (.ref C)))(b:PySem.W.findCls K (.ref C) (.type "type") x=MA (.val (.ref f)))(e:PySem.W.specialIn K (.ref C) "__getattribute__"=MA (MA (.builtin "type.__getattribute__")))(r:PySem.W.readsIn K C (.type "type")=MC) (l:K.lookup f=MA #[oc,od,.func (Kc x qual (aZ st) (aL st) (ao st) .none kV doc pm an cdv ct),osl]) (d:Lv K cdv qual=MC) (k:Ky K (.ref f)=MC):wL K mg c x qual st:=#[C,f,_,oO l d k,PySem.W.mg_of X G a,e,r,b]
def nY.mk{h:pq}(X:K.In h)(G:h.Ns K6 mg)(a:LG K K6 c=MA (MA (.ref C)))(m:PySem.W.makesIn K C=MC)(b:KC K (.ref C) "__init__"=MA (MA (.ref f)))(e:PySem.W.isFn K (.ref f)=MC)(kc:Ky K (.ref C)=MC) (l:K.lookup f=MA #[oc,od,.func (Kc "__init__" qual (aZ st) (aL st) (ao st) .none kV doc pm an cdv ct),osl]) (d:Lv K cdv qual=MC) (k:Ky K (.ref f)=MC):nY K mg c (cl K c) qual st:=by rw[uJ a];exact #[f,_,oO l d k,#[m,b,e,kc],PySem.W.mg_of X G a]
def Em(a:LG K K6 c=MA (MA (.ref C)))(pg:PySem.W.plainGet K C Str.empty=MC)(hd:PySem.W.hasDictIn K C=MC)(po:PySem.W.plainOver K C=MC)(sa:KC K (.ref C) "__setattr__"=MA (MA (.builtin "object.__setattr__"))):Cls K (cl K c):=by rw[uJ a];exact #[pg,hd,po,sa]
def qE(a:LG K K6 c=MA (MA (.ref C)))(h:KC K (.ref C) x=MA MB):bR K (cl K c) x:=by rw[uJ a];exact h
end
structure Zu(P:Ju)(w:JV)(K:J1)(mg:Str->Option J3)(base:pq)(k:Nat)(g:pd)(sp:Nl)(Mc:MH->Prop):Prop where
 ex:∃Pg:pq->Prop,(∀(M:Model) h,Pg h->∃k,(k=Keeper.frame\/k=Keeper.machine\/k=Keeper.boundFrame)/\PySem.W.Looks M h (keeperOf (.ref g)) k)/\
  ∀(A:JP)(outer:List Env)(s:J5)(H:Hp)(M:MH),NL k A->OX P w K mg base A outer s H->NM K H M->Mc M->Pg s.heap/\
   ∀(us:List J3)(vs:r4)(Q:VK),Vals vs us->dN K sp vs H Q E0->Lh (Jn P w) A (.call (.ref g) #[us,[]]) (CR OT outer P w H s Q E0) s
abbrev jK(scope:L9)(L:pd)(cl:List (Str×pd))(qual:Str)(g:pd)(cd:J3):Env:=newEnv scope L K6 cl (qual++".<locals>.") (MA g) cd MB builtinsNs
def qi(P:Ju)(w:JV)(K:J1)(mg:Str->Option J3)(base:pq)(N:rq)(qual:Str)(scope:L9)(cl:List (Str×pd))(g:pd)(cd:J3)(A:JP)(outer:List Env)(s:J5)(H:Hp):Cx where
 prog:=P
 w:=w
 K:=K
 mg:=mg
 base:=base
 A:=A.deeper (jK scope s.z cl qual g cd)
 N:=N
 s₀:=s
 H₀:=H
 env:=jK scope s.z cl qual g cd
 outer:=outer
 stack:=jK scope s.z cl qual g cd::outer
 ex:=[]
 calm:=MC
 fn:=λ_=>MD
 pn:=[]
 xe:=λ_ _=>False
def cO(a:pd)(o:Obj):pq->Prop:=λh=>h.get? a=MA o
def pB(a:pd)(q:Str):pq->Prop:=λh=>h.CodeRec (.ref a) q
def Bj(q:Str):MO:=.gen λ_ H a=>H a=MA (.ext (pB a q))
def vZ(ps:Array J3):MO:=.gen λ_ H a=>H a=MA (.tbl ps)
theorem nU{h base a:pq}:∀{l:List Env},h.FunFrames base l->(∀b∈PL l,a.get? b=MB)->h.FunFrames a l
 |[],_,_=>trivial
 |env::r,z,n=>by
  obtain⟨d,⟨L,o,c,j,f,hd⟩,g⟩:=z
  let e:PL (env::r)=L::PL r:=by unfold PL;rw[KG,c]
  rw[e]at n
  exact #[d,#[L,o,c,n L KO,f,hd],nU g λb i=>n b (K0 _ i)]
structure Mk(K:J1)(mg:Str->Option J3)(c0 Pt:pd):Prop where
 hd:PySem.W.codeHdIn K c0 Pt=MC
 bm:∃bm o,mg "__builtins__"=MA (.ref bm)/\bm≠builtinsNs/\bm≠K6/\K.lookup bm=MA o/\o.cls=.type "module"/\o.dict=MA builtinsNs/\o.data=.plain
def Aw(pos:Pos)(a:pd):Array J3:=(List.toArray [Md pos.line,Md pos.col,.ref a])
def cX(q:Str)(Pt:pd)(pos:Pos)(M:MH):Prop:=M Pt=MA (vZ #[])\/∃a,M Pt=MA (vZ (Aw pos a))/\M a=MA (Bj q)/\a≠Pt
def kZ(Pt:pd)(M b:MH):Prop:=∀a o,a≠Pt->M a=MA o->b a=MA o
section
variable{X:Cx}{MP:p4}{σ:L2.St}{H:Hp}{s:J5}{c0 Pt:pd}
def yE(I:Inv X MP σ H s)(m:Mk X.K X.mg c0 Pt)(b:H Pt≠MB):s.heap.BuiltinsAt X.mg Pt:=by let[bm,o,h1,h2,c,a,d]:=m.bm;refine #[bm,o,h1,h2,c,λz=>?_,I.kIn _ _ a,d];subst z;exact b (I.bs _ _ (I.mod.kin _ _ a)).2
theorem HI(I:Inv X MP σ H s)(a:H Pt≠MB):K6≠Pt:=λz=>by let[o,b,c,e,_]:=I.mod.glob;rw[z]at e;exact a (I.bs _ _ e).2
theorem jG{P:Ju}{w:JV}{b:Hp}{h:pq}{a:pd}{o:Obj}(e:h.get? a=MA o):bL P w b h a (.ext (cO a o)):=#[e,#[o,e],λh1 h2 z k=>k o z]
def E6{P:Ju}{w:JV}{g:Hp}{h:pq}{a:pd}{q:Str}(e:h.CodeRec (.ref a) q):bL P w g h a (.ext (pB a q)):=by
 refine #[e,?_,λh1 h2 z k=>?_]
 .obtain⟨c,oc,vs,f,b,d,_⟩:=e;cases b;exact #[oc,d]
 .obtain⟨c,oc,vs,f,b,d,r⟩:=z;cases b;exact #[a,oc,vs,f,5,k oc d,r]
def A5{h':pq}{tk:Nat}{o:Obj}(a:o.isFreed=MD)(I:Inv X MP σ H s)(k:∀b u,s.heap.get? b=MA u->h'.get? b=MA u)(hsz:s.z<=h'.objs.size):H h'.objs.size=MB/\Inv X MP σ (upd H h'.objs.size (.ext (cO h'.objs.size o))) { s with heap:=h'.push o,toks:=tk }:=by let c:H h'.objs.size=MB:=I.hok.fresh hsz;exact #[c,I.laid (t':=tk) (h':=h'.push o) (λb u e=>J6 _ (k b u e)) hsz (jG (Jh _ a))]
def za{h':pq}{tk:Nat}{o:Obj}{q:Str}{a:pd}{ps more:Array J3}(m:o.isFreed=MD)(I:Inv X MP σ H s)(f:H Pt=MA (.tbl ps))(hx:Heap.ExtBut Pt s.heap h')(h1:s.z<=a)(h2:a<h'.objs.size)(A:h'.CodeRec (.ref a) q)
 (w:h'.get? Pt=MA (PySem.W.tabObj (ps++more))):H a=MB/\H h'.objs.size=MB/\Inv X MP σ (upd (upd (upd H Pt (.tbl (ps++more))) a (.ext (pB a q))) h'.objs.size (.ext (cO h'.objs.size o))) { s with heap:=h'.push o,toks:=tk }:=by
 let B:Pt<s.z:=(I.hok _ _ f).lt
 let j:H a=MB:=I.hok.fresh h1
 let k:H h'.objs.size=MB:=I.hok.fresh (JT h1 (LF h2))
 let n1:a≠Pt:=λz=>by rw[z,f]at j;cases j
 let n2:h'.objs.size≠Pt:=λz=>by rw[z,f]at k;cases k
 let n3:a≠h'.objs.size:=JF h2
 let h:∀{b:pd}{u:HO},H b=MA u->b≠Pt->upd (upd (upd H Pt (.tbl (ps++more))) a (.ext (pB a q))) h'.objs.size (.ext (cO h'.objs.size o)) b=MA u:=λ{b u} e n=>by
  rw[aE (λz=>by rw[z,k]at e;cases e),aE (λz=>by rw[z,j]at e;cases e),aE n];exact e
 let i:∀{b:pd},H b=MB->b<s.z->upd (upd (upd H Pt (.tbl (ps++more))) a (.ext (pB a q))) h'.objs.size (.ext (cO h'.objs.size o)) b=MB:=λ{b} e l=>by
  let y1:b≠h'.objs.size:=λz=>by rw[z]at l;exact absurd l (Nat.not_lt.mpr (JT h1 (LF h2)))
  let C:b≠a:=λz=>by rw[z]at l;exact absurd l (Nat.not_lt.mpr h1)
  let D:b≠Pt:=λz=>by rw[z,f]at e;cases e
  rw[aE y1,aE C,aE D];exact e
 refine #[j,k,I.un (t':=tk) #[λb u e n _ _=>?_,λb u e n _ _=>#[u.slots,?_],λb u e n _=>i n (Jm e),λb u e _=>?_,λb xs e=>h e (λz=>by rw[z,f]at e;cases e),λb u xs e=>h e (λz=>by rw[z,f]at e;cases e),λb qs e=>?_] λb u e=>?_]
 .exact J6 _ (hx b u (λz=>by rw[z,f]at n;cases n) e)
 .exact J6 _ (hx b u (λz=>by rw[z,f]at n;cases n) e)
 .by_cases z:b=Pt
  .subst z;exact #[_,J6 _ w]
  .exact #[u,J6 _ (hx b u z e)]
 .by_cases z:b=Pt
  .subst z
   rw[f]at e;cases e
   exact #[more,by rw[aE n2.symm,aE n1.symm,aF]]
  .exact #[#[],by rw[h e z];simp]
 .by_cases x:b=h'.objs.size
  .subst x
   rw[aF]at e;cases e
   exact jG (Jh _ m)
  .rw[aE x]at e
   by_cases y:b=a
   .subst y
    rw[aF]at e;cases e
    let[c,oc,vs,E,p,F,r]:=A
    cases p
    exact E6 #[b,oc,vs,E,5,J6 _ F,r]
   .rw[aE y]at e
    by_cases t:b=Pt
    .subst t
     rw[aF]at e;cases e
     exact J6 _ w
    .rw[aE t]at e
     refine(I.hok b u e).fJ (λd v hd g=>J6 _ (hx d v ?_ g)) (λd g=>h g (λz=>by rw[z,f]at g;cases g)) λd xs g=>h g (λz=>by rw[z,f]at g;cases g)
     rcases hd with hd|hd
     .rw[hd];exact t
     .intro z;rw[z,f]at hd;cases hd
end
theorem NM.rS{K:J1}{H:Hp}{M:MH}{a:pd}{o:HO}{A:J1->Hp->pd->Prop}(h:NM K H M)(g:ND K H (upd H a o))(z:A K (upd H a o) a)(st:∀c,ND K (upd H a o) c->c a=MA o->A K c a):NM K (upd H a o) (av M a (.gen A)):=λb u e=>by
 by_cases ne:b=a
 .subst ne;rw[ag]at e;cases e;exact #[z,by rw[aF];simp,λc d f=>st c d (by rw[f,aF])]
 .rw[ak ne]at e;exact(h b u e).fJ g (aE ne)
def Cq(Pt:pd)(H:Hp):Prop:=∀b,b≠Pt->H b=MB\/∃o xs,H b=MA (.frz o (.lst xs))
def vI{P:Ju}{w:JV}{K:J1}{mg N:Str->Option J3}{k:Nat}{fa a Pt c0:pd}{fd:FuncData}{x:Str}{sp:Sp}{c:J5}{vs:List J3}{ns:q_}
 (O:K.In c.heap) (Q:c.heap.Ns K6 mg) (f:c.heap.Ns builtinsNs N) (R:∀x:Str,x≠"__name__"->N x=Kq x) (D:c.heap.NoLimit) (hg:c.gens=#[])
 (y:c.heap.get? a=MA { cls:=.type "list",data:=.seq vs.toArray }) (hi:KN vs ns) (hl:ns.length<=Jo) (hr:NL k callerA) (E:c.heap.get? Pt=MA (PySem.W.tabObj #[])) (S:K.lookup Pt=MB) (hC:PySem.W.codeHdIn K c0 Pt=MC)
 (F:∀base:pq,Ni P w K mg base OT k fa fd [x] sp) (p:∀(s:J5)(u:J3),BindsTo s fd #[[u],[]] [(x,u)])
 (T:∀H:Hp,Cq Pt H->H Pt=MA (.tbl #[])->NX K H a (ns.map V.int)->sp [.ref a] H (λv _=>v=.bl MC) λ_ _ _=>False) :
 Lh (Jn P w) callerA (.call (.ref fa) #[[.ref a],[]]) (λr j=>r=.ok (.ret (.bool MC))/\OldK c.heap j.heap/\j.os=c.os/\AllBare j.gens) c:=by
 let rv:=ic hi
 let G:=hi.length
 let I:a≠Pt:=λz=>by
  rw[z,E]at y
  cases y
 let l:∀H:Hp,Cq Pt H->H Pt=MA (.tbl #[])->NX K H a (ns.map V.int)->OD P w H c.heap->(∀b,H b≠MB->b=a\/b=Pt)->(H a≠MB->K.lookup a=MB)->
  Lh (Jn P w) callerA (.call (.ref fa) #[[.ref a],[]]) (λr j=>r=.ok (.ret (.bool MC))/\OldK c.heap j.heap/\j.os=c.os/\AllBare j.gens) c:=by
  intro H hO hP hS hok hA hK
  let U:∀{b:pd}{o:Obj}{A:Array Kk}{B:Nat},c.heap.get? b=MA o->o.data=.dict A B->H b=MB:=λ{b o A B} e d=>by
   cases q:H b with
   |none=>rfl
   |some u=>
    rcases hA b (by rw[q];simp)with z|z
    .rw[z,y]at e;cases e
     let X:Data.seq vs.toArray _=Data.dict A B:=d
     cases X
    .rw[z,E]at e;cases e
     let X:Data.fields #[]=Data.dict A B:=d
     cases X
  let t:∀{b:pd}{m:Str->Option J3},c.heap.Ns b m->(jx c.heap H).Ns b m:=λ{b m} z=>by
   let[o,A,B,e,d,r]:=z
   exact #[o,A,B,gY e (U e d),d,r]
  let Y:K.In (jx c.heap H):=λb o e=>gY (O b o e) (by
   cases q:H b with
   |none=>rfl
   |some u=>
    rcases hA b (by rw[q];simp)with z|z
    .subst z
     rw[hK (by rw[q];simp)]at e;cases e
    .rw[z,S]at e;cases e)
  let[mc,l1,l2]:=D
  let hM:Mod K mg (jx c.heap H):=#[Y,t Q,#[N,t f,R],#[mc,t l1,l2]]
  let e0:OX P w K mg (jx c.heap H) callerA [] c H:=#[5,hM,λb o e=>oq e,Nat.le_of_eq (nA _ _),trivial,λb f=>absurd (show b∈([]:rp)from f) (_),hok,.of_eq hg]
  refine codeAny_mono ((F _).run callerA [] c H #[[.ref a],[]] [.ref a] [.ref a] _ _ hr e0 (p c (.ref a)) (.cons rfl .nil) (T H hO hP hS)) λr j h=>?_
  cases r with
  |error e=>exact Jy h
  |ok fl=>
   cases fl with
   |next=>exact Jy h
   |brk=>exact Jy h
   |cont=>exact Jy h
   |ret u=>
    let[v,H',os,bare,un,n,r',q]:=h
    let q':v=.bl MC:=q
    subst q'
    obtain rfl:u=Value.bool MC:=r'
    let[more,Z]:=un.tbls _ _ hP
    let J:j.heap.get? Pt=MA (PySem.W.tabObj (#[]++more)):=n _ _ Z
    let keep:∀b o,b≠Pt->c.heap.get? b=MA o->j.heap.get? b=MA o:=λb o i e=>by
     cases q:H b with
     |none=>exact un.keep b o e q (by intro z;exact absurd (show b∈([]:rp)from z) (_)) (_)
     |some u=>
      rcases hO b i with z|⟨ob,xs,z⟩
      .rw[q]at z;cases z
      .have z2:=un.frzs b ob _ z
       let[e1,_]:=hok b _ z
       let[e2,_]:=n b _ z2
       rw[e]at e1;cases e1
       exact e2
    let C:=PySem.W.codeHd_of_K O hC
    refine #[5,#[λb o e=>?_,λb o e=>?_],os,bare]
    .by_cases i:b=Pt
     .subst i
      rw[E]at e;cases e
      exact .inr (.inl #[(C.tab E).isCodeTable,5,#[],more,5,J])
     .exact .inl (keep b o i e)
    .by_cases i:b=Pt
     .subst i;exact #[_,J]
     .exact #[o,keep b o i e]
 let L:∀{H:Hp}{b:pd}{u:HO},b=Pt->H b=MA (.tbl #[])->H b=MA u->bL P w H c.heap b u:=λ{H b u} z e1 e2=>by
  rw[e1]at e2;cases e2
  rw[z];exact E
 cases hk:K.lookup a with
 |some o=>
  let e:=O a o hk
  rw[y]at e
  cases e
  refine l (λb=>if b=Pt then MA (.tbl #[])else MB) (λb i=>.inl (ME i)) (MF rfl) (.inr #[_,vs.toArray,_,hk,5,5,5,by rw[Jl,G];exact hl,‹rv›]) (λb u z=>?_) (λb z=>?_) λz=>absurd (ME I) z
  .by_cases f:b=Pt
   .exact L f (MF f) z
   .have M:=(ME f).symm.trans z
    cases M
  .by_cases f:b=Pt
   .exact .inr f
   .exact absurd (ME f) z
 |none=>
  refine l (λb=>if b=Pt then MA (.tbl #[])else if b=a then MA (.frz { cls:=.type "list",data:=.seq vs.toArray } (.lst (ns.map V.int)))else MB) (λb i=>?_) (MF rfl) (.inl (.inr #[{ cls:=.type "list",data:=.seq vs.toArray },by show(if a=Pt then _ else _)=_;rw[ME I,MF rfl]])) (λb u z=>?_) (λb z=>?_) λ_=>hk
  .by_cases f:b=a
   .exact .inr #[_,_,by show(if b=Pt then _ else _)=_;rw[ME i,MF f]]
   .exact .inl (by show(if b=Pt then _ else _)=_;rw[ME i,ME f])
  .by_cases f:b=Pt
   .exact L f (MF f) z
   .have z1:=(ME f).symm.trans z
    by_cases g:b=a
    .have M:=(MF g).symm.trans z1
     cases M
     subst g
     exact #[y,by rw[J4];exact hl,vs,_,rv,y]
    .have M:=(ME g).symm.trans z1
     cases M
  .by_cases f:b=Pt
   .exact .inr f
   .by_cases g:b=a
    .exact .inl g
    .exact absurd (by show(if b=Pt then _ else _)=_;rw[ME f,ME g]) z
def vO{l:PySem.W.OpenLaw}{k:Nat}{q:Ju}{i:rq}{O:(Str->Option J3)->pq->Prop}{t:JV->pq->Prop}{d:DefRec}{K:Jw->J1}{sp:Nl}{x:Str}{Pt c0:pd}
 (P:l.most=MA 63) (A:d.params.defaults=[]) (Q:NL k callerA)
 (R:∀(w:JV)(h:pq),t w h->(K w.params).In h) (S:∀(w:JV)(h:pq),t w h->h.get? Pt=MA (PySem.W.tabObj #[])) (B:∀w:JV,(K w.params).lookup Pt=MB) (hC:∀w:JV,PySem.W.codeHdIn (K w.params) c0 Pt=MC)
 (F:∀(w:JV)(mg:Str->Option J3)(fa:pd)(h:pq),(K w.params).In h->h.Ns K6 mg->mg d.name=MA (.ref fa)->
  ∃fd:FuncData,(∀(s:J5)(u:J3),BindsTo s fd #[[u],[]] [(x,u)])/\
   ∀base:pq,Ni l.prog w (K w.params) mg base OT k fa fd [x] (dN (K w.params) sp))
 (C:∀(ns:q_)(M:MH),ns.length<=63->M Pt=MA (vZ #[])->sp [.rol (ns.map D.int)] M (λd _=>d=.bl MC)) :
 PySem.W.WalkO q i O t l.row.toRowW d [] (λf vs=>PySem.call f vs):=by
 refine Att.qR P A λw s₀ J mg mb fa o pm cd U a vs ns G Y ho hd X E m j c Z=>?_
 let L:=R w _ Y
 let[fd,n,hF]:=F w mg fa _ L G.T.g E
 refine vI L G.T.g G.T.b G.T.builtins G.T.nolimit Z m j (JT c ⋯) Q (S w _ Y) (B w) (hC w) hF n λH hO p hS=>?_
 let hF:SV (K w.params) H a (ns.map V.int):=by
  rcases hS with(z|z)|z
  .exfalso
   by_cases N:a=Pt
   .rw[N,p]at z;cases z
   .rcases hO a N with y|⟨o,xs,y⟩
    .rw[z]at y;cases y
    .rw[z]at y;cases y
  .exact .inl z
  .exact .inr z
 refine #[[.rol (ns.map D.int)],λb=>if b=Pt then MA (vZ #[])else MB,_,.cons (by rw[Rep];exact #[a,7,hF,fE ns]) .nil,λb u e=>?_,C ns _ c (MF rfl),λd M' v H' g r a' e=>?_]
 .by_cases n:b=Pt
  .have I:=(MF n).symm.trans e
   cases I
   rw[n]
   exact #[p,by rw[p];simp,λH' _ e=>e.trans p]
  .have I:=(ME n).symm.trans e
   cases I
 .subst e
  rw[Rep]at r
  exact r
def v7(K:J1)(mg:Str->Option J3)(x:Str)(st:pe)(c0:pd):Prop:=
 ∃(f:pd) (oc:J3) (od:Option pd) (kV a b:J3) (an:Option pd) (ct:J3) (osl:Array (Option J3)),K.lookup f=MA #[oc,od,.func (Kc x x (aZ st) (aL st) (ao st) .none kV a b an (.ref c0) ct),osl]/\Lv K (.ref c0) x=MC/\Ky K (.ref f)=MC/\mg x=MA (.ref f)
section
variable{P:Ju}{w:JV}{K:J1}{mg:Str->Option J3}{base:pq}
theorem v7.mk{h:pq}{x:Str}{st:pe}{f c0:pd}{oc:J3}{od an:Option pd}{osl:Array (Option J3)}{kV b d ct:J3}(X:K.In h)(G:h.Ns K6 mg)(a:LG K K6 x=MA (MA (.ref f))) (l:K.lookup f=MA #[oc,od,.func (Kc x x (aZ st) (aL st) (ao st) .none kV b d an (.ref c0) ct),osl]) (c:Lv K (.ref c0) x=MC) (k:Ky K (.ref f)=MC):v7 K mg x st c0:=#[f,oc,od,kV,b,d,an,ct,osl,l,c,k,PySem.W.mg_of X G a]
def Ih{x:Str}{st:pe}{N ps:rq}{k:Nat}{sp:Nl}{c0:pd}(T:v7 K mg x st c0)(S:NB N ps (ao st))
 (u:∀(kV b i:J3)(an:Option pd)(cdv ct:J3)(us:List J3),us.length=ps.length->LR (Kc x x (aZ st) (aL st) (ao st) .none kV b i an cdv ct) #[us,[]]=pure (ps.zip us))
 (len:∀ds M Q,sp ds M Q->ds.length=ps.length)
 (body:∀(f:pd)(A:JP)(outer:List Env)(s:J5)(H:Hp)(E:XK),NL k (A.deeper (Mg x (ao st) s.z f (.ref c0)))->
  ∃t,DSs (gJ OT P w K mg base N x (ao st) f (.ref c0) A outer s H E).nox (aL st) t/\∀ds M Q,sp ds M Q->t (jA Q) (dw N ds) M):Cal P w K mg base (k+1) x sp:=by
 let[f,oc,od,kV,b,i,an,ct,osl,y,j,kp,B]:=T
 refine #[f,_,ps,Ci y j S (λvs H Q E z=>?_) (λA outer s H vs Q E C z=>?_),B,kp,.all λus D=>u kV b i an (.ref c0) ct us D]
 .obtain⟨ds,M,R,l,_,q,_⟩:=z
  rw[<-l.length];exact len _ _ _ q
 .obtain⟨ds,M,R,l,a,q,e⟩:=z
  let[t,h,F]:=body f A outer s H E C
  refine #[_,h.nox,dw N ds,M,kn l,a,(jA R),#[λG I J o g L m c=>?_,λd I v o g r m c=>?_,λ_ _ _ _ _ _ _ z=>z,λ_ _ _ _ _ _ _ z=>z],F ds M R q]
  .obtain⟨p,n,c⟩:=c
   exact e .non p .non o g (by rw[Rep]) (m.sub n) c
  .obtain⟨p,n,c⟩:=c
   exact e _ _ _ _ g r (m.sub n) c
theorem Gv{h:pq}{c0 Pt bm:pd}{o:Obj}(X:K.In h)(G:h.Ns K6 mg)(hd:PySem.W.codeHdIn K c0 Pt=MC)(a:LG K K6 "__builtins__"=MA (MA (.ref bm)))(l:K.lookup bm=MA o)(h1:bm≠builtinsNs)(h2:bm≠K6)(b:o.cls=.type "module")(c:o.dict=MA builtinsNs)(d:o.data=.plain):Mk K mg c0 Pt:=#[hd,bm,o,PySem.W.mg_of X G a,h1,h2,l,b,c,d]
end
def cX.new{q:Str}{Pt:pd}{pos:Pos}{M:MH}{p:pd}{o:MO}(h:cX q Pt pos M)(a:M p=MB):cX q Pt pos (av M p o):=by
 rcases h with h|⟨c,h1,h2,b⟩
 .exact .inl (by rw[ak (λz=>by rw[z,a]at h;cases h)];exact h)
 .exact .inr #[c,by rw[ak (λz=>by rw[z,a]at h1;cases h1)];exact h1,by rw[ak (λz=>by rw[z,a]at h2;cases h2)];exact h2,b]
def cX.kx{q:Str}{Pt:pd}{pos:Pos}{M b:MH}{xs:rp}(h:cX q Pt pos M)(k:∀a o,a∉xs->M a=MA o->b a=MA o)(hx:∀a∈xs,∀A,M a≠MA (.gen A)):cX q Pt pos b:=by
 rcases h with h|⟨c,h1,h2,d⟩
 .exact .inl (k _ _ (λz=>hx _ z _ h) h)
 .exact .inr #[c,k _ _ (λz=>hx _ z _ h1) h1,k _ _ (λz=>hx _ z _ h2) h2,d]
theorem cX.sub{q:Str}{Pt:pd}{pos:Pos}{M b:MH}(h:cX q Pt pos M)(k:Sub M b):cX q Pt pos b:=h.kx (xs:=[]) (λa o _ e=>k a o e) (λ_ z=>nomatch z)
theorem cX.upd{q:Str}{Pt:pd}{pos:Pos}{M:MH}{p:pd}{o:MO}{ds:sg}(h:cX q Pt pos M)(b:M p=MA (.lst ds)):cX q Pt pos (av M p o):=h.kx (xs:=[p]) (λa u n e=>by rw[ak ‹n›];exact e) (λa c A e=>by rw[show a=p by simpa using c,b]at e;cases e)
def SR(us:List (Int×Int))(i:Nat):Int:=1000*(p0 us i).1+(p0 us i).2
def Xl(us:List (Int×Int)):Prop:=us.length<64/\us.Nodup/\∀u∈us,-500<=u.2/\u.2<500
theorem Xl.inj{us:List (Int×Int)}(h:Xl us):Inj us.length (SR us):=λi j a b e=>by
 let b1:=h.2.2 _ (iO a);let d:=h.2.2 _ (iO b);unfold SR at e;let e1:p0 us i=p0 us j:=Prod.ext () ();unfold p0 at e1;rw[List.getD_eq_getElem?_getD,List.getD_eq_getElem?_getD,J7 a,J7 b]at e1;let c:=Kf.mp h.2.1;rcases LV i j with q|q|q
 .exact absurd e1 (c i j _ _ q)
 .exact q
 .exact absurd e1.symm (c j i _ _ q)
section
variable{prog:Ju}{w:JV}{A:JP}{E:J3->J5->Prop}{s:J5}
def yd{x y:pd}{a b c d:Int}{t1 f g i:Tok}{C:Bool->J5->Prop}(hx:IsTup s.heap x (List.toArray [.int a t1,.int b f]))(j:IsTup s.heap y (List.toArray [.int c g,.int d i]))(q:-500<=b/\b<500)(hd:-500<=d/\d<500) (h:C (decide (1000*a+b<1000*c+d)) s):Jj (Jn prog w) A (keyLt' (tuples' MC) (.ref x) (.ref y)) C E s:=by
 let[r,k,_,n,l]:=hx;let[t,o,_,m,p]:=j;refine PySem.W.kat_lt k l o p ?_;refine PySem.W.kat_cons (wpAny_eqBool_int ?_);by_cases e:a=c
 .subst e;rw[show(a==a)=MC by simp];refine PySem.W.kat_yes (PySem.W.kat_cons (wpAny_eqBool_int ?_));by_cases e2:b=d
  .subst e2;rw[show(b==b)=MC by simp];refine PySem.W.kat_yes (PySem.W.kat_nil ?_);rw[show decide (1000*a+b<1000*a+b)=MD by simp]at h;exact h
  .rw[show(b==d)=MD by simpa using e2];refine PySem.W.kat_no ?_;rw[show(MC&&(0+1==0))=MD by rfl];refine PySem.W.kat_one _ _ ?_;rw[show decide (1000*a+b<1000*a+d)=decide (b<d) by exact decide_eq_decide.mpr ()]at h;exact lt_int h
 .rw[show(a==c)=MD by simpa using e];refine PySem.W.kat_no ?_;show Jj _ _ (oneLt' MC _ _) _ _ _;rw[show decide (1000*a+b<1000*c+d)=decide (a<c) by exact decide_eq_decide.mpr ()]at h;exact oneLt_int h
end
def zA(u v:Int×Int):Prop:=1000*u.1+u.2<1000*v.1+v.2
def xC{us:List (Int×Int)}{a:Array Nat}(h:Ny us.length a)(u:Up (SR us) a us.length):(a.toList.map (p0 us)).Pairwise zA:=by
 rw[Kf];intro i j g d b;let c:j<us.length:=by rw[J4,Kw,h.size]at d;exact d
 have:=u i j b c;let e:i<a.size:=by rw[h.size];omega
 let f:j<a.size:=by rw[h.size];omega
 simpa[zA,ky,SR,Array.getD,e,f]using this
section
variable{X:Cx}
def qo:bS X (.builtin "sorted") (λvs H Q=>∃p xs us,vs=[.ref p]/\NX X.K H p xs/\SG X.K H xs us/\Xl us/\∀l d,H l=MB->Ny us.length d->Up (SR us) d us.length->Q (.ref l) (upd H l (.lst (d.toList.map λi=>xs.getD i .non)))):=by
 intro MP s σ H vs F Q I r G;let[l,xs,us,J,L,y,m,q]:=G;subst J;let[u,5,M]:=vals1 r;cases M;let[f,z,N,O]:=I.list L;let c:f.length=us.length:=by rw[<-z.length,y.len]
 let A:=xG I y z;refine vC (k:=SR us) (κ:=tuples' MC) N.isList (by rw[c];exact m.1) (by rw[c];exact m.inj) (λx kp h2 R Z P=>?_) (λx kp i j C D hj hC=>?_) λd g E=>?_
 .obtain⟨fs,S,k2,U⟩:=qL (h:=x) c λi D=>(A i D).kept kp;refine PySem.W.kat_kind (s:={ s with heap:=x }) (T:=.type "int") S () (λv hv=>?_) ⋯ P;let[n,t,5]:=U v hv;exact PySem.W.Looks.now
 .obtain⟨a,t1,t2,ea,V⟩:=(A i ()).kept kp;let[b,t3,t4,eb,B]:=(A j ()).kept kp;unfold PySem.W.kas_ask;rw[ea,eb];exact yd (s:={ s with heap:=x }) V B (m.2.2 _ (iO ())) (m.2.2 _ (iO ())) hC
 .rw[c]at g E;let[e,Y]:=sortedAll_at s.heap f (fP f d);refine #[.ref (s.z+1),_,I.laid (t':=s.toks) (λb o q=>sortedAll_old q) (Mn _) (show bL X.prog X.w _ _ _ (.lst _)from #[?_,_,e,nQ z d.toList,Y]),5,q _ d (I.hok.fresh (Mn _)) g E];rw[J4,Kw,g.size,<-y.len];exact O
def Bk:RC:=λb M Q=>match b with
 |[.ref l]=>∃us:List (Int×Int),M l=MA (.lst (us.map OE))/\Xl us/\∀(z:pd)(a:List (Int×Int)),M z=MB->a.Perm us->a.Pairwise zA->Q (.ref z) (av M z (.lst (a.map OE)))
 |_=>False
theorem vq:d5 X (.builtin "sorted") Bk:=cg qo λvs H Q ⟨c,M,R,k,a,q,f⟩=>by
 rcases c with _|⟨d,c⟩
 .exact Jy q
 cases d<;>rcases c with _|⟨e,c⟩<;>try exact Jy q
 .obtain⟨us,e,l,q⟩:=q;let[v,5,r]:=bP k;rw[Rep]at r;subst r;let[xs,hx,h]:=a _ _ e;refine #[_,xs,us,5,NX.of hx,zS h,l,λz j g b m=>f (.ref z) _ _ _ (.new g) (by rw[Rep]) (a.j4 g (nS h j.toList λi n=>?_)) ?_]
  .have:i∈j:=‹n›
   have:=b.perm.mem_iff.mp this;simpa using this
  .rw[yN b];exact q z _ (a.fresh g) (wq b) (xC b m)
end
def ou(o:Obj):MO:=.gen λ_ H a=>H a=MA (.ext (cO a o))
def RS(ns ws rs:q_):Prop:=∃ps:List (Int×Int),ps.Perm (ns.zip ws)/\rs=ps.map (·.2)/\ps.Pairwise λp q=>p.1<=q.1
theorem pU:∀{vs:List J3},(∀v∈vs,∃n t,v=.int n t)->KN vs (vs.map numOf)
 |[],_=>.nil
 |v::vs,h=>by
  let[n,t,5]:=h v (_)
  exact .cons n t (pU (vs:=vs) λy a=>h y (by simp[a]))
def DF{ns ws:q_}{its out:List J3}(b:KN its ws)(h:KskOut MD ns its out):∃rs,RS ns ws rs/\KN out rs/\rs.length=out.length:=by
 let[ps,h1,h2,c]:=h;let hv:∀v∈out,∃n t,v=.int n t:=λv m=>by rw[h2]at m;let[p,d,5]:=JO.mp m;let[x,y]:=p;exact b.all _ (List.of_mem_zip (h1.subset d)).2
 refine #[out.map numOf,#[ps.map λp=>(p.1,numOf p.2),?_,?_,?_],pU hv,by rw[J4]]
 .have e:(ns.zip its).map (λp:Int×J3=>(p.1,numOf p.2))=ns.zip ws:=by rw[<-b.nums,List.zip_map_right];exact Lj λa _=>by let[x,y]:=a;exact(rfl)
  rw[<-e];exact h1.map _
 .rw[h2,KA,KA];rfl
 .rw[LW];exact c
section
variable{X:Cx}{MP:p4}{σ:L2.St}{s:J5}
def KyI(X:Cx)(MP:p4)(σ:L2.St)(H0:Hp)(M2:MH)(a f:pd)(e1:Nat)(ns:q_)(i:Nat)(g:J5):Prop:=
 ∃c b d e,Inv X MP σ c g/\ND X.K H0 c/\NM X.K c b/\Sub M2 b/\b a=MA (ou (K7 "list" #[] e1))/\b f=MA (ou (K7 "list" d e))/\KN d.toList (ns.take i)
def Ag{H0:Hp}{M2:MH}{a c g:pd}{e1:Nat}{ns ws:q_}{its:List J3}{Q:PySem.Fin->J5->Prop}{E:J3->J5->Prop}{A:JP}(T:c≠a)(ha:M2 a=MB)(hk:M2 c=MB)(W:KN its ws)(hn:ns.length=ws.length)(a0:ns.length<64)
 (turn:∀(i:Nat)(w n:Int) N f l k,Inv X MP σ l k->NM X.K l f->Sub M2 f->ws[i]?=MA w->ns[i]?=MA n->RelV (.int w) N->
  Jj (Jn X.prog X.w) A (call (.ref g) [N]) (EP X MP σ (λv C=>∃D,ND X.K l C/\v=.int n/\NM X.K C D/\Sub f D)) (λ_ _=>False) k)
 (h0:KyI X MP σ H0 M2 a c e1 ns 0 s)
 (h:∀l f d e k,Inv X MP σ l k->ND X.K H0 l->NM X.K l f->Sub M2 f->f a=MA (ou (K7 "list" #[] e1))->f c=MA (ou (K7 "list" d e))->KN d.toList ns->
  Jj (Jn X.prog X.w) A (ksk_end a MD its.toArray e1 (.ref c) d) Q E k) :
 Jj (Jn X.prog X.w) A (ksk_rest a (.ref g) MD its.toArray e1 (.ref c)) Q E s:=by
 let hl:its.length=ns.length:=by rw[W.length,hn]
 unfold ksk_rest
 refine J0 (wpAny_rule ?_)
 first
  |rw[List.forIn_toArray]
  |(rw[<-Array.forIn_toList];simp only[List.toList_toArray])
  |rw[<-Array.forIn_toList]
 refine J0 (ksk_fold (λi k=>KyI X MP σ H0 M2 a c e1 ns i k) its 0 s h0 ?step ?done)
 case step=>
  rintro j N k hx ⟨l,f,d,e,I,g0,O,P,u,m,pk⟩
  simp only[Nat.zero_add]at pk ⊢
  let hj:j<its.length:=(J8.mp hx).1
  let F:j<ns.length:=()
  let G:j<ws.length:=()
  let[u',H,ru]:=(ic W).get (show(ws.map V.int)[j]?=MA (.int ws[j]) by rw[Jf,J7 G];rfl)
  rw[hx]at H;cases H
  refine J0 (wpAny_attempt (Jp (turn j ws[j] ns[j] N f l k I O P (J7 G) (J7 F) ru) (λr y z=>?_) λ_ _ hF=>hF.elim))
  let[v2,R,Y,rr,M3,g2,J,U,p]:=z
  try dsimp only
  let S:y.heap.get? c=MA (K7 "list" d e):=(Y.hok _ _ (U _ _ (p _ _ m)).1).1
  let b0:d.size<=ns.length:=by
   let h1:=pk.length
   rw[Kw,Lc]at h1
   omega
  obtain⟨B,L⟩:∃B,(y.heap.update c (Kg (·.push r))).get? c=MA (K7 "list" (d.push r) B):=#[_,get?_update_seq S (·.push r)]
  let s1:=Ko y.heap c (Kg (·.push r))
  refine J0 (listUpdate_at S rfl ?_ (by rw[Kv];omega) (JT (Nat.le_of_eq (Array.size_push ..)) (by rw[Kv];omega)))
  let M:R c=MA (.ext (cO c (K7 "list" d e))):=(U _ _ (p _ _ m)).1
  let Z:ND X.K R (upd R c (.ext (cO c (K7 "list" (d.push r) B)))):=.ext M
  let I3:Inv X MP σ (upd R c (.ext (cO c (K7 "list" (d.push r) B)))) { y with heap:=y.heap.update c (Kg (·.push r)) }:=Y.write (t':=y.toks) (x:=c) (e:=c) (by rw[M];exact LJ) (.inl rfl) (λb q hb z=>(s1.2 b hb).trans z) #[_,L] (jG L)
  subst J
  let[t,5]:=(show ∃t,r=Value.int ns[j] t from rr)
  refine J9 #[5,_,av M3 c (ou (K7 "list" (d.push (.int ns[j] t)) B)),d.push (.int ns[j] t),B,I3,(g0.trans g2).trans Z,U.rS Z aF (λH9 _ e9=>e9),λb o z=>by rw[ak (ax z hk)];exact p _ _ (P b o z),by rw[ak T.symm];exact p _ _ u,ag,?_]
  let et:ns.take (j+1)=ns.take j++[ns[j]]:=by
   rw[List.take_add_one,J7 F];rfl
  rw[et,Array.toList_push]
  exact ksk_snoc pk
 case done=>
  rintro k ⟨l,f,d,e,I,g0,O,P,u,m,pk⟩
  let e3:ns.take (0+its.length)=ns:=KR ()
  rw[e3]at pk
  let S:k.heap.get? c=MA (K7 "list" d e):=(I.hok _ _ (O _ _ m).1).1
  try dsimp only
  exact J0 (listItems_at S rfl (h l f d e k I g0 O P u m pk))
def vm{k:Hp}{v:MH}{a c:pd}{e1 e:Nat}{f:Array J3}{ns ws:q_}{its:List J3}{Q:PySem.Fin->J5->Prop}{E:J3->J5->Prop}{A:JP}(B:c≠a)(I:Inv X MP σ k s)(C:NM X.K k v)(D:v a=MA (ou (K7 "list" #[] e1)))(F:v c=MA (ou (K7 "list" f e)))
 (N:KN f.toList ns) (rv:KN its ws) (hn:ns.length=its.length) (a0:ns.length<64)
 (h:∀rs O M2 P,Inv X MP σ O P->ND X.K k O->(∀b,b≠a->b≠c->M2 b=v b)->M2 a=MB->M2 c=MB->NM X.K O M2->O a=MA (.lst (rs.map V.int))->RS ns ws rs->Q (.done (.ret .none)) P) :
 Jj (Jn X.prog X.w) A (ksk_end a MD its.toArray e1 (.ref c) f) Q E s:=by
 let ok:s.heap.get? c=MA (K7 "list" f e):=(I.hok _ _ (C _ _ F).1).1
 let oa:s.heap.get? a=MA (K7 "list" #[] e1):=(I.hok _ _ (C _ _ D).1).1
 let G:k c=MA (.ext (cO c (K7 "list" f e))):=(C _ _ F).1
 let R:k a=MA (.ext (cO a (K7 "list" #[] e1))):=(C _ _ D).1
 let r:f.size=its.length:=by
  let h1:=N.length
  rw[Kw]at h1
  omega
 let l:(f.zip its.toArray).size=its.length:=by rw[Array.size_zip,r,Jl,Nat.min_self]
 let n:∀st:SortSt,(arrOf st).Perm (f.zip its.toArray)->SortedTo (arrOf st) (arrOf st).size->failedOf st=MB->Jj (Jn X.prog X.w) A (ksk_tail a MD e1 (.ref c) st) Q E s:=λst H S T=>by
  let[rs,bk,J,il]:=DF rv (ksk_out (b:=MD) N H S)
  let J:KN ((arrOf st).map (·.2)).toList rs:=J
  let U:((arrOf st).map (·.2)).size=its.length:=by rw[Array.size_map,H.size_eq,l]
  generalize eo:(arrOf st).map (·.2)=d at J U
  let s1:=Ko s.heap c (Kg λ_=>(#[]:Array J3))
  let t:(s.heap.update c (Kg λ_=>(#[]:Array J3))).get? a=MA (K7 "list" #[] e1):=(s1.2 a B.symm).trans oa
  let P:=Ko (s.heap.update c (Kg λ_=>(#[]:Array J3))) a (Kg λ_=>d)
  obtain⟨W,L⟩:∃W,((s.heap.update c (Kg λ_=>(#[]:Array J3))).update a (Kg λ_=>d)).get? a=MA (K7 "list" d W):=#[_,get?_update_seq t λ_=>d]
  obtain⟨u,M⟩:∃u,(s.heap.update c (Kg λ_=>(#[]:Array J3))).get? c=MA (K7 "list" #[] u):=#[_,get?_update_seq ok λ_=>#[]]
  unfold ksk_tail
  try dsimp only
  simp only[Ka,if_false]
  rw[eo]
  refine J0 (listUpdate_at ok rfl ?_ (by rw[r,Kv];omega) (K3 _))
  refine J0 (wpAny_letGo ?_)
  refine J0 (seqEpoch_at t rfl ?_)
  refine J0 (listUpdate_at t rfl ?_ (K3 _) (by show d.size<=_;rw[U,Kv];omega))
  rw[T]
  simp only[bne_self_eq_false,Ka,if_false]
  let I1:=I.write (t':=s.toks) (o:=.ext (cO c (K7 "list" #[] u))) (x:=c) (e:=c) (h':=s.heap.update c (Kg λ_=>(#[]:Array J3))) (by rw[G];exact LJ) (.inl rfl) (λb q Y z=>(s1.2 b Y).trans z) #[_,M] (jG M)
  let p:(upd k c (.ext (cO c (K7 "list" #[] u)))) a=MA (.ext (cO a (K7 "list" #[] e1))):=by rw[aE B.symm];exact R
  let ll:rs.length=its.length:=by rw[<-J.length,Kw,U]
  let I2:=I1.write (t':=s.toks) (o:=.lst (rs.map V.int)) (x:=a) (e:=a) (h':=(s.heap.update c (Kg λ_=>(#[]:Array J3))).update a (Kg λ_=>d)) (by rw[p];exact LJ) (.inl rfl) (λb q Y z=>(P.2 b Y).trans z) #[_,L]
   (show bL X.prog X.w _ _ _ (.lst _)from #[by rw[J4,ll,Kv];omega,d.toList,W,ic J,by rw[Array.toArray_toList];exact L])
  let g1:ND X.K k (upd k c (.ext (cO c (K7 "list" #[] u)))):=.ext G
  let g2:ND X.K (upd k c (.ext (cO c (K7 "list" #[] u)))) (upd (upd k c (.ext (cO c (K7 "list" #[] u)))) a (.lst (rs.map V.int))):=.ext p
  refine J9 (h rs _ (λb=>if b=a\/b=c then MB else v b) _ I2 (g1.trans g2) (λb n1 n2=>ME (by simp[n1,n2])) (MF (.inl rfl)) (MF (.inr rfl)) (λb o z=>?_) aF bk)
  let z:(if b=a\/b=c then MB else v b)=MA o:=z
  by_cases m:b=a\/b=c
  .rw[MF m]at z;cases z
  .rw[ME m]at z
   let n1:b≠a:=λy=>m (.inl y)
   let n2:b≠c:=λy=>m (.inr y)
   exact(C b o z).fJ (g1.trans g2) (by rw[aE n1,aE n2])
 unfold ksk_end
 try dsimp only
 simp only[Ka,if_false]
 by_cases h2:its.toArray.size<2
 .rw[MF h2,MF h2]
  rw[Jl]at h2
  refine J0 (J9 ?_)
  rw[StateT.run_pure]
  refine J0 (J9 ?_)
  try dsimp only
  refine n _ (Array.Perm.refl _) (λi j b0 hj=>?_) rfl
  let Z:j<(f.zip its.toArray).size:=hj
  rw[l]at Z
  have:i=j:=()
  subst this
  exact Int.le_refl _
 .rw[ME h2,ME h2]
  rw[Jl]at h2
  rw[ksk_kind N (by rw[r];omega)]
  refine J0 (J9 ?_)
  refine J0 (Jp (wpS_sortRuns (a₀:=f.zip its.toArray) (st:=SortSt.mk' oneType' (f.zip its.toArray) #[] 7 MB)
   (Q:=λ_ g=>(arrOf g).Perm (f.zip its.toArray)/\failedOf g=MB/\SortedTo (arrOf g) (f.zip its.toArray).size)
   (ksk_intKeys N) #[Array.Perm.refl _,5,5,rfl] (by rw[l];omega) (by rw[l];omega) λg a1 a2 a3=>#[a1,a2,a3]) ?_ λ_ _ e=>e)
  rintro⟨⟨⟩,g⟩ s' ⟨rfl,H,T,S⟩
  try dsimp only
  exact n g H (by rw[H.size_eq];exact S) T
end
section
variable{X:Cx}{MP:p4}{σ:L2.St}{s:J5}{H:Hp}
def Ff{Q:J3->J5->Prop}{E:J3->J5->Prop}{l g:pd}{M2:MH}{ns ws:q_}(I:Inv X MP σ H s)(J:NM X.K H M2)(hl:M2 l=MA (.lst (ws.map D.int)))(hn:ns.length=ws.length)(t:ns.length<64)
 (turn:∀(i:Nat)(w n:Int) u1 h j r,Inv X MP σ j r->NM X.K j h->Sub M2 h->ws[i]?=MA w->ns[i]?=MA n->RelV (.int w) u1->
  Jj (Jn X.prog X.w) X.A.in1.in1 (call (.ref g) [u1]) (EP X MP σ (λv x=>∃y,ND X.K j x/\v=.int n/\NM X.K x y/\Sub h y)) (λ_ _=>False) r)
 (done:∀p rs j h r,Inv X MP σ j r->ND X.K H j->NM X.K j h->Sub M2 h->M2 p=MB->h p=MA (.lst (rs.map D.int))->RS ns ws rs->Q (.ref p) r) :
 Jj (Jn X.prog X.w) X.A (call (.builtin "sorted") [.ref l] [(Ks "key",.ref g)]) Q E s:=by
 let[xs,hx,rs]:=J _ _ hl
 rw[dQ rs]at hx
 let[c,M,p1,hz]:=I.list (NX.of hx)
 let N:=intsAre_of M
 let O:c.length=ns.length:=by rw[N.length,hn]
 refine call_function_entry_kw kind_sorted plain_sorted entry_sorted (ksk_s1 _ _) ?_
 unfold LM.«sorted»
 refine J0 (m:=checkCount "sorted" 1 1 _) (J9 ?_)
 refine J0 (collect_list p1.isList ?_ (by rw[Kv];omega))
 refine J0 (wpAny_newList ?_ (by rw[Kv];omega))
 generalize e1:((s.heap.push (K7 "list" #[] 0)).update s.z (Kg (·++c.toArray)))=h1
 let P:h1.objs.size=s.z+1:=by rw[<-e1,Heap.size_update,size_push']
 let o1:∀b o,s.heap.get? b=MA o->h1.get? b=MA o:=λb o q=>by
  rw[<-e1,Heap.get?_update_ne _ _ _ _ (JF (Jm q)),Heap.get?_push_ne _ _ _ (JF (Jm q))]
  exact q
 show Jj _ _ _ _ _ { s with heap:=h1.push (K7 "list" c.toArray 0) }
 rw[P]
 let d:(h1.push (K7 "list" c.toArray 0)).get? (s.z+1)=MA (K7 "list" c.toArray 0):=by rw[<-P];exact Jh _ rfl
 refine J0 (Kn (wpAny_call_entry_kw slot_list_sort #[_,d,rfl] entry_list_sort ?body (ksk_l1 _ _)))
 show Jj (Jn X.prog X.w) X.A.in1.in1 (LM.«list.sort» #[[.ref (s.z+1)],[(Ks "key",.ref g)]]) _ _ _
 rw[ksk_t1]
 obtain⟨f,B⟩:∃f,((h1.push (K7 "list" c.toArray 0)).update (s.z+1) (Kg λ_=>#[])).get? (s.z+1)=MA (K7 "list" #[] f):=#[_,get?_update_seq d λ_=>#[]]
 unfold ksk_tree
 refine J0 (listItems_at d rfl ?_)
 refine J0 (listUpdate_at d rfl ?_ (by rw[Jl,Kv];omega) (K3 _))
 refine J0 (seqEpoch_at B rfl ?_)
 refine J0 (wpAny_newTuple ?_ (by show c.length<=_;rw[Kv];omega))
 refine J0 (wpAny_newList (Kn ?_) (K3 _))
 generalize e2:(((h1.push (K7 "list" c.toArray 0)).update (s.z+1) (Kg λ_=>#[])).push (K7 "tuple" c.toArray 0))=h2
 let R:h2.get? (s.z+1)=MA (K7 "list" #[] f):=by rw[<-e2];exact J6 _ B
 let z2:h2.objs.size=s.z+3:=by rw[<-e2,size_push',Heap.size_update,size_push',P]
 let o2:∀b o,s.heap.get? b=MA o->h2.get? b=MA o:=λb o q=>by
  rw[<-e2]
  refine J6 _ ?_
  rw[Heap.get?_update_ne _ _ _ _ (JF (KJ (Jm q)))]
  exact J6 _ (o1 b o q)
 let I2:Inv X MP σ (upd H (s.z+1) (.ext (cO (s.z+1) (K7 "list" #[] f)))) { s with heap:=h2 }:=I.laid (t':=s.toks) (h':=h2) o2 (Mn _) (jG R)
 let I3:=I2.laid (t':=s.toks) (a:=h2.objs.size) (o:=.ext (cO h2.objs.size (K7 "list" #[] 0))) (h':=h2.push (K7 "list" #[] 0)) (λb u q=>J6 _ q) (Je _) (jG (Jh _ rfl))
 let fa:H (s.z+1)=MB:=I.hok.fresh (Mn _)
 let g2:=ND.new (K:=X.K) (o:=.ext (cO (s.z+1) (K7 "list" #[] f))) fa
 let S:(upd H (s.z+1) (.ext (cO (s.z+1) (K7 "list" #[] f)))) h2.objs.size=MB:=I2.hok.fresh (Je _)
 let g3:=ND.new (K:=X.K) (o:=.ext (cO h2.objs.size (K7 "list" #[] 0))) S
 let ne:h2.objs.size≠s.z+1:=by rw[z2];exact λe=>absurd (id e:@Eq Nat _ _) ()
 let T:H h2.objs.size=MB:=by rw[aE ne]at S;exact S
 let a2:=(J.rS (A:=λ_ H a=>H a=MA (.ext (cO a (K7 "list" #[] f)))) g2 aF (λH9 _ U=>U)).rS (A:=λ_ H a=>H a=MA (.ext (cO a (K7 "list" #[] 0)))) g3 aF (λH9 _ U=>U)
 let L:=J.fresh fa
 let mk:=J.fresh T
 let V:Sub M2 (av (av M2 (s.z+1) (ou (K7 "list" #[] f))) h2.objs.size (ou (K7 "list" #[] 0))):=λb o z=>by
  rw[ak (ax z mk),ak (ax z L)];exact z
 show Jj (Jn X.prog X.w) X.A.in1.in1 (ksk_rest (s.z+1) (.ref g) MD c.toArray f (.ref h2.objs.size)) _ _ { s with heap:=h2.push (K7 "list" #[] 0) }
 refine Ag (X:=X) (H0:=H) (M2:=M2) ne L mk N hn t turn #[_,_,#[],0,I3,g2.trans g3,a2,V,by rw[ak ne.symm,ag];rfl,by rw[ag];rfl,by rw[List.take_zero];exact .nil] λj h kA e r I' g' W Y Z a0 pk=>?_
 refine vm ne I' W Z a0 pk N O.symm t λk H4 M4 s4 I4 g4 C n1 n2 b0 c0 bk=>#[7,J9 #[7,?_]]
 refine done _ k H4 (av M4 (s.z+1) (.lst (k.map D.int))) s4 I4 (g'.trans g4) (λb o z=>?_) (λb o z=>?_) L ag bk
 .by_cases F:b=s.z+1
  .subst F
   rw[ag]at z;cases z
   exact #[_,c0,fE k]
  .rw[ak F]at z;exact b0 b o z
 .have G:=ax z L
  let d0:=ax z mk
  rw[ak G,C b G d0];exact Y b o z
end
end SD
namespace SE
open SD PySem PySem.Spec PyProof.Rows L2
end SE
namespace SD
open PySem PySem.Spec PyProof.Rows L2
def pE(t b X g h u:Int):MY t b X 1 (g*u-h)=MY (g*t) b (X-h*t) 1 u:=by unfold MY;rw[show(g*u-h)*t+X*1=u*(g*t)+(X-h*t)*1 by grind]
def Cd(t b X Y g h:Int)(w:Wl):NF t b X Y (raw g h w)=NF (g*t) b (X-h*t) (Y-h*t) w:=by unfold NF raw;dsimp only;rw[pE,pE,pE,pE]
def yw(t b X Y g h:Int)(ws:r8):(ws.map (raw g h)).map (NF t b X Y)=ws.map (NF (g*t) b (X-h*t) (Y-h*t)):=by rw[KA];exact Lj λw _=>Cd t b X Y g h w
def Bx{t b X Y g h:Int}(S:Np t b X Y)(G:Gs g h)(a:t<=10^20)(d:b<=10^25)(hx:-(10^27)<=X/\X<=10^27)(e:-(10^27)<=Y/\Y<=10^27):Np (g*t) b (X-h*t) (Y-h*t):=by let t0:=S.t0;let b0:=S.b0;let g0:=G.g0;let g1:=G.g1;let h0:=G.h0;let h1:=G.h1;let c:0<g*t:=JC g0 t0;let f:g*t<=12*10^20:=Int.mul_le_mul g1 a () ⋯;let i:0<=h*t:=LK h0 ();let j:h*t<=24*10^20:=Int.mul_le_mul h1 a () ⋯;exact #[c,(),b0,(),(),(),(),()]
def Zx(u:D)(cs:sg)(g m:D):List (Str×D):=[("plot",u),("corners",.tup cs),("guide",g),("most_looks",m)]
structure SK(t b X Y:Int)(ps:List Vc)(i:Nat)(kvs:Nv):Prop where
 len:kvs.length<=i
 vs:∀j v,j<i->ps[j]?=MA v->dE kvs (gk t b X Y v)=MA (.int (j:Int))
theorem SK.nil(t b X Y:Int)(ps:List Vc):SK t b X Y ps 0 []:=#[Je _,λj v h=>absurd h (Nat.not_lt_zero _)]
def SK.put{t b X Y:Int}{ps:List Vc}{i:Nat}{kvs:Nv}{v:Vc}(c:0<t)(d:0<b)(h:SK t b X Y ps i kvs)(nd:ps.Nodup)(e:ps[i]?=MA v):SK t b X Y ps (i+1) (putD kvs (gk t b X Y v) (.int (i:Int))):=by
 refine #[?_,λj u f a=>?_]
 .have:=h.len;unfold putD;split<;>simp<;>omega
 .rw[qe];by_cases z:j=i
  .subst z;rw[e]at a;cases a;rw[MF rfl]
  .rw[ME,h.vs j u () a];intro q;have:=rE c d q;subst this;let[l1,e1]:=J8.mp a;let[l2,e2]:=J8.mp e;exact z ((List.getElem_inj nd).mp (e1.trans e2.symm))
def NV(ps:List Vc)(c:Vc):Nat:=ps.idxOf c
def iW{ps:List Vc}{c:Vc}(h:c∈ps):ps[NV ps c]?=MA c/\NV ps c<ps.length:=by let l:=List.idxOf_lt_length_iff.mpr h;exact #[by unfold NV;rw[J7 l,List.getElem_idxOf],l]
def RU(ps:List Vc)(w:Wl):D:=.tup [.int (NV ps (ea w):Int),.int (NV ps (eb w):Int)]
def RS.perm{ns ws rs:q_}(h:RS ns ws rs)(e:ns.length=ws.length):rs.Perm ws:=by let[ps,h1,5,_]:=h;have:=h1.map (·.2);rw[List.map_snd_zip ()]at this;exact this
def OW(M:MH)(b:rp)(rs:List (q_)):Prop:=b.length=rs.length/\∀(i:Nat) a r,b[i]?=MA a->rs[i]?=MA r->M a=MA (.lst (r.map D.int))
theorem OW.nil{M:MH}:OW M [] []:=#[5,λi a r h=>by simp at h]
theorem OW.to{M c:MH}{b:rp}{rs:List (q_)}(h:OW M b rs)(k:∀a l,a∈b->M a=MA (.lst l)->c a=MA (.lst l)):OW c b rs:=#[h.1,λi a r d e=>k a _ (Jg d) (h.2 i a r d e)]
def OW.more{M:MH}{d:rp}{rs:List (q_)}{q:pd}{r:q_}(h:OW M d rs)(f:M q=MA (.lst (r.map D.int))):OW M (d++[q]) (rs++[r]):=by
 refine #[by rw[Ke,Ke,h.1];rfl,λi a g b c=>?_];rcases Nat.lt_or_ge i d.length with l|l
 .rw[JW l]at b;rw[JW (by rw[<-h.1];exact l)]at c;exact h.2 i a g b c
 .rw[JR l]at b;rw[JR (by rw[<-h.1];exact l),<-h.1]at c;cases e:i-d.length with
  |zero=>rw[e]at b c;cases b;cases c;exact f
  |succ m=>rw[e]at b;cases b
theorem cX.neL{q:Str}{Pt:pd}{pos:Pos}{M:MH}(h:cX q Pt pos M){l:pd}{ds:sg}(a:M l=MA (.lst ds)):l≠Pt:=λe=>by subst e;rcases h with h|⟨_,h,_⟩<;>rw[h]at a<;>cases a
theorem cX.neN{q:Str}{Pt:pd}{pos:Pos}{M:MH}(h:cX q Pt pos M){p:pd}(a:M p=MB):p≠Pt:=λe=>by subst e;rcases h with h|⟨_,h,_⟩<;>rw[h]at a<;>cases a
def Ez(fs:q_)(p:Int->Bool):(Jq (fs.map D.int).length).filterMap (λj=>(fs[j]?).bind λa=>if p a=MC then MA (D.int a)else MB)=(fs.filter p).map D.int:=by rw[J4,qZ,hZ]
def pf(K:J1){C:pd}{fs:List (Str×D)}{ps:Array J3}(h:dh C fs=vZ ps):False:=by injection h with h;have:=(congrFun (congrFun (congrFun h K) (λ_=>MA (.tbl ps))) 0).mpr rfl;let[a,vs,e,_]:=this;cases e
def Au(K:J1){C:pd}{fs:List (Str×D)}{q:Str}(h:dh C fs=Bj q):False:=by injection h with h;have:=(congrFun (congrFun (congrFun h K) (λ_=>MA (.ext (pB 0 q)))) 0).mpr rfl;let[a,vs,e,_]:=this;cases e
def cX.ins(K:J1){q:Str}{Pt:pd}{pos:Pos}{M f:MH}{a C:pd}{fs:List (Str×D)}(h:cX q Pt pos M)(g:M a=MA (dh C fs))(s:kZ a M f):cX q Pt pos f:=by
 let t:∀{b:pd}{o:MO},M b=MA o->(dh C fs=o->False)->b≠a:=λd n e=>by subst e;rw[g]at d;injection d with d;exact n d
 rcases h with h|⟨c,h1,h2,i⟩
 .exact .inl (s _ _ (t h (pf K)) h)
 .exact .inr #[c,s _ _ (t h1 (pf K)) h1,s _ _ (t h2 (Au K)) h2,i]
theorem cX.neI(K:J1){q:Str}{Pt:pd}{pos:Pos}{M:MH}{a C:pd}{fs:List (Str×D)}(h:cX q Pt pos M)(b:M a=MA (dh C fs)):a≠Pt:=λe=>by subst e;rcases h with h|⟨c,h,_⟩<;>rw[b]at h<;>injection h with h<;>exact pf K h
theorem EJ{M:MH}{a b C:pd}{fs:List (Str×D)}{ds:sg}(d:M a=MA (dh C fs))(c:M b=MA (.lst ds)):b≠a:=λe=>by subst e;rw[d]at c;cases c
theorem cX.pot{q:Str}{Pt r:pd}{pos:Pos}{M b:MH}{n:Nat}(h:cX q Pt pos M)(P:N0 M r n)(k:Kx [r] M b):cX q Pt pos b:=
 h.kx (xs:=[r]) k λa c A e=>by
  let[_,_,_,d,_]:=P
  rw[show a=r by simpa using c,d]at e;cases e
theorem m8:∀ns:q_,Kt (ns.map KH) (ns.map KH)=MC
 |[]=>by simp[Kt]
 |n::ns=>by
  rw[Ji,Kt,m8 ns,Bool.and_true]
  simp[JS]
def vV(ns:q_):JS (.list (ns.map KH)) (.list (ns.map KH))=MC:=by rw[JS];exact m8 ns
def Nb(w:Wl)(x:Int):Int:=if w.1=w.2.2.1 then w.2.1 else w.2.1*(w.2.2.1-w.1)+(w.2.2.2-w.2.1)*(x-w.1)
def N9(w:Wl):Int:=if w.1=w.2.2.1 then 1 else w.2.2.1-w.1
def R0(u v:Wl):Bool:=decide ((v.2.2.2-v.2.1)*(u.2.2.1-u.1)<(u.2.2.2-u.2.1)*(v.2.2.1-v.1))
def Pk(u v:Wl)(x:Int):Bool:=if Nb u x*N9 v=Nb v x*N9 u then R0 u v==decide (u.1=x)else decide (Nb v x*N9 u<Nb u x*N9 v)
def uP{w:Wl}(W:NK w):0<N9 w:=by
 unfold N9;split
 .decide
 .rename_i h;have:=W.lt;have:=W.b;have:=W.d;unfold l1 l2 la at *;omega
def lC(w:Wl):Nb w w.1=w.2.1*N9 w:=by
 unfold Nb N9;split
 .omega
 .rw[Int.sub_self,Int.mul_zero,Int.add_zero]
def p6{U V:Wl}(f:NK U)(a:NK V)(F:aV V (l1 U) (NO V U))(h1:l1 V<l1 U)(h2:l1 U<l2 V):U.2.1*N9 V-Nb V U.1=NO V U/\NO V U≠0:=by
 let nz:=F.nz h1 h2;refine #[?_,nz]
 let c:V.1≠V.2.2.1:=λe=>by
  let b1:=f.b
  let g:=a.b
  let h:=a.d
  let ex:U.1=V.1:=by unfold l1 l2 la at *;omega
  refine nz ?_
  unfold NO sd OA
  rw[ex,<-e]
  simp
 unfold N9 Nb NO sd OA;rw[ME c,ME c];grind
def Fg{U V:Wl}(c:NK U)(d:NK V)(F:N1 U V)(a:max (l1 U) (l1 V)<min (l2 U) (l2 V)):Pk U V (if l1 V<=l1 U then U.1 else V.1)=NQ U V:=by
 let[l,i,j,m]:=gX.mp a;let g:=uP c;let h:=uP d;rcases JB (l1 V) (l1 U)with y|y|y
 .obtain⟨e,nz⟩:=p6 c d F.e3 y i;rw[MF (JU y),nM a y];let k:Nb U U.1*N9 V-Nb V U.1*N9 U=N9 U*NO V U:=by rw[lC,<-e];grind
  unfold Pk;by_cases z:0<NO V U
  .have:=JC g z;rw[ME (),MI z,MI ()]
  .have:=JA g (():NO V U<0);rw[ME (),MG z,MG ()]
 .obtain⟨ex,f⟩:=l7 d.b c.b y;rw[MF (Lr y)];let k:Nb U U.1*N9 V=Nb V U.1*N9 U:=by rw[lC,<-ex,lC,f];grind
  unfold Pk;rw[MF k,MI rfl];let e1:∀b:Bool,(b==MC)=b:=λb=>by cases b<;>rfl
  rw[e1];by_cases z:l2 U<l2 V
  .rw[tV a y.symm z];unfold R0 NS sd OA;rw[MK,ex,f];have:=Int.mul_comm (V.2.2.1-U.1) (U.2.2.2-U.2.1);omega
  .rw[qO a y.symm z];unfold R0 NS sd OA;rw[MK,<-ex,<-f];have:=Int.mul_comm (U.2.2.1-V.1) (V.2.2.2-V.2.1);omega
 .obtain⟨e,nz⟩:=p6 d c F.e1 y j;rw[ME (),m9 a y];let k:Nb U V.1*N9 V-Nb V V.1*N9 U=-(N9 V*NO U V):=by rw[lC V,<-e];grind
  unfold Pk;by_cases z:NO U V<0
  .have:=JA h z;rw[ME (),MI z,MI ()]
  .have:=JC h (():0<NO U V);rw[ME (),MG z,MG ()]
def C9{g h:Int}(c:0<g)(u v:Wl)(x:Int):∃k,0<k/\Nb (raw g h u) (g*x-h)*N9 (raw g h v)-Nb (raw g h v) (g*x-h)*N9 (raw g h u)=k*(Nb u x*N9 v-Nb v x*N9 u):=by
 let f:=JC c c;unfold Nb N9 raw;dsimp only;by_cases a:u.1=u.2.2.1<;>by_cases b:v.1=v.2.2.1
 .rw[MF (by rw[a]),MF (by rw[b]),MF (by rw[b]),MF (by rw[a]),MF a,MF b,MF b,MF a];exact #[g,c,by grind]
 .have d:¬g*v.1-h=g*v.2.2.1-h:=λz=>b ((kQ c).mp z);rw[MF (by rw[a]),ME d,ME d,MF (by rw[a]),MF a,ME b,ME b,MF a];exact #[g*g,f,by grind]
 .have e:¬g*u.1-h=g*u.2.2.1-h:=λz=>a ((kQ c).mp z);rw[ME e,MF (by rw[b]),MF (by rw[b]),ME e,ME a,MF b,MF b,ME a];exact #[g*g,f,by grind]
 .have e:¬g*u.1-h=g*u.2.2.1-h:=λz=>a ((kQ c).mp z);let d:¬g*v.1-h=g*v.2.2.1-h:=λz=>b ((kQ c).mp z);rw[ME e,ME d,ME d,ME e,ME a,ME b,ME b,ME a];exact #[g*g*g,JC f c,by grind]
def DO{g h:Int}(a:0<g)(u v:Wl):R0 (raw g h u) (raw g h v)=R0 u v:=by
 let b:=JC a a;unfold R0 raw;dsimp only;rw[MK];let e1:(g*v.2.2.2-h-(g*v.2.1-h))*(g*u.2.2.1-h-(g*u.1-h))=g*g*((v.2.2.2-v.2.1)*(u.2.2.1-u.1)):=by grind
 let e2:(g*u.2.2.2-h-(g*u.2.1-h))*(g*v.2.2.1-h-(g*v.1-h))=g*g*((u.2.2.2-u.2.1)*(v.2.2.1-v.1)):=by grind
 rw[e1,e2];exact #[λz=>Int.lt_of_mul_lt_mul_left z (JU b),λz=>Int.mul_lt_mul_of_pos_left z b]
def CZ{g h:Int}(a:0<g)(u v:Wl)(x:Int):Pk (raw g h u) (raw g h v) (g*x-h)=Pk u v x:=by
 let[k,b,e]:=C9 (h:=h) a u v x;unfold Pk;rw[DO a];let e3:decide ((raw g h u).1=g*x-h)=decide (u.1=x):=decide_eq_decide.mpr (kQ a);rw[e3];generalize Nb (raw g h u) (g*x-h)*N9 (raw g h v)=A at e ⊢;generalize Nb (raw g h v) (g*x-h)*N9 (raw g h u)=B at e ⊢;generalize Nb u x*N9 v=C at e ⊢;generalize Nb v x*N9 u=D at e ⊢;rcases JB C D with y|y|y
 .have:=JA b (():C-D<0);rw[ME (),ME (),MG (),MG ()]
 .subst y;rw[Int.sub_self,Int.mul_zero]at e;rw[MF (),MF rfl]
 .have:=JC b (():0<C-D);rw[ME (),ME (),MI (),MI ()]
theorem kf:∀(ts:rq)(k:Nat)(a:Str),(textFrom k a ts).length<=a.length+piled ts
 |[],k,a=>Nat.le_add_right _ _
 |t::r,k,a=>by
  let h:=kf r (k+1) (a++(if k>0 then ", " else "":String)++t)
  let e:(a++(if k>0 then ", " else "":String)++t).length<=a.length+2+t.length:=by
   rw[strLen_append,strLen_append]
   have:(((if k>0 then ", " else "":String):Str)).length<=2:=by split<;>decide
   omega
  rw[piled_cons]
  show(textFrom (k+1) _ r).length<=_
  omega
def kj(ts:rq):(listText ts).length<=piled ts+2:=by unfold listText;rw[strLen_append];let h:=kf ts 0 "[";let e1:((("[":String):Str)).length=1:=rfl;let e2:((("]":String):Str)).length=1:=rfl;rw[e1]at h;rw[e2];omega
theorem mv{n:Nat}:∀{ts:rq},(∀t∈ts,t.length<=n)->piled ts<=ts.length*(n+2)
 |[],_=>K3 _
 |t::ts,h=>by
  have:=mv (ts:=ts) λx hx=>h x (by simp[hx])
  have:=h t (_)
  rw[piled_cons,Jz,Nat.succ_mul]
  omega
def qp:∀n:_root_.Fin 81,(PyData.shown (.int ((n.val:Nat):Int))).length<=2:=by decide +kernel
def Ah{i:Int}(h:Ld i):(PyData.shown (.int i)).length<=2:=by have:=qp #[i.toNat,by unfold Ld at h;omega];rw[show(((#[i.toNat,by unfold Ld at h;omega]:_root_.Fin 81).val:Nat):Int)=i by unfold Ld at h;show((i.toNat:Nat):Int)=i;omega]at this;exact this
theorem gf{b:Type}(f:b->Lw):∀l:List b,PyData.shownAll (l.map f)=l.map λa=>(f a).shown
 |[]=>rfl
 |a::l=>by rw[Ji,PyData.shownAll,gf f l];rfl
def tF{ns:q_}(h:∀i∈ns,Ld i):(PyData.shown (.list (ns.map KH))).length<=ns.length*4+2:=by
 show(listText (PyData.shownAll (ns.map KH))).length<=_;rw[gf];refine JT (kj _) ?_;have:=mv (n:=2) (ts:=ns.map λa=>(KH a).shown) λt b=>by let[i,c,5]:=JO.mp b;exact Ah (h i c)
 rw[J4]at this;omega
def CT{i:Int}(h:Ld i):PyData.showable (.int i)=MC:=by show decide (i.natAbs.log2<1920)=MC;have:=Nat.log2_le_self i.natAbs;unfold Ld at h;exact MI ()
theorem t9:∀{ns:q_},(∀i∈ns,Ld i)->PyData.showableAll (ns.map KH)=MC
 |[],_=>rfl
 |i::ns,h=>by rw[Ji,PyData.showableAll,CT (h i (_)),t9 λx hx=>h x (by simp[hx])];rfl
theorem tX:∀ns:q_,PyData.hasDictAll (ns.map KH)=MD
 |[]=>rfl
 |i::ns=>by rw[Ji,PyData.hasDictAll,tX ns];rfl
theorem uR:∀ns:q_,KP (ns.map KH)<=1
 |[]=>NG rfl
 |i::ns=>by
  rw[Ji,KP]
  exact Nat.max_le.mpr #[NG rfl,uR ns]
structure Fs(ws:r8)(fs:q_):Prop where
 nd:fs.Nodup
 b:∀k∈fs,0<=k/\k<ws.length
theorem Fs.perm{ws:r8}{fs a:q_}(h:Fs ws fs)(p:a.Perm fs):Fs ws a:=#[p.nodup_iff.mpr h.nd,λk c=>h.b k (p.mem_iff.mp c)]
def Fs.len{ws:r8}{fs:q_}(h:Fs ws fs):fs.length<=ws.length:=by
 have:=(h.nd).length_le_of_subset (l₂:=(Jq ws.length).map λk:Nat=>(k:Int)) λk a=>by
  have:=h.b k a
  exact JO.mpr #[k.toNat,Ls.mpr (),()]
 simpa using this
def oC{ws:r8}{fs:q_}(hF:PF ws)(F:Fs ws fs){a b:Int}(c:a∈fs)(d:b∈fs)(ne:a≠b):N1 (NH ws a) (NH ws b):=by let A:=F.b a c;let B:=F.b b d;exact hF a.toNat b.toNat _ _ () (aW A.1 A.2).1 (aW B.1 B.2).1
def RS.up{f:Int->Int}{ws rs:q_}(h:RS (ws.map f) ws rs):rs.Pairwise λa b=>f a<=f b:=by
 let[ps,h1,5,d]:=h;rw[LW];refine List.Pairwise.imp_of_mem (λ{p q} c g z=>?_) d
 let key:∀p∈ps,p.1=f p.2:=λp c=>by
  have:=h1.mem_iff.mp c
  rw[List.zip_map_left]at this
  obtain⟨⟨x,y⟩,hx,rfl⟩:=JO.mp this
  have:=List.of_mem_zip hx
  let e:x=y:=by let[i,j,e]:=List.mem_iff_getElem.mp hx;rw[List.getElem_zip]at e;cases e;rfl
  rw[e];rfl
 rw[<-key p c,<-key q g];exact z
def qm(r:q_):Lw:=.list (r.map KH)
def tU(rs:List (q_)):Lw:=.list (rs.map qm)
def ui{M:MH}{z:pd}{b:rp}{rs:List (q_)}(hz:M z=MA (.lst (b.map D.ref)))(h:OW M b rs):Pd M (.ref z) (tU rs):=by
 let go:∀(b:rp)(rs:List (q_)),OW M b rs->Pl M (b.map D.ref) (rs.map qm):=λb=>by
  induction b with
  |nil=>
   intro rs h
   have:rs=[]:=Lz.mp h.1.symm
   subst this;exact .nil
  |cons a b c=>
   intro rs h
   cases rs with
   |nil=>exact absurd h.1 (_)
   |cons r rs=>refine .cons (.lst (h.2 0 a r rfl rfl) (gF r)) (c rs #[‹h.1›,λi d e h1 h2=>h.2 (i+1) d e ‹h1› ‹h2›])
 exact .lst hz (go b rs h)
theorem rm:∀{rs:List (q_)},(∀r∈rs,∀k∈r,Ld k)->PyData.showableAll (rs.map qm)=MC/\PyData.hasDictAll (rs.map qm)=MD/\KP (rs.map qm)<=5
 |[],_=>#[5,5,NG rfl]
 |r::rs,h=>by
  let[a,b,c]:=rm (rs:=rs) λx hx=>h x (by simp[hx])
  rw[Ji]
  exists ?_,?_
  .rw[PyData.showableAll,a]
   show(PyData.showableAll (r.map KH)&&MC)=MC
   rw[t9 (h r (_))];rfl
  .rw[PyData.hasDictAll,b]
   show(PyData.hasDictAll (r.map KH)||false)=MD
   rw[tX];rfl
  .rw[KP]
   refine Nat.max_le.mpr #[?_,c]
   have:=uR r
   simp only[qm,PyData.depth]
   omega
def wY{rs:List (q_)}(e:∀r∈rs,∀k∈r,Ld k)(f:rs.length<=100)(g:∀r∈rs,r.length<=40):Zp (tU rs):=by
 let[a,b,c]:=rm e;let sz:1000000<=Jo:=NG rfl;exists a,b,?_
 .simp only[tU,PyData.depth];omega
 .show(listText (PyData.shownAll (rs.map qm))).length<=_;rw[gf];refine JT (kj _) ?_
  have:=mv (n:=200) (ts:=rs.map λr=>(qm r).shown) λt h=>by
   let[r,d,5]:=JO.mp h
   let e1:=tF (e r d)
   let e2:=g r d
   show(PyData.shown (.list (r.map KH))).length<=_
   omega
  rw[J4]at this;let h2:rs.length*(200+2)<=100*202:=Nat.mul_le_mul f (Je _);omega
def atG{g h:Int}{ws:r8}{k:Int}(h0:0<=k)(h1:k<ws.length):atI (ws.map (NI g h)) k=MA (NI g h (NH ws k)):=by obtain⟨j,rfl⟩:∃j:Nat,k=(j:Int):=#[k.toNat,()];exact bM (by rw[Jf];have:=(aW h0 h1).1;rw[Kl]at this;rw[this];rfl)
def SO(g h:Int)(w:Wl):D:=.tup [.int (g*w.2.2.1-h-(g*w.1-h)),.int (g*w.2.2.2-h-(g*w.2.1-h))]
def D7{g h:Int}(G:Gs g h){w:Wl}(W:NK w){x:Int}(hx:0<=x/\x<=20):Bd 30 (Nb (raw g h w) (g*x-h)):=by
 let f:=ir G W.a;let e:=ir G W.b;let i:=ir G W.c;let bd:=ir G W.d;let bx:=ir G hx;unfold Nb;split
 .exact e.mono ⋯
 .exact(((e.mono (⋯:12<=13)).mul (i.sub f)).add ((bd.sub e).mul (bx.sub f))).mono ⋯
structure R8(t b X Y:Int)(qs:rp)(i:Nat)(kvs:Nv)(cs:List Vc):Prop where
 ks:kvs.map (·.1)=cs.map (gk t b X Y)
 nd:cs.Nodup
 bd:∀c∈cs,Nd c
 vs:∀c∈cs,∃q∈qs,dE kvs (gk t b X Y c)=MA (.ref q)
 len:cs.length<=i
def R8.kl{t b X Y:Int}{qs:rp}{i:Nat}{kvs:Nv}{cs:List Vc}(h:R8 t b X Y qs i kvs cs):kvs.length=cs.length:=by have:=congrArg List.length h.ks;rw[J4,J4]at this;exact this
theorem R8.nil(t b X Y:Int)(qs:rp):R8 t b X Y qs 0 [] []:=#[5,List.nodup_nil,by simp,by simp,Je _]
def R8.put{t b X Y:Int}{qs:rp}{i:Nat}{kvs:Nv}{cs:List Vc}{c:Vc}{q:pd}(k:0<t)(m:0<b)(h:R8 t b X Y qs i kvs cs)(n:Nd c)(o:q∈qs):∃cs,R8 t b X Y qs (i+1) (putD kvs (gk t b X Y c) (.ref q)) cs:=by
 let j:∀f,(f=c\/f∈cs)->∃p∈qs,dE (putD kvs (gk t b X Y c) (.ref q)) (gk t b X Y f)=MA (.ref p):=λf r=>by
  rw[qe];by_cases e:gk t b X Y f=gk t b X Y c
  .rw[MF e];exact #[q,o,rfl]
  .rw[ME e];rcases r with z|z
   .exact absurd (by rw[z]) e
   .exact h.vs f z
 let l:=h.len;by_cases z:c∈cs
 .refine #[cs,?_,h.nd,h.bd,λf d=>j f (.inr d),()];rw[qG,h.ks,MF (JO.mpr #[_,z,rfl])]
 .refine #[cs++[c],?_,?_,λf d=>?_,λf d=>j f ?_,by simp;omega]
  .rw[qG,h.ks,ME (λy=>by
    let[f,d,s]:=JO.mp y
    exact z ((rE k m s)▸d)),JE]
   rfl
  .refine List.nodup_append.mpr #[h.nd,by simp,λa u v g=>?_];rw[Ku.mp g];exact λe=>z (e▸u)
  .rcases Jv.mp d with y|y
   .exact h.bd f y
   .rw[Ku.mp y];exact n
  .rcases Jv.mp d with y|y
   .exact .inr y
   .exact .inl (Ku.mp y)
structure Nf(x y1 y2:Str)(sc:L9):Prop where
 kind:sc.kind=.function
 co:sc.isCoroutine=MD
 gen:sc.isGenerator=MD
 n1:x≠y1
 n2:x≠y2
 n3:y1≠y2
 hx:sc.names.lookup x=MA .cell
 h1:sc.names.lookup y1=MA .free
 h2:sc.names.lookup y2=MA .free
 only:∀z∈sc.names,z.2=.free->z.1=y1\/z.1=y2
 cell:∀z∈sc.names,z.2=.cell->z.1=x
 cf:∀n cl,KZ n sc.names cl=(x,n)::cl
 pc:∀h,pushCells h sc.names=h.push { cls:=.type "cell",data:=.cell MB }
section
variable{P:Ju}{w:JV}{K:J1}{mg:Str->Option J3}{base:pq}{qual:Str}{scope:L9}{g c1 c2:pd}{cd:J3}{A:JP}{outer:List Env}{s:J5}{H:Hp}{x y1 y2:Str}
abbrev QI(x y1 y2:Str)(L c1 c2:pd):List (Str×pd):=[(x,L+1),(y1,c1),(y2,c2)]
def xg{M:Model}{E:J3->J5->Prop}{u:J3}{Q:Env->J5->Prop}(S:Nf x y1 y2 scope)
 (h:∀h',h'.Ns s.z (λ_=>MB)->h'.IsCell (s.z+1) (MA u)->(∀b o,s.heap.get? b=MA o->h'.get? b=MA o)->
  Q (jK scope s.z (QI x y1 y2 s.z c1 c2) qual g cd) { s with heap:=h' }) :
 Jj M A (Mh scope K6 [(y1,c1),(y2,c2)] [(x,u)] (qual++".<locals>.") (MA g) cd MB builtinsNs) Q E s:=by
 simp only[Mh,Option.isSome_none,Ka,if_false]
 refine J0 (wpAny_alloc ?_)
 refine J0 (wpAny_layCells _ (λname kind cells=>by cases a:kind==NameKind.cell<;>simp[a]) _ _ _ _ ?_)
 rw[show({ s with heap:=s.heap.push { cls:=.type "frame",data:=.dict #[] } }:J5).heap.objs.size=s.z+1 from Kz ..,S.cf]
 refine J0 ?_
 rw[List.forIn_cons]
 show Jj _ _ _ _ _ { s with heap:=pushCells (s.heap.push { cls:=.type "frame",data:=.dict #[] }) scope.names }
 rw[S.pc]
 let f:(s.heap.push { cls:=.type "frame",data:=.dict #[] }).objs.size=s.z+1:=Kz ..
 let e1:((s.heap.push { cls:=.type "frame",data:=.dict #[] }).push { cls:=.type "cell",data:=.cell MB }).IsCell (s.z+1) MB:=by
  rw[<-f];exact #[_,Jh _ rfl,rfl]
 let i:((s.heap.push { cls:=.type "frame",data:=.dict #[] }).push { cls:=.type "cell",data:=.cell MB }).Ns s.z λ_=>MB:=
  (Heap.Ns.new s.heap (.type "frame")).keeps λb o e=>J6 _ e
 refine J0 (J0 (wpAny_storeName_cell (v₀:=MB) S.kind S.hx (by show((x,s.z+1)::_).lookup x=_;rw[List.lookup_cons_self]) e1 λh' j c=>?_))
 refine J9 ?_
 dsimp only
 rw[List.forIn_nil]
 refine J9 (J9 (h h' ?_ j λb o e=>?_))
 .obtain⟨o,k,l,e,d,r⟩:=i
  exact #[o,k,l,(c.2 _ (JF (Nat.lt_succ_self _))).trans e,d,r]
 .have lt:=Jm e
  exact(c.2 _ (JF (KJ lt))).trans (J6 _ (J6 _ e))
def y9{h':pq}{q r:Obj}{u y B:J3}{x0 x1 x2:V}(S:Nf x y1 y2 scope)(hd:A.handled=MB)(c:OX P w K mg base A outer s H)(J:c1≠c2)(D:base.get? c1=MA q)(E:q.data=.cell (MA y))(F:base.get? c2=MA r)(G:r.data=.cell (MA B))(O:RelV x0 u)(Q:RelV x1 y)(R:RelV x2 B)
 (I:h'.Ns s.z λ_=>MB) (hx:h'.IsCell (s.z+1) (MA u)) (C:∀b o,s.heap.get? b=MA o->h'.get? b=MA o) :
 Inv (qi P w K mg base [x,y1,y2] qual scope (QI x y1 y2 s.z c1 c2) g cd A outer s H) [] [MA x0,MA x1,MA x2] H { s with heap:=h' }:=by
 let l:∀b:pd,b∉(qi P w K mg base [x,y1,y2] qual scope (QI x y1 y2 s.z c1 c2) g cd A outer s H).ex:=λb z=>absurd (show b∈([]:rp)from z) (_)
 let one:∀{z:Str}{d:pd},(QI x y1 y2 s.z c1 c2).lookup z=MA d->(z=x/\d=s.z+1)\/(z=y1/\d=c1)\/(z=y2/\d=c2):=λ{z d} e=>by
  have:=JQ e
  simpa using this
 let la:c1<s.z:=Jm (c.bs c1 q D).1
 let L:c2<s.z:=Jm (c.bs c2 r F).1
 let f:h'.IsCell c1 (MA y):=#[q,C _ _ (c.bs c1 q D).1,E]
 let j:h'.IsCell c2 (MA B):=#[r,C _ _ (c.bs c2 r F).1,G]
 let kx:(QI x y1 y2 s.z c1 c2).lookup x=MA (s.z+1):=List.lookup_cons_self
 let M:(QI x y1 y2 s.z c1 c2).lookup y1=MA c1:=by
  show((x,_)::_).lookup y1=_
  rw[Ki,beq_eq_false_iff_ne.mpr S.n1.symm];exact List.lookup_cons_self
 let N:(QI x y1 y2 s.z c1 c2).lookup y2=MA c2:=by
  show((x,_)::_).lookup y2=_
  rw[Ki,beq_eq_false_iff_ne.mpr S.n2.symm]
  show((y1,_)::_).lookup y2=_
  rw[Ki,beq_eq_false_iff_ne.mpr S.n3.symm];exact List.lookup_cons_self
 refine #[#[c.mod,S.kind,5,5,Je _,λa b d h1 h2=>?_,λz m=>?_,λz d h _=>Bool.noConfusion h,λ_=>hd,Around.frames_deeper c.frames,.inr #[5,rfl],λb z=>absurd z (l b),c.bs,c.bsz,λb _ _=>l b,λb z=>absurd z (l b),c.gP,c.frf],
  rfl,c.bare,Un.kept C,#[_,I,λi z v h1 h2 U=>?_],λz d h=>?_,c.hok.fresh (Je _),λz d h=>?_,λp T=>absurd (show p∈([]:p4)from T) (_),c.hok.kept C,rfl]
 .rcases one h1 with⟨rfl,rfl⟩|⟨rfl,rfl⟩|⟨rfl,rfl⟩<;>rcases one h2 with⟨t,k⟩|⟨t,k⟩|⟨t,k⟩
  .exact t.symm
  .exact absurd k (Nat.ne_of_gt (KJ la))
  .exact absurd k (Nat.ne_of_gt (KJ L))
  .exact absurd k (JF (KJ la))
  .exact t.symm
  .exact absurd k J
  .exact absurd k (JF (KJ L))
  .exact absurd k.symm J
  .exact t.symm
 .have m:scope.names.lookup z=MA .cell\/scope.names.lookup z=MA .free:=m
  rcases m with m|m
  .have:=S.cell _ (JQ m) rfl
   subst this
   exact #[_,kx]
  .rcases S.only _ (JQ m) rfl with e|e
   .have e:z=y1:=e
    subst e;exact #[_,M]
   .have e:z=y2:=e
    subst e;exact #[_,N]
 .match i,h1,h2 with
  |0,h1,h2=>
   cases (show MA x=MA z from h1)
   cases (show MA (MA x0)=MA (MA v)from h2)
   exact #[u,O,.inr #[.inl S.hx,_,kx,hx]]
  |1,h1,h2=>
   cases (show MA y1=MA z from h1)
   cases (show MA (MA x1)=MA (MA v)from h2)
   exact #[y,Q,.inr #[.inr S.h1,c1,M,f]]
  |2,h1,h2=>
   cases (show MA y2=MA z from h1)
   cases (show MA (MA x2)=MA (MA v)from h2)
   exact #[B,R,.inr #[.inr S.h2,c2,N,j]]
  |n+3,h1,_=>exact absurd (show([]:rq)[n]?=MA z from h1) (_)
 .rcases one h with⟨rfl,rfl⟩|⟨rfl,rfl⟩|⟨rfl,rfl⟩
  .exact #[_,hx]
  .exact #[_,f]
  .exact #[_,j]
 .rcases one h with⟨rfl,rfl⟩|⟨rfl,rfl⟩|⟨rfl,rfl⟩
  .exact c.hok.fresh (Mn _)
  .exact(c.bs _ _ D).2
  .exact(c.bs _ _ F).2
def xn{k:Nat}{name:Str}{params:Arguments}{body:pv}{n a:J3}{c:pd}{p r:Obj}{u y B:J3}{x0 x1 x2:V}{t:TE}{Q:VK}(S:Nf x y1 y2 scope)(C:NL (k+1) A)(f:OX P w K mg base A outer s H)(E:c1≠c2)(F:base.get? c1=MA p)(h:p.data=.cell (MA y))(G:base.get? c2=MA r)(i:r.data=.cell (MA B))(L:RelV x0 u)(M:RelV x1 y)(N:RelV x2 B)
 (O:s.heap.get? g=MA (L6 name qual params body scope [(y1,c1),(y2,c2)] n c a)) (d:s.heap.CodeRec (.ref c) qual)
 (j:LR (PySem.W.kla_fn name qual params body scope [(y1,c1),(y2,c2)] n (.ref c) a) #[[u],[]]=pure [(x,u)])
 (R:PE (qi P w K mg base [x,y1,y2] qual scope (QI x y1 y2 s.z c1 c2) g (.ref c) A outer s H) body t) (T:t [MA x0,MA x1,MA x2] H Q) :
 Lh (Jn P w) A (.call (.ref g) #[[u],[]]) (CR OT outer P w H s Q E0) s:=by
 refine PySem.W.kla_callFunE C.depth O rfl S.co S.gen rfl d ?_
 rw[j]
 let l:s.heap.NoLimit:=f.mod.nolimit.keeps λb o e=>(f.bs b o e).1
 refine J9 (xg S λZ m hx D=>?_)
 refine #[l.keeps D,PySem.W.kla_codeExpr ?_]
 let I:=y9 (qual:=qual) (g:=g) (cd:=.ref c) S C.hd f E F h G i L M N m hx D
 refine Jp (R [] _ _ _ _ I T) (λu U z=>?_) (λe U z=>Jy z)
 let[v,X,J,Y,q]:=z
 exact #[v,X,J.os,J.bare,J.base,J.hok,Y,q]
end
def Cg(o:Obj)(d1 d2:D)(x1 x2:V):MO:=.gen λK H a=>H a=MA (.ext (cO a o))/\Rep K H d1 x1/\Rep K H d2 x2
section
variable{P:Ju}{w:JV}{K:J1}{mg:Str->Option J3}{base:pq}{qual:Str}{scope:L9}{g c1 c2:pd}{x y1 y2:Str}
def yq{k:Nat}{name:Str}{params:Arguments}{body:pv}{c a:J3}{b:pd}{F G:Obj}{I J:J3}{x1 x2:V}{d1 d2:D}{sp:Nl}(S:Nf x y1 y2 scope)(U:c1≠c2)(X:base.get? c1=MA F)(f:F.data=.cell (MA I))(Y:base.get? c2=MA G)(j:G.data=.cell (MA J))(Z:RelV x1 I)(r2:RelV x2 J)
 (l:∀u,LR (PySem.W.kla_fn name qual params body scope [(y1,c1),(y2,c2)] c (.ref b) a) #[[u],[]]=pure [(x,u)]) (len:∀ds M Q,sp ds M Q->ds.length=1)
 (ht:∀(A:JP)(outer:List Env)(s:J5)(H:Hp),NL k (A.deeper (jK scope s.z (QI x y1 y2 s.z c1 c2) qual g (.ref b)))->∃t,DE (qi P w K mg base [x,y1,y2] qual scope (QI x y1 y2 s.z c1 c2) g (.ref b) A outer s H) body t/\∀d M Q,sp [d] M Q->t [MA d,MA d1,MA d2] M Q) :
 Zu P w K mg base (k+1) g sp (λM=>M g=MA (Cg (L6 name qual params body scope [(y1,c1),(y2,c2)] c b a) d1 d2 x1 x2)/\M b=MA (Bj qual)):=by
 refine #[cO g (L6 name qual params body scope [(y1,c1),(y2,c2)] c b a),λM h z=>#[.frame,.inl rfl,(PySem.W.Looks.ld (part:=MB) z).andThen .now],λA outer s H M L m N o=>?_]
 let[hg,p]:=o
 obtain⟨⟨v,y,B⟩,_⟩:=N _ _ hg
 let[C,_]:=N _ _ p
 let[O,_]:=m.hok _ _ v
 let[f2,_]:=m.hok _ _ C
 refine #[O,λus vs Q r z=>?_]
 let[ds,T,R,rs,a1,q,E]:=z
 obtain⟨d,rfl⟩:∃d,ds=[d]:=by
  have:=len _ _ _ q
  match ds,this with
  |[d],_=>exact #[d,rfl]
 let[x0,5,rx]:=bP rs
 let[u,5,ru]:=vals1 r
 let[t,h1,h2]:=ht A outer s H (L.deeper _)
 refine xn (t:=lift K t) (x1:=x1) (x2:=x2) S L m U X f Y j ru Z r2 O f2 (l u) h1 #[[MA d,MA d1,MA d2],T,R,#[5,λi d e=>?_],a1,h2 d T R q,E]
 match i,e with
 |0,e=>cases e;exact #[x0,5,rx]
 |1,e=>cases e;exact #[x1,5,y]
 |2,e=>cases e;exact #[x2,5,B]
 |n+3,e=>exact absurd (show([]:r_)[n]?=MA (MA _)from e) (_)
end
def kq(b:pq)(c d:pd):Hp:=λa=>if(b.get? a).isSome=MC\/a=c\/a=d then MB else MA (.tbl #[])
theorem oj{b:pq}{c d a:pd}(h:(b.get? a).isSome=MC\/a=c\/a=d):kq b c d a=MB:=MF h
def uA{b:pq}{c d a:pd}(h:kq b c d a=MB):(b.get? a).isSome=MC\/a=c\/a=d:=by
 by_cases z:(b.get? a).isSome=MC\/a=c\/a=d
 .exact z
 .unfold kq at h;rw[ME z]at h;cases h
section
variable{X:Cx}{MP:p4}{σ:L2.St}{H:Hp}{s:J5}{y1 y2:Str}{c1 c2:pd}
def yK(I:Inv X MP σ H s)(i:X.fn y1=MC)(d:X.env.cells.lookup y1=MA c1)(j:X.fn y2=MC)(f:X.env.cells.lookup y2=MA c2):OX X.prog X.w X.K X.mg (jx s.heap (kq X.base c1 c2)) X.A X.stack s H:=by
 let a:=I.Fh;let h:∀b o,X.base.get? b=MA o->(jx s.heap (kq X.base c1 c2)).get? b=MA o:=λb o e=>gY (I.bk b o e) (oj (.inl (by rw[e];rfl)))
 let k:∀y b,X.fn y=MC->X.env.cells.lookup y=MA b->b∈PL X.stack->False:=λy b n l g=>by
  rcases JM.mp (I.pR b g)with q|q
  .exact I.cne y b l q
  .obtain⟨_,m,c,_⟩:=I.ok.gP.mem (show b∈X.outer.filterMap (·.frame)from q);exact absurd (JD (Jm c) (I.ok.cab y b n l)) (LX _)
 let p:∀b∈PL X.stack,(jx s.heap (kq X.base c1 c2)).get? b=MB:=λb g=>by
  cases e:(jx s.heap (kq X.base c1 c2)).get? b with
  |none=>rfl
  |some o=>
   exfalso
   let[e1,e2]:=oq e
   rcases uA e2 with z|z|z
   .have:=(a.gP.mem (show b∈X.stack.filterMap (·.frame)from g)).1;rw[this]at z;cases z
   .subst z;exact k _ _ i d g
   .subst z;exact k _ _ j f g
 let[r,h1,h2]:=a.mod.blt;refine #[a.frames,#[a.mod.kin.keeps h,a.mod.glob.keeps h,#[r,h1.keeps h,h2],a.mod.nolimit.keeps h],λb o e=>?_,Nat.le_of_eq (nA _ _),nU a.gP p,a.frf,a.hok,a.bare];let[e1,e2]:=oq e;exists e1;rcases uA e2 with z|z|z
 .obtain⟨m,c⟩:=Option.isSome_iff_exists.mp z;exact(I.bs b m c).2
 .subst z;exact I.freeC y1 b d
 .subst z;exact I.freeC y2 b f
end
section
variable{X:Cx}{y1 y2 lx:Str}{params:Arguments}{body:pv}{MV:L9}{MW:Pos}{c0 Pt:pd}
def yj{names:List (Str×Lu)}{env:Env}{y1 y2:Str}{a b:pd}(c:(names.filter λz=>z.2==.free)=[(y2,.free),(y1,.free)])(h1:env.cells.lookup y1=MA a)(h2:env.cells.lookup y2=MA b):eM names env=[(y1,a),(y2,b)]:=by unfold eM;rw[c];simp[h1,h2]
def vS{MP:p4}{σ:L2.St}{H:Hp}{s:J5}{M:MH}{f i:pd}{d1 d2:D}{x1 x2:V}{Q:J3->J5->Prop}(d:X.env.code=.ref c0)(m:Mk X.K X.mg c0 Pt)(G:(MV.names.filter λz=>z.2==.free)=[(y2,.free),(y1,.free)])(J:∀z∈MV.names,z.2=.free->z.1=y1\/z.1=y2)
 (L:defaultsOf params X.env=([],[])) (I:Inv X MP σ H s) (t:NM X.K H M) (N:X.env.cells.lookup y1=MA f) (O:X.env.cells.lookup y2=MA i) (v:cX (X.env.qual++"<lambda>") Pt MW M) (k:Rep X.K H d1 x1) (l:Rep X.K H d2 x2)
 (h:∀g c b pm x P s',Inv X MP σ x s'->ND X.K H x->NM X.K x P->P g=MA (Cg (L6 "<lambda>" (X.env.qual++"<lambda>") params body MV [(y1,f),(y2,i)] pm c b) d1 d2 x1 x2)->P c=MA (Bj (X.env.qual++"<lambda>"))->
  cX (X.env.qual++"<lambda>") Pt MW P->kZ Pt M P->Q (.ref g) s') :
 Jj (Jn X.prog X.w) X.A (eval (.Lambda params body MV MW) X.env) Q X.xe s:=by
 refine PySem.W.kla_eval L ?_
 let R:closureFor MV X.env=pure [(y1,f),(y2,i)]:=by
  rw[mG (λz hz Z=>(J z hz Z).elim (λe=>#[f,by rw[e];exact N]) λe=>#[i,by rw[e];exact O]),yj G N O]
 let S:s.heap.Ns K6 X.mg:=I.mod.glob.keeps I.bk
 let C:=PySem.W.codeHd_of_K I.kIn m.hd
 rcases v with v|⟨q,v,y,a0⟩
 .obtain⟨j,_⟩:=t _ _ v
  let B:s.heap.get? Pt=MA (PySem.W.tabObj #[]):=I.hok _ _ j
  let n:H Pt≠MB:=by rw[j];simp
  refine PySem.W.kla_makeFunction (mg:=X.mg) R I.ok.glob S d C B trivial rfl (HI I n) (yE I m n) λc b r tk hx h1 h2 T b0=>?_
  let[n1,n2,I2]:=za (o:=L6 "<lambda>" (X.env.qual++"<lambda>") params body MV [(y1,f),(y2,i)] ((X.mg "__name__").getD .none) c b) (tk:=tk) rfl I j hx h1 h2 T b0
  let nc:c≠Pt:=λz=>by rw[z,j]at n1;cases n1
  let ng:r.objs.size≠Pt:=λz=>by rw[z,j]at n2;cases n2
  let E:r.objs.size≠c:=(JF h2).symm
  let g1:ND X.K H (upd H Pt (.tbl (#[]++(List.toArray [Md MW.line,Md MW.col,.ref c])))):=.put (λxs e=>by rw[j]at e;cases e) (λu xs e=>by rw[j]at e;cases e)
  let g2:=ND.new (K:=X.K) (o:=.ext (pB c (X.env.qual++"<lambda>"))) (show(upd H Pt (.tbl (#[]++(List.toArray [Md MW.line,Md MW.col,.ref c])))) c=MB by rw[aE nc];exact n1)
  let p:=ND.new (K:=X.K) (o:=.ext (cO r.objs.size (L6 "<lambda>" (X.env.qual++"<lambda>") params body MV [(y1,f),(y2,i)] ((X.mg "__name__").getD .none) c b))) (show(upd (upd H Pt (.tbl (#[]++(List.toArray [Md MW.line,Md MW.col,.ref c])))) c (.ext (pB c (X.env.qual++"<lambda>")))) r.objs.size=MB by rw[aE E,aE ng];exact n2)
  let U:=(g1.trans g2).trans p
  let a1:=t.rS (A:=λ_ H a=>H a=MA (.tbl (Aw MW c))) g1 aF (λx _ e=>e)
  let a2:=a1.rS (A:=λ_ H a=>H a=MA (.ext (pB a (X.env.qual++"<lambda>")))) g2 aF (λx _ e=>e)
  let a3:=a2.rS (A:=λK H a=>H a=MA (.ext (cO a (L6 "<lambda>" (X.env.qual++"<lambda>") params body MV [(y1,f),(y2,i)] ((X.mg "__name__").getD .none) c b)))/\Rep K H d1 x1/\Rep K H d2 x2) p #[aF,k.mono U,l.mono U] (λx Y e=>#[e,(k.mono U).mono Y,(l.mono U).mono Y])
  let m1:=t.fresh n1
  let F:=t.fresh n2
  refine h _ c b _ _ _ _ I2 U a3 ag (by rw[ak E.symm,ag];rfl) (.inr #[c,by rw[ak ng.symm,ak nc.symm,ag];rfl,by rw[ak E.symm,ag];rfl,nc]) λa o na e=>?_
  rw[ak (λz=>by rw[z,F]at e;cases e),ak (λz=>by rw[z,m1]at e;cases e),ak na];exact e
 .obtain⟨j,_⟩:=t _ _ v
  let B:s.heap.get? Pt=MA (PySem.W.tabObj (Aw MW q)):=I.hok _ _ j
  let n:H Pt≠MB:=by rw[j];simp
  refine PySem.W.kla_makeFunctionHit (mg:=X.mg) (cv:=.ref q) R I.ok.glob S d C B trivial (by unfold Aw Md codeAmong;simp) (yE I m n) λb r tk Z d0=>?_
  let[n2,I2]:=A5 (o:=L6 "<lambda>" (X.env.qual++"<lambda>") params body MV [(y1,f),(y2,i)] ((X.mg "__name__").getD .none) q b) (tk:=tk) rfl I Z d0
  let p:=ND.new (K:=X.K) (o:=.ext (cO r.objs.size (L6 "<lambda>" (X.env.qual++"<lambda>") params body MV [(y1,f),(y2,i)] ((X.mg "__name__").getD .none) q b))) n2
  let a3:=t.rS (A:=λK H a=>H a=MA (.ext (cO a (L6 "<lambda>" (X.env.qual++"<lambda>") params body MV [(y1,f),(y2,i)] ((X.mg "__name__").getD .none) q b)))/\Rep K H d1 x1/\Rep K H d2 x2) p #[aF,k.mono p,l.mono p] (λx Y e=>#[e,(k.mono p).mono Y,(l.mono p).mono Y])
  let F:=t.fresh n2
  let k1:Pt≠r.objs.size:=λz=>by rw[<-z,v]at F;cases F
  let k2:q≠r.objs.size:=λz=>by rw[<-z,y]at F;cases F
  refine h _ q b _ _ _ _ I2 p a3 ag (by rw[ak k2];exact y) (.inr #[q,by rw[ak k1];exact v,by rw[ak k2];exact y,a0]) λa o na e=>?_
  rw[ak (λz=>by rw[z,F]at e;cases e)];exact e
end
def tw(q:Str)(Pt:pd)(d:Pos)(g h:Nat)(spg:D->D->Nl)(j:N7):TD:=λδ M Q=>j δ M λk b=>∃(l:pd) (ws ns:q_) (e1 e2:D),k=[.ref l]/\b l=MA (.lst (ws.map D.int))/\l≠Pt/\δ[g]?=MA (MA e1)/\δ[h]?=MA (MA e2)/\cX q Pt d b/\ns.length=ws.length/\ns.length<64/\
 (∀(i:Nat)(w n:Int) a e,ws[i]?=MA w->ns[i]?=MA n->kZ Pt b a->(∀c,Sub a c->e (.int n) c)->spg e1 e2 [.int w] a e)/\
 ∀p f a,b p=MB->a p=MA (.lst (f.map D.int))->RS ns ws f->cX q Pt d a->kZ Pt b a->Q (.ref p) a
section
variable{X:Cx}{y1 y2 lx:Str}{k:Nat}{params:Arguments}{body:pv}{MV:L9}{MW p pos kp:Pos}{a1:pv}{ta:N7}{c0 Pt:pd}{spg:D->D->Nl}
def oA(j1 j2:Nat)(U:X.env.code=.ref c0)(m:Mk X.K X.mg c0 Pt)(S:Nf lx y1 y2 MV)
 (hb:∀(name qual:Str)(F G:pd)(pm cdv ct Y:J3),LR (PySem.W.kla_fn name qual params body MV [(y1,F),(y2,G)] pm cdv ct) #[[Y],[]]=pure [(lx,Y)])
 (len:∀d1 d2 ds M Q,spg d1 d2 ds M Q->ds.length=1)
 (ht:∀(base:pq)(g F G c':pd)(d1 d2:D)(A:JP)(outer:List Env)(s:J5)(H:Hp),NL k (A.deeper (jK MV s.z (QI lx y1 y2 s.z F G) (X.env.qual++"<lambda>") g (.ref c')))->
  ∃t,DE (qi X.prog X.w X.K X.mg base [lx,y1,y2] (X.env.qual++"<lambda>") MV (QI lx y1 y2 s.z F G) g (.ref c') A outer s H) body t/\∀d M Q,spg d1 d2 [d] M Q->t [MA d,MA d1,MA d2] M Q)
 (hr:NL (k+1+1+1) X.A) (hm:X.mg "sorted"=MB) (ha:DA X [a1] ta)
 (hg:Gl X "sorted":=by rfl) (d0:(MV.names.filter λz=>z.2==.free)=[(y2,.free),(y1,.free)]:=by rfl) (f0:defaultsOf params X.env=([],[]):=by rfl) (m0:X.fn y1=MC:=by rfl) (n0:X.fn y2=MC:=by rfl) (o0:X.N[j1]?=MA y1:=by rfl) (q0:X.N[j2]?=MA y2:=by rfl) (g0:X.env.scope.names.lookup y1=MA .cell:=by rfl) (h0:X.env.scope.names.lookup y2=MA .cell:=by rfl)
 (he:Kr pos (Jk [a1] X.env)=(MD,eval a1 X.env)::Kr pos (Jk [] X.env):=by rfl) (r0:(Kr pos (Jk [a1] X.env)).any (·.1)=MD:=by rfl) :
 DE X (.Call (.Name "sorted" p) [a1] [#[MA "key",.Lambda params body MV MW,kp]] pos) (tw (X.env.qual++"<lambda>") Pt MW j1 j2 spg ta):=by
 intro MP s σ H Q I h
 let[δ,M,R,hs,hM,q,s0]:=h
 refine Ln (gc I hg hm nJ (PyProof.Rows.callWith_kw (NJ (ha pos MP s σ H _ I #[δ,M,_,hs,hM,q,λes M1 vs H1 g1 r1 a1 q1=>(show ∃es M1,ND X.K H H1/\aD X.K H1 es vs/\NM X.K H1 M1/\_ from #[es,M1,g1,r1,a1,q1])]) λus s1 z=>?_) he r0 rfl rfl))
 let[vs,H1,I1,Z,es,M1,g1,r1,a1,l,ws,ns,e1,e2,5,hl,t0,u0,v0,i0,hn,w0,x0,hq]:=z
 let[v1,5,rl]:=bP r1
 rw[Rep]at rl;subst rl
 let[Y,5,ru]:=vals1 Z
 cases ru
 let[x1,y0,z0]:=hs.at' j1 e1 u0
 let[x2,b1,f1]:=hs.at' j2 e2 v0
 let[F,J]:=I1.ok.has y1 (.inl g0)
 let[G,b]:=I1.ok.has y2 (.inl h0)
 let nc:F≠G:=λz=>S.n3 (I1.ok.inj y1 y2 F J (by rw[z];exact b))
 refine PyProof.Rows.kws_cons (vS U m d0 (λz hz hk=>S.only z hz hk) f0 I1 a1 J b i0 (z0.mono g1) (f1.mono g1) λg c' h1 pm H2 M2 s2 I2 g2 a2 i1 k1 k0 B=>?_)
 refine PyProof.Rows.kws_nil ?_
 show Jj (Jn X.prog X.w) X.A (call (.builtin "sorted") [.ref l] [(Ks "key",.ref g)]) _ _ _
 let m1:M2 l=MA (.lst (ws.map D.int)):=B _ _ t0 hl
 refine Ff I2 a2 m1 hn w0 (λi w n Y L H' s' I' O C hd hi n1=>?_) λp p1 H' L s' I' g' O C hp t1 bk=>?_
 .have a0:kZ Pt M1 L:=λa o na e=>C _ _ (B a o na e)
  let[mm,n2,w1]:=I'.loc
  let cell:∀{j:Nat}{y:Str}{c:pd}{x:V},X.N[j]?=MA y->σ[j]?=MA (MA x)->X.env.scope.names.lookup y=MA .cell->X.env.cells.lookup y=MA c->∃u,RelV x u/\s'.heap.IsCell c (MA u):=λ{j y c x} hN hv hy hc=>by
   let[u2,z1,lk]:=w1 j y x hN hv (.inr (.inl hy))
   exists u2,z1
   rcases lk with⟨z,_⟩|⟨_,G,b,z⟩
   .rw[show X.env.kindOf y=X.env.scope.names.lookup y from rfl,hy]at z;cases z
   .rw[hc]at b;cases b;exact z
  let[v1,Z,o1,b2,f2]:=cell o0 y0 g0 J
  let[v2,i2,o2,k2,m2]:=cell q0 b1 h0 b
  let CV:=yq (P:=X.prog) (w:=X.w) (K:=X.K) (mg:=X.mg) (k:=k) (g:=g) (d1:=e1) (d2:=e2) (base:=jx s'.heap (kq X.base F G)) (sp:=spg e1 e2) S nc (gY b2 (oj (.inr (.inl rfl)))) f2 (gY k2 (oj (.inr (.inr rfl)))) m2 Z i2 (λY=>hb "<lambda>" (X.env.qual++"<lambda>") F G pm (.ref c') h1 Y) (len e1 e2) (λA outer s H hr=>ht _ g F G c' e1 e2 A outer s H hr)
  let[Pg,look,run]:=CV.ex
  let T:=yK I' m0 J n0 b
  let[_,h2]:=run X.A.in1.in1 X.stack s' H' L hr.in1.in1 #[T.frames,T.mod,T.bs,T.bsz,T.gP,T.frf,T.hok,T.bare] O #[C _ _ i1,C _ _ k1]
  refine wpAny_call (codeAny_mono (h2 [Y] [.int w] (λv b0=>∃f,ND X.K H' b0/\v=.int n/\NM X.K b0 f/\Sub L f) (.cons n1 .nil) #[[.int w],L,λd f=>d=.int n/\Sub L f,.cons (by rw[Rep]) .nil,O,x0 i w n L _ hd hi a0 λf sb=>#[5,sb],λd f v b0 gg rr aa z=>by let[5,z]:=z;rw[Rep]at rr;exact #[f,gg,rr,aa,z]]) λr p2 E=>?_)
  cases r with
  |error e=>exact Jy E
  |ok fl=>
   cases fl with
   |ret u=>exact I'.after E
   |next=>exact Jy E
   |brk=>exact Jy E
   |cont=>exact Jy E
 .exact #[.ref p,H',I',5,s0 _ L _ H' ((g1.trans g2).trans g') (by rw[Rep]) O (hq p p1 L (by
   cases z:M1 p with
   |none=>rfl
   |some o=>
    let np:p≠Pt:=λe=>by
     subst e
     rcases k0 with h|⟨_,h,_⟩<;>rw[hp]at h<;>cases h
    rw[B _ _ np z]at hp;cases hp) t1 bk (k0.sub C) λa o na e=>C _ _ (B a o na e))]
end
theorem uq(a:Nat->Nat->Bool):∀k,argBest a k<=k
 |0=>Je _
 |k+1=>by
  have:=uq a k
  rw[argBest]
  split<;>omega
section
variable{X:Cx}
theorem rh:∀{ns:q_}{its:List J3},Vals (ns.map V.int) its->∃ps:List (Int×Tok),its=ps.map (λp=>Value.int p.1 p.2)/\ps.map (·.1)=ns
 |[],its,h=>by cases h;exact #[[],5,rfl]
 |n::ns,its,h=>by
  rw[Ji]at h
  cases h with
  |cons r q=>
   let[t,5]:=r
   let[ps,5,5]:=rh q
   exact #[(n,t)::ps,5,rfl]
def vQ(f:X.calm=MC):bS X (.builtin "max") (λxs H Q=>∃p ns,xs=[.ref p]/\NX X.K H p (ns.map V.int)/\ns≠[]/\∀n∈ns,Q (.int n) H):=by
 intro MP s σ H xs us Q I r g;let[p,ns,e,h,i,k]:=g;subst e;let[u,5,j]:=vals1 r;cases j;let[l,m,o,_]:=I.list h;let[ps,5,5]:=rh m;let h0:0<ps.length:=List.length_pos_iff.mpr λz=>i (by rw[z];rfl);refine max_intList (xs:=ps.toArray) (I.ok.hd f) (by simpa[intItems]using o.isList) ‹h0› λv t w hv q=>?_;let c:=uq (λx y=>decide (numAt ps.toArray x>numAt ps.toArray y)) (ps.toArray.size-1);let a:(intItems ps.toArray)[argBest (λx y=>decide (numAt ps.toArray x>numAt ps.toArray y)) (ps.toArray.size-1)]?=MA v:=hv;rw[Jl]at c a;generalize argBest (λx y=>decide (numAt ps.toArray x>numAt ps.toArray y)) (ps.length-1)=b at c a;let d:b<ps.length:=()
 let z:Value.int ps[b].1 ps[b].2=v:=by simpa[intItems,d]using a
 exact #[.int ps[b].1,H,I.kept q,by rw[<-z];exact #[_,rfl],k _ (List.mem_map_of_mem (Kj d))]
def CM:RC:=λa M Q=>match a with
 |[.ref l]=>∃ns:q_,M l=MA (.lst (ns.map D.int))/\ns≠[]/\∀n∈ns,Q (.int n) M
 |a=>Co a M Q
theorem oo(c:X.calm=MC)(f:X.A.units+64<Kh):d5 X (.builtin "max") CM:=cg (bS.or (Ay c f) (vQ c)) λvs H Q g=>by
 let[j,M,R,d,a,q,b]:=g;unfold CM at q;split at q
 .obtain⟨ns,e,h,q⟩:=q;let[v,5,r]:=bP d;rw[Rep]at r;subst r;let[xs,h1,h2]:=a _ _ e;rw[dQ h2]at h1;exact .inr #[_,ns,5,NX.of h1,h,λn i=>b _ _ _ _ .refl (by rw[Rep]) a (q n i)]
 .exact .inl #[_,M,R,d,a,q,b]
end
section
variable{X:Cx}{t:N7}{pos:Pos}
def Ea(t:TA):TE:=λσ H Q=>t σ H λvs H1=>∃m n:Nat,vs=[.int (m:Int),.int (n:Int)]/\∀p,H1 p=MB->Q (.ref p) (upd H1 p (.rng (m:Int) (n:Int)))
def Bh{a b:pv}{d:TA}{p:Pos}(i:Gl X "range")(j:X.mg "range"=MB)(k:PA X [a,b] d)(l:Jk [a,b] X.env=[(MD,eval a X.env),(MD,eval b X.env)]:=by rfl)(c:Jk [b] X.env=[(MD,eval b X.env)]:=by rfl):PE X (.Call (.Name "range" p) [a,b] [] pos) (Ea d):=by intro MP s σ H Q I h;refine Ln (gc I i j boot_range (KI (NJ (k pos MP s σ H _ I h) λus f ⟨vs,H1,g,r,m,n,w,q⟩=>?_) (l.trans (by rw[c])) (by rw[c];rfl)));subst w;obtain⟨u,v,rfl,⟨t,rfl⟩,⟨y,rfl⟩⟩:=vals2 r;refine call_range_2 ?_;let x:=g.hok.fresh (Je f.z);exact #[.ref _,_,g.laid (a:=f.z) (o:=.rng (m:Int) (n:Int)) (λb u e=>J6 _ e) (Je _) #[_,_,_,Jh _ rfl],5,q _ x]
def qy(m:Nat):∀(n:Nat)(l:List J3),l.length=n->(∀(j:Nat)(v:J3),l[j]?=MA v->∃t,v=Value.int ((m+j:Nat):Int) t)->Vals ((JN m n).map λi:Nat=>V.int (i:Int)) l:=by
 intro n l b h
 let key:∀(m:Nat)(l:List J3),(∀(j:Nat)(v:J3),l[j]?=MA v->∃t,v=Value.int ((m+j:Nat):Int) t)->Vals ((JN m l.length).map λi:Nat=>V.int (i:Int)) l:=by
  intro m l
  induction l generalizing m with
  |nil=>intro _;exact .nil
  |cons a l c=>
   intro h
   rw[Jz,List.range'_succ,Ji]
   refine .cons (h 0 a rfl) (c (m+1) λj v e=>?_)
   let[t,q]:=h (j+1) v ‹e›
   exact #[t,by rw[q];congr 1;omega]
 rw[<-b];exact key m l h
def rC(g:X.calm=MC):bS X (.type "list") (λxs H Q=>∃a,∃m n:Nat,xs=[.ref a]/\H a=MA (.rng (m:Int) ((m+n:Nat):Int))/\m+n<=1000000/\∀p,H p=MB->Q (.ref p) (upd H p (.lst ((JN m n).map λi:Nat=>V.int (i:Int))))):=by
 intro MP s σ H xs us Q I r h;let[a,m,n,ex,k,C,q]:=h;subst ex;let[u,5,l]:=vals1 r;cases (show u=Kd a from l);let[t,u,v,e]:=I.hok a _ k;let w:Builtin.Range.rangeSize (m:Int) ((m+n:Nat):Int) 1=(n:Int):=by rw[rangeSize_one];split<;>omega
 refine call_list_range (I.ok.hd g) e (small_one () () () ()) w () λD x b y kp z c=>?_;let[d,f]:=c;let A:=I.hok.fresh (Je s.z);let B:Vals ((JN m n).map λi:Nat=>V.int (i:Int)) b.toList:=qy m n b.toList ‹d› λj v e=>by let[t,q]:=f j v ‹e›;exact #[t,by rw[q];congr 1;omega]
 refine #[.ref _,_,I.laid (a:=s.z) (o:=.lst ((JN m n).map λi:Nat=>V.int (i:Int))) (t':=x) kp (Je _) #[?_,b.toList,y,B,‹z›],5,q _ A];let sz:1000000<=Jo:=NG rfl;simp;omega
def DY(t:N7):TD:=λδ M Q=>t δ M λb a=>∃m n:Nat,b=[.int (m:Int),.int ((m+n:Nat):Int)]/\m+n<=1000000/\∀p,a p=MB->Q (.ref p) (av a p (.lst ((JN m n).map λi:Nat=>D.int (i:Int))))
def p9{K:J1}{H:Hp}(m n:Nat):aD K H ((JN m n).map λi:Nat=>D.int (i:Int)) ((JN m n).map λi:Nat=>V.int (i:Int)):=by have:=fE (K:=K) (H:=H) ((JN m n).map λi:Nat=>(i:Int));rw[KA,KA]at this;exact this
theorem vU{e a:pv}{h i lp:Pos}(y:X.calm=MC)(z:X.mg "list"=MB)(j:X.mg "range"=MB)(A:DA X [e,a] t)(k:Gl X "list":=by rfl)(l:Gl X "range":=by rfl)(o:Jk [e,a] X.env=[(MD,eval e X.env),(MD,eval a X.env)]:=by rfl)(r:Jk [a] X.env=[(MD,eval a X.env)]:=by rfl)
 (d:Jk [.Call (.Name "range" h) [e,a] [] i] X.env=(MD,eval (.Call (.Name "range" h) [e,a] [] i) X.env)::Jk [] X.env:=by rfl) (f:(Kr pos (Jk [] X.env)).any (·.1)=MD:=by rfl) :
 DE X (.Call (.Name "list" lp) [.Call (.Name "range" h) [e,a] [] i] [] pos) (DY t):=
 aX (nh (rC y) k z k7 (va (Bh l j A o r) yA d) ⋯ ⋯ d f) λσ H Q ⟨δ,M,R,o,B,q,s⟩=>by
  refine #[δ,M,_,o,B,q,λI J vs H1 g1 C w b=>?_]
  let[m,n,D,E,F]:=b
  subst D
  let[v,K,5,x,g]:=fF C
  rw[Rep]at x g;subst x g
  refine #[m,m+n,5,λp u=>#[p,m,n,5,aF,E,λG c=>?_]]
  exact s _ _ _ _ ((g1.trans (.new u)).trans (.new c)) (by rw[Rep]) ((w.new u).j4 c (p9 m n)) (F G ((w.new u).fresh c))
end
end SD
namespace HT
open PySem PyProof.Rows
section
open PySem.SeqAt
open PySem.AutoSeq1 (wpAny_loadPart')
open PySem.MeetsSeq PySem.MeetsSeq2 PySem.MeetsSeq3 PySem.SeqRoads2
def qh(l:pd)(items:Array J3)(n:Nat)(t:Option pd)(u:Array (Option J3))(x:J3)(a:Int)(j:Nat)(r:j<items.size)(b:(j:Int)<a)(k:Nat) :
 ∀i:Nat,j-i=k->i<=j->Meets (LM.«list.index.loop» #[[.ref l,x,Md i,Md a],[]])
  (λA R s=>s.heap.get? l=MA { cls:=.type "list",dict:=t,data:=.seq items n,slots:=u }/\(∀(i:Nat)(m:i<items.size),i<=j->EqAt A.in1 s items[i] x (decide (i=j)))/\R (.ok (.ret (.int j s.toks))) { s with toks:=s.toks+1 }):=by
 induction k with
 |zero=>
  intro i v c prog w A R s h
  let[y,g,d,z,os]:=s;let[o,p,h]:=h
  let e:i=j:=()
  subst e
  wp_walk using Kb o
  let m:(if(i:Int)<a then items[((i:Nat):Int).toNat]? else MB)=MA items[i]:=by simp[b,r]
  rw[m]
  refine J0 (p i r (Je _) prog w _ _ ?_)
  rw[MI rfl]
  wp_walk
  exact h
 |succ k B=>
  intro i v c prog w A R s h
  let[y,g,d,z,os]:=s;let[o,p,h]:=h
  let f:i<items.size:=()
  let q:(i:Int)<a:=()
  wp_walk using Kb o
  let m:(if(i:Int)<a then items[((i:Nat):Int).toNat]? else MB)=MA items[i]:=by simp[q,f]
  let C:((i:Int)+1)=((i+1:Nat):Int):=by push_cast;rfl
  rw[m]
  refine J0 (p i f c prog w _ _ ?_)
  rw[MG (():¬i=j)]
  wp_walk
  rw[C]
  exact #[plainId_quiet plain_index_loop _,codeAny_builtin entry_index_loop (by
   rw[LU plain_index_loop _]
   exact B (i+1) () () prog w A R _ #[o,p,h])]
def qj(l:pd)(items:Array J3)(n:Nat)(b:Option pd)(c:Array (Option J3))(x:J3)(j:Nat)(f:j<items.size)(a:(j:Int)<2^63-1) :
 Meets (LM.«list.index» #[[.ref l,x],[]])
  (λA R s=>s.heap.get? l=MA { cls:=.type "list",dict:=b,data:=.seq items n,slots:=c }/\(∀(i:Nat)(p:i<items.size),i<=j->EqAt A.in1 s items[i] x (decide (i=j)))/\R (.ok (.ret (.int j s.toks))) { s with toks:=s.toks+1 }):=by
 intro prog w A R s h
 let[q,g,d,r,os]:=s;let[e,k,h]:=h
 wp_walk using Kb e
 let m:((λi:Int=>if i<0 then max 0 (i+(items.size:Int))else i) ((MB:rf).getD 0))=((0:Nat):Int):=by simp
 let o:((λi:Int=>if i<0 then max 0 (i+(items.size:Int))else i) ((MB:rf).getD (2^63-1)))=2^63-1:=by simp
 rw[m,o]
 exact #[plainId_quiet plain_index_loop _,codeAny_builtin entry_index_loop (by
  rw[LU plain_index_loop _]
  exact qh l items n b c x (2^63-1) j f a _ 0 rfl (K3 _) prog w A R _ #[e,k,h])]
end
end HT
namespace SD
open PySem PySem.Spec PyProof.Rows L2
section
variable{X:Cx}
def G5(to:TD)(t:N7):TD:=λδ M Q=>to δ M λx e=>∃l b,x=.ref l/\e l=MA (.lst b)/\t δ e λf a=>∃c d p,∃j:Nat,f=[d]/\a l=MA (.lst c)/\j<c.length/\Pd a d p/\L4 p=MC/\
 (∀(i:Nat)(y:D),i<=j->c[i]?=MA y->∃q,Pd a y q/\Mj q=MC/\JS q p=decide (i=j))/\Q (.int (j:Int)) a
def II(K:J1):V->r4->Hp->VK->Prop:=λx vs H Q=>∃a b M v d p,∃j:Nat,x=.ref a/\vs=[v]/\NM K H M/\M a=MA (.lst b)/\Rep K H d v/\j<b.length/\Pd M d p/\L4 p=MC/\
 (∀(i:Nat)(y:D),i<=j->b[i]?=MA y->∃q,Pd M y q/\Mj q=MC/\JS q p=decide (i=j))/\Q (.int (j:Int)) H
def Ep(hu:X.A.units+66<Kh):Zq X "list.index" (II X.K):=by
 intro MP s σ H x vs v us Q I y z B;let[a,l,M,v1,d,p,j,ex,C,m,hx,hd,D,E,f,g,q]:=B;subst ex C;cases y;let[G,5,J]:=z.one;let[xs,L,r]:=m _ _ hx;let[c,h,N,O]:=I.list (NX.of L);let[o,h1,h2,n,P]:=N.isList;let[as,R]:=bw I m E hd J;let b:c.length=l.length:=by rw[<-h.length,r.length]
 let[oc,od,S,osl]:=o;cases h2;cases P
 let T:(j:Int)<2^63-1:=by
  rw[Kv]at O
  have:=r.length
  omega
 refine call_meets PySem.F.slot_list_index #[_,h1,rfl] PySem.F.entry_list_index (PySem.F.args_list_index_2 _ _) (HT.qj a c.toArray n od osl G j (by simpa[b]using D) T) #[h1,λi U t=>?_,?_]
 .have k:i<l.length:=by simpa[b]using U
  let[V,g1,W,Y]:=g i l[i] t (J7 k);let[x1,e1,u]:=r.get (J7 k);let[Z,e2,w]:=h.get e1;let[bs,q2]:=bw I m g1 u w
  let e3:c.toArray[i]=Z:=by
   have:=J8.mp e2
   let[_,e]:=this
   simpa using e
  rw[e3,<-Y];let hm:min V.depth p.depth<=63+1:=JT (Nat.min_le_right _ _) (SeqAt.depth_of_shaped f);exact PySem.SeqAt.eqAt_reads _ _ _ _ _ _ _ _ q2 R W (Li f) (by show X.A.units+1+_<Kh;omega)
 .exact #[.int _,H,I.tok _,#[_,rfl],q]
variable{o e1:pv}{to:TD}{t:N7}{apos MT:Pos}
theorem lZ(y:X.A.units+66<Kh)(z:DE X o to)(B:DA X [e1] t)
 (b:Lf o "index" X.env (eval o X.env)=eval o X.env:=by rfl)
 (g:((Kr MT (Jk [e1] X.env)).all (λx=>!x.1)&&(Mf MT (Lb [] X.env)).all (λx=>x.1.isSome)
  && decide ([e1].length+([]:List Mp).length+(if([]:List Mp).isEmpty then 0 else 1)<30))=MC:=by rfl)
 (c:(apos.endLine==MT.line)=MC:=by rfl) (C:Jk [e1] X.env=(MD,eval e1 X.env)::Jk [] X.env:=by rfl) (a:(Kr MT (Jk [] X.env)).any (·.1)=MD:=by rfl) :
 DE X (.Call (.Attribute o "index" apos) [e1] [] MT) (G5 to t):=
 aX (xa PySem.F.plainAttrs_list PySem.F.slot_list_index PySem.F.type_list_index (Ep y) z B b g c C a) λσ H Q D=>by
  let[δ,M,R,h,E,q,k]:=D
  refine #[δ,M,_,h,E,q,λx G v H1 g1 r s e=>?_]
  let[l,I,ex,J,K]:=e
  subst ex
  rw[Rep]at r
  subst r
  let[vs,m,_]:=s _ _ J
  refine #[.inl #[5,vs,NX.of m],δ,G,_,h.mono g1,s,K,λY L us Z N O w f=>?_]
  let[P,d,p,j,S,hx,T,U,n,i,V]:=f
  subst S
  let[u,5,W]:=bP O
  exact #[l,P,L,u,d,p,j,5,5,w,hx,W,T,U,n,i,k _ _ _ _ (g1.trans N) (by rw[Rep]) w V]
end
def OK(w:Wl)(c:Vc):Bool:=decide (l1 w<=la c.1 c.2/\la c.1 c.2<l2 w)
structure Rw(ws:r8)(c:Vc)(r:q_):Prop where
 fs:Fs ws r
 sp:∀k∈r,OK (NH ws k) c=MC
 up:r.Pairwise λa b=>NQ (NH ws b) (NH ws a)=MC
def mF{U V:Wl}{c:Vc}(h1:OK U c=MC)(h2:OK V c=MC):max (l1 U) (l1 V)<min (l2 U) (l2 V):=by let a:=MJ h1;let b:=MJ h2;rw[Int.max_def,Int.min_def];split<;>split<;>omega
section
variable{ws:r8}{c:Vc}(hU:∀w∈ws,NK w)(hF:PF ws)
include hU hF
def qg{fs:q_}(F:Fs ws fs){a b:Int}(d:a∈fs)(e:b∈fs)(sa:OK (NH ws a) c=MC)(f:OK (NH ws b) c=MC)(ne:a≠b):NQ (NH ws b) (NH ws a)=!NQ (NH ws a) (NH ws b):=by let A:=F.b a d;let B:=F.b b e;exact pO (hU _ (aW A.1 A.2).2.2) (hU _ (aW B.1 B.2).2.2) (oC hF F d e ne) (mF sa f)
def CH{fs:q_}(F:Fs ws fs){x y z:Int}(hx:x∈fs)(a:y∈fs)(hz:z∈fs)(d:OK (NH ws x) c=MC)(e:OK (NH ws y) c=MC)(sz:OK (NH ws z) c=MC)(h1:NQ (NH ws x) (NH ws y)=MC)(h2:NQ (NH ws y) (NH ws z)=MC):NQ (NH ws x) (NH ws z)=MC:=by
 let X:=F.b x hx;let Y:=F.b y a;let Z:=F.b z hz;let f:=hU _ (aW X.1 X.2).2.2;let g:=hU _ (aW Y.1 Y.2).2.2;let h:=hU _ (aW Z.1 Z.2).2.2;by_cases e1:x=y
 .rw[e1];exact h2
 by_cases e2:y=z
 .rw[<-e2];exact h1
 by_cases e3:x=z
 .subst e3;have:=qg hU hF F hx a d e e1;rw[h1,h2]at this;cases this
 exact vM f g h (oC hF F hx a e1) (oC hF F a hz e2) (oC hF F hx hz e3) (mF d e) (mF e sz) (mF d sz) h1 h2
def c8(ws:r8)(fs:q_)(k:Int):Nat:=(fs.filter λo=>NQ (NH ws k) (NH ws o)).length
def EB{fs:q_}(F:Fs ws fs)(sp:∀k∈fs,OK (NH ws k) c=MC){a b:Int}(f:a∈fs)(d:b∈fs)(h:NQ (NH ws a) (NH ws b)=MC):c8 ws fs b<c8 ws fs a:=by
 unfold c8;let B:=F.b b d;let g:=hU _ (aW B.1 B.2).2.2
 let nd:(b::fs.filter λo=>NQ (NH ws b) (NH ws o)).Nodup:=by
  refine LC.mpr #[λz=>?_,F.nd.filter _]
  have:=(K1.mp z).2
  rw[xK g]at this;cases this
 have:=nd.length_le_of_subset (l₂:=fs.filter λo=>NQ (NH ws a) (NH ws o)) λx hx=>by
  rcases JM.mp hx with e|hx
  .rw[e];exact K1.mpr #[d,h]
  .obtain⟨h1,h2⟩:=K1.mp hx;exact K1.mpr #[h1,CH hU hF F f d h1 (sp a f) (sp b d) (sp x h1) h h2]
 rw[Jz]at this;omega
def BB{fs g:q_}(F:Fs ws fs)(sp:∀k∈fs,OK (NH ws k) c=MC)(pr:g.Perm fs)(up:g.Pairwise λa b=>(c8 ws fs a:Int)<=(c8 ws fs b:Int)):Rw ws c g:=by
 let h:=F.perm pr;refine #[h,λk i=>sp k (pr.mem_iff.mp i),List.Pairwise.imp_of_mem (λ{a b} d f z=>?_) (up.and h.nd)];let d:=pr.mem_iff.mp d;let f:=pr.mem_iff.mp f;rw[qg hU hF F d f (sp a d) (sp b f) z.2];cases e:NQ (NH ws a) (NH ws b)with
 |false=>rfl
 |true=>
  have:=EB hU hF F sp d f e
  omega
def Rw.uniq{r b:q_}(h:Rw ws c r)(h':Rw ws c b)(d:∀k,k∈r↔k∈b):r=b:=by
 refine List.Perm.eq_of_pairwise (λx y hx f h1 h2=>?_) h.up h'.up ((List.perm_ext_iff_of_nodup h.fs.nd h'.fs.nd).mpr d);by_cases e:x=y
 .exact e
 let a:=(d y).mpr f;have:=qg hU hF h.fs hx a (h.sp x hx) (h.sp y a) e;rw[h1,h2]at this;cases this
def Rw.put{r:q_}{k:Int}(h:Rw ws c r)(F:Fs ws (k::r))(g:OK (NH ws k) c=MC):Rw ws c (r.take (c8 ws r k)++k::r.drop (c8 ws r k)):=by
 let m:k∈k::r:=KO;let i:∀{a},a∈r->a∈k::r:=λh=>K0 _ h;let p:k∉r:=(LC.mp F.nd).1
 let key:∀l:q_,(∀a∈l,a∈r)->l.Pairwise (λa b=>NQ (NH ws b) (NH ws a)=MC)->(∀a∈l.take (c8 ws l k),NQ (NH ws k) (NH ws a)=MC)/\∀a∈l.drop (c8 ws l k),NQ (NH ws a) (NH ws k)=MC:=λl=>by
  induction l with
  |nil=>exact λ_ _=>#[by simp,by simp]
  |cons a l u=>
   intro j up
   let[v,A]:=List.pairwise_cons.mp up
   let f:=j a KO
   let ne:k≠a:=λe=>p (e▸f)
   let[B,C]:=u (λx hx=>j x (K0 _ hx)) A
   cases e:NQ (NH ws k) (NH ws a)with
   |true=>
    let n:c8 ws (a::l) k=c8 ws l k+1:=by unfold c8;rw[List.filter_cons_of_pos ‹e›];rfl
    rw[n,List.take_succ_cons,List.drop_succ_cons]
    refine #[λx hx=>?_,C]
    rcases JM.mp hx with z|z
    .rw[z];exact e
    .exact B x z
   |false=>
    let q:NQ (NH ws a) (NH ws k)=MC:=by rw[qg hU hF F m (i f) g (h.sp a f) ne,e];rfl
    let all:∀x∈a::l,NQ (NH ws x) (NH ws k)=MC:=λx hx=>by
     rcases JM.mp hx with z|z
     .rw[z];exact q
     .have d:=j x hx;exact CH hU hF F (i d) (i f) m (h.sp x d) (h.sp a f) g (v x z) q
    let n:c8 ws (a::l) k=0:=by
     unfold c8
     rw[Lz,List.filter_eq_nil_iff]
     intro x hx
     let d:=j x hx
     have:=qg hU hF F m (i d) g (h.sp x d) (λe=>p (e▸d))
     rw[all x hx]at this
     intro y
     rw[y]at this;cases this
    rw[n]
    exact #[by simp,‹all›]
 let[D,E]:=key r (λ_ h=>h) h.up
 let s:(r.take (c8 ws r k)++k::r.drop (c8 ws r k)).Perm (k::r):=by
  have:=List.perm_middle (a:=k) (l₁:=r.take (c8 ws r k)) (l₂:=r.drop (c8 ws r k))
  rw[LO]at this
  exact this
 refine #[F.perm s,λx hx=>?_,?_]
 .rcases JM.mp (s.mem_iff.mp hx)with e|hx
  .rw[e];exact g
  .exact h.sp x hx
 .have e:=h.up;rw[<-LO (c8 ws r k) r]at e;let[e1,e2,e3]:=List.pairwise_append.mp e;refine List.pairwise_append.mpr #[e1,List.pairwise_cons.mpr #[E,e2],λa t b o=>?_];rcases JM.mp o with z|o
  .rw[z];exact D a t
  .exact e3 a t b o
end
def stk(ws:r8)(c:Vc):Nat->q_
 |0=>[]
 |n+1=>if OK (NH ws (n:Int)) c=MC then(stk ws c n).take (c8 ws (stk ws c n) (n:Int))++(n:Int)::(stk ws c n).drop (c8 ws (stk ws c n) (n:Int))else stk ws c n
def BC{r:q_}{k x:Int}{n:Nat}:x∈r.take n++k::r.drop n↔x=k\/x∈r:=by have:=(List.perm_middle (a:=k) (l₁:=r.take n) (l₂:=r.drop n)).mem_iff (a:=x);rw[LO]at this;rw[this,JM]
theorem jP{ws:r8}{c:Vc}(d:∀w∈ws,NK w)(hF:PF ws):∀n,n<=ws.length->Rw ws c (stk ws c n)/\∀k,k∈stk ws c n↔(0<=k/\k<n)/\OK (NH ws k) c=MC
 |0,_=>#[#[#[List.nodup_nil,by simp[stk]],by simp[stk],.nil],λk=>by simp[stk];omega]
 |n+1,h=>by
  let[S,a]:=jP d hF n ()
  unfold stk
  by_cases e:OK (NH ws (n:Int)) c=MC
  .rw[MF e]
   let f:(n:Int)∉stk ws c n:=λz=>by have:=((a _).mp z).1;omega
   refine #[S.put d hF #[LC.mpr #[f,S.fs.nd],λk g=>?_] e,λk=>?_]
   .rcases JM.mp g with z|z
    .omega
    .exact S.fs.b k z
   .rw[BC,a]
    constructor
    .rintro(z|⟨z,y⟩)
     .rw[z];exact #[(),e]
     .exact #[(),y]
    .rintro⟨z,y⟩
     by_cases q:k=(n:Int)
     .exact .inl q
     .exact .inr #[(),y]
  .rw[ME e]
   refine #[S,λk=>?_]
   rw[a]
   constructor
   .rintro⟨z,y⟩;exact #[(),y]
   .rintro⟨z,y⟩
    refine #[?_,y]
    by_cases q:k=(n:Int)
    .rw[q]at y;exact absurd y e
    .omega
def Na(ws:r8)(ps:List Vc):List (q_):=[]::ps.map λc=>stk ws c ws.length
def EE{ws:r8}{c:Vc}{fs b:q_}(a:∀w∈ws,NK w)(hF:PF ws)(F:Fs ws fs)(d:∀k,k∈fs↔(0<=k/\k<ws.length)/\OK (NH ws k) c=MC)(bk:RS (fs.map λk=>(c8 ws fs k:Int)) fs b):b=stk ws c ws.length:=by let[S,e]:=jP (c:=c) a hF ws.length (Je _);let pr:=bk.perm (J4 ..);refine(BB a hF F (λk f=>((d k).mp f).2) pr bk.up).uniq a hF S λk=>?_;rw[pr.mem_iff,d,e]
def pQ{ps:List Vc}(up:ps.Pairwise N5){u c:Vc}{j:Nat}(f:u∈ps)(g:ps[j]?=MA c):(NV ps u<=j↔la u.1 u.2<=la c.1 c.2)/\(j<NV ps u↔la c.1 c.2<la u.1 u.2):=by
 let[a,b]:=iW f;let[d,b1]:=J8.mp g;rw[J7 b]at a;let a:=Option.some.inj a;let e:=Kf.mp up;rcases LV (NV ps u) j with z|z|z
 .have:=e _ _ b d z;rw[a,b1]at this;unfold N5 at this;unfold la;omega
 .have:u=c:=by rw[<-a,<-b1];simp only[z]
  subst this;omega
 .have:=e _ _ d b z;rw[a,b1]at this;unfold N5 at this;unfold la;omega
def uX{ps:List Vc}(up:ps.Pairwise N5){w:Wl}{c:Vc}{j:Nat}(h1:ea w∈ps)(h2:eb w∈ps)(a:ps[j]?=MA c):(decide (NV ps (ea w)<j+1)&&decide (j+1<=NV ps (eb w)))=OK w c:=by let e1:=(pQ up h1 a).1;let e2:=(pQ up h2 a).2;let b:la (ea w).1 (ea w).2=l1 w:=rfl;let d:la (eb w).1 (eb w).2=l2 w:=rfl;rw[b]at e1;rw[d]at e2;unfold OK;rw[Bool.eq_iff_iff,Kp,ML,ML,ML];omega
def QG(u:D)(cs:sg)(g m r:D):List (Str×D):=[("plot",u),("corners",.tup cs),("guide",g),("most_looks",m),("step_rows",r)]
def gO(ps:List Vc)(ws:r8)(i w:Nat):Bool:=decide (NV ps (ea (NH ws (w:Int)))<i)&&decide (i<=NV ps (eb (NH ws (w:Int))))
def fG(ps:List Vc)(ws:r8)(i j:Nat):q_:=((Jq j).filter (gO ps ws i)).map λk:Nat=>(k:Int)
def vt(ps:List Vc)(ws:r8)(i j:Nat):fG ps ws i (j+1)=fG ps ws i j++if gO ps ws i j=MC then[(j:Int)]else[]:=by
 unfold fG;rw[LQ,List.filter_append,JE]
 congr 1
 cases e:gO ps ws i j<;>simp[e]
def uQ(ps:List Vc)(ws:r8)(i:Nat):Fs ws (fG ps ws i ws.length):=by
 refine #[?_,λk a=>?_]
 .unfold fG List.Nodup;rw[LW];exact((List.nodup_range (n:=ws.length)).filter _).imp λh e=>h ()
 .obtain⟨j,b,rfl⟩:=JO.mp a;have:=Ls.mp (K1.mp b).1;omega
def zq{ps:List Vc}{ws:r8}(up:ps.Pairwise N5)(a:∀w∈ws,ea w∈ps/\eb w∈ps){j:Nat}{c:Vc}(e:ps[j]?=MA c)(k:Int):k∈fG ps ws (j+1) ws.length↔(0<=k/\k<ws.length)/\OK (NH ws k) c=MC:=by
 let key:∀n:Nat,n<ws.length->gO ps ws (j+1) n=OK (NH ws (n:Int)) c:=λn b=>by let[_,_,d]:=aW (ws:=ws) (k:=(n:Int)) () ();exact uX up (a _ d).1 (a _ d).2 e
 unfold fG;constructor
 .intro h;let[n,b,5]:=JO.mp h;let[h1,h2]:=K1.mp b;let h1:=Ls.mp h1;rw[key n h1]at h2;exact #[(),h2]
 .rintro⟨h,s⟩;obtain⟨n,rfl⟩:∃n:Nat,k=(n:Int):=#[k.toNat,()];exact JO.mpr #[n,K1.mpr #[Ls.mpr (),by rw[key n ()];exact s],rfl]
def vR(ps:List Vc)(ws:r8)(n:Nat):fG ps ws 0 n=[]:=by unfold fG;rw[List.map_eq_nil_iff,List.filter_eq_nil_iff];intro w _;unfold gO;simp
def Cc{ws:r8}{ps:List Vc}{i:Nat}{a:q_}(c:∀w∈ws,NK w)(hF:PF ws)(up:ps.Pairwise N5)(d:∀w∈ws,ea w∈ps/\eb w∈ps)(e:i<ps.length+1)(bk:RS ((fG ps ws i ws.length).map λk=>(c8 ws (fG ps ws i ws.length) k:Int)) (fG ps ws i ws.length) a):(Na ws ps)[i]?=MA a:=by
 unfold Na;cases i with
 |zero=>
  have:=(bk.perm (J4 ..)).length_eq
  rw[vR]at this
  rw[Lz.mp this]
  rfl
 |succ j=>
  let b:j<ps.length:=()
  rw[LA,Jf,J7 b]
  rw[EE c hF (uQ ps ws (j+1)) (zq up d (J7 b)) bk]
  rfl
def sf{ws:r8}{ps:List Vc}(a:∀w∈ws,NK w)(hF:PF ws){r:q_}(h:r∈Na ws ps):Fs ws r:=by
 unfold Na at h;rcases JM.mp h with e|h
 .rw[e];exact #[List.nodup_nil,by simp]
 .obtain⟨c,_,rfl⟩:=JO.mp h;exact(jP a hF ws.length (Je _)).1.fs
def qQ{U V:Wl}(b:NK U)(c:NK V)(F:N1 U V)(h1:l1 U<l2 V)(h2:l2 V<l2 U):NQ U V=decide (NS U V<0):=by
 let d:=b.lt;let e:=c.lt;let nz:=F.e2.nz h1 h2;let a:max (l1 U) (l1 V)<min (l2 U) (l2 V):=gX.mpr #[d,h1,(),e];let pr:(¬(0<NO V U/\NS V U<0)/\¬(NO V U<0/\0<NS V U))\/(¬(0<NO U V/\NS U V<0)/\¬(NO U V<0/\0<NS U V)):=F.pr.elim (λz=>.inr (Xw z)) (λz=>.inl (Xw z));rcases JB (l1 U) (l1 V)with h|h|h
 .have n1:=F.e1.nz h ();let q:=within (wa V U) (wJ V U) h () () h2 pr.symm n1 nz;rw[m9 a h,MK];omega
 .rw[qO a h ()]
 .have n3:=F.e3.nz h ();let q:=pF (wJ U V) (wa V U) h () h2 pr n3 nz;rw[nM a h,MK];exact q
def Nw(u v:Wl)(x:Int):Int:=Nb u x*N9 v-Nb v x*N9 u
def Sb(u v:Wl):Int:=(u.2.2.2-u.2.1)*(v.2.2.1-v.1)-(v.2.2.2-v.2.1)*(u.2.2.1-u.1)
def uZ(u v:Wl)(x:Int):Nw v u x=-Nw u v x:=by unfold Nw;omega
section
variable{U V:Wl}(nu:U.1≠U.2.2.1)(nv:V.1≠V.2.2.1)
include nu nv
def DQ(x x1 x2:Int):(x2-x1)*Nw U V x=Nw U V x1*(x2-x)+Nw U V x2*(x-x1):=by unfold Nw Nb N9;rw[ME nu,ME nu,ME nv,ME nv,ME nu,ME nu,ME nv,ME nv];grind
def Ha(x1 x2:Int):(x2-x1)*Sb U V=Nw U V x2-Nw U V x1:=by unfold Nw Nb N9 Sb;rw[ME nu,ME nu,ME nv,ME nv,ME nu,ME nv];grind
def DC:Nw U V U.1=(U.2.2.1-U.1)*NO V U:=by unfold Nw Nb N9 NO sd OA;rw[ME nu,ME nu,ME nv,ME nv];grind
def C8:Nw U V U.2.2.1=(U.2.2.1-U.1)*NS V U:=by unfold Nw Nb N9 NS sd OA;rw[ME nu,ME nu,ME nv,ME nv];grind
end
def qb{a b c d:Int}(h1:0<=b/\b<=20)(h2:0<=d/\d<=20)(h:la a b<=la c d):a<=c:=by unfold la at h;omega
theorem Gi{U V:Wl}(a:NK U)(c:NK V)(F:N1 U V)(f:U.1≠U.2.2.1)(g:V.1≠V.2.2.1)(i:max (l1 U) (l1 V)<min (l2 U) (l2 V))(h:NQ U V=MC) :
 let m:=if l1 V<=l1 U then U.1 else V.1
 let r:=if l2 U<=l2 V then U.2.2.1 else V.2.2.1
 0<=Nw U V m/\0<=Nw U V r/\0<Nw U V m+Nw U V r:=by
 let[s,t,o,u]:=gX.mp i
 let p:0<U.2.2.1-U.1:=by have:=qb a.b a.d (show la U.1 U.2.1<=la U.2.2.1 U.2.2.2 from JU s);omega
 let q:0<V.2.2.1-V.1:=by have:=qb c.b c.d (show la V.1 V.2.1<=la V.2.2.1 V.2.2.2 from JU u);omega
 let v:max (l1 V) (l1 U)<min (l2 V) (l2 U):=by rw[Int.max_comm,Int.min_comm];exact i
 let l:NQ V U=MD:=by rw[pO a c F i,h];rfl
 intro m r
 let A:0<=Nw U V m/\(l1 U≠l1 V->0<Nw U V m):=by
  rcases JB (l1 V) (l1 U)with y|y|y
  .have j:m=U.1:=MF (JU y)
   rw[j,DC f g]
   rw[nM i y]at h
   have:=JC p (MJ h)
   exact #[JU this,λ_=>this]
  .have j:m=U.1:=MF (Lr y)
   let z:NO V U=0:=yi c a y
   rw[j,DC f g,z,Int.mul_zero]
   exact #[(),λne=>absurd y.symm ne]
  .have j:m=V.1:=ME ()
   rw[j,<-Int.neg_neg (Nw U V V.1),<-uZ,DC g f]
   rw[m9 i y]at h
   have:=JA q (MJ h)
   exact #[(),λ_=>()]
 let B:0<=Nw U V r/\(l2 U≠l2 V->0<Nw U V r):=by
  rcases JB (l2 U) (l2 V)with y|y|y
  .have k:r=U.2.2.1:=MF (JU y)
   rw[k,C8 f g]
   rw[qQ c a F.swap o y]at l
   let n:=F.swap.e2.nz o y
   let l:=of_decide_eq_false l
   have:=JC p (():0<NS V U)
   exact #[JU this,λ_=>this]
  .have k:r=U.2.2.1:=MF (Lr y)
   let z:NS V U=0:=nL c a y.symm
   rw[k,C8 f g,z,Int.mul_zero]
   exact #[(),λne=>absurd y ne]
  .have k:r=V.2.2.1:=ME ()
   rw[k,<-Int.neg_neg (Nw U V V.2.2.1),<-uZ,C8 g f]
   rw[qQ a c F t y]at h
   have:=JA q (MJ h)
   exact #[(),λ_=>()]
 exists A.1,B.1
 by_cases e:l1 U=l1 V
 .have:=B.2 λz=>F.ne #[e,z]
  have:=A.1
  omega
 .have:=A.2 e
  have:=B.1
  omega
def Cr{U V:Wl}(i:NK U)(j:NK V)(F:N1 U V)(f:U.1≠U.2.2.1)(g:V.1≠V.2.2.1)(k:max (l1 U) (l1 V)<min (l2 U) (l2 V))(h:NQ U V=MC){x:Int}(x1:U.1<x)(x2:V.1<x)(u:x<=U.2.2.1)(v:x<=V.2.2.1):0<Nw U V x\/(Nw U V x=0/\Sb U V<0):=by
 let[a,b,c]:=Gi i j F f g k h;let l:(if l1 V<=l1 U then U.1 else V.1)<x:=by split<;>assumption
 let n:x<=(if l2 U<=l2 V then U.2.2.1 else V.2.2.1):=by split<;>assumption
 generalize (if l1 V<=l1 U then U.1 else V.1)=m at a c l;generalize (if l2 U<=l2 V then U.2.2.1 else V.2.2.1)=r at b c n;let d:=DQ f g x m r;let o:=Ha f g m r;let w:0<r-m:=()
 let p:=LK b (():0<=x-m);let q:=LK a (():0<=r-x);by_cases z:0<Nw U V r
 .left;let p:=JC z (():0<x-m);exact gE w (by rw[Int.mul_comm,d];omega)
 .have s:Nw U V r=0:=()
  let t:0<Nw U V m:=()
  by_cases e:x=r
  .right;refine #[by rw[e];exact s,lN w ?_];rw[Int.mul_comm,o];omega
  .left;let q:=JC t (():0<r-x);exact gE w (by rw[Int.mul_comm,d];omega)
def FL{U V:Wl}(a:NK U)(f:NK V)(F:N1 U V){c:Vc}(g:Nd c)(i:OK U c=MC)(j:OK V c=MC):Pk U V c.1=NQ U V:=by
 let h:=mF i j;have⟨s,t⟩:=MJ i;have⟨u,v⟩:=MJ j;let z:=qb a.b g.2 (show la U.1 U.2.1<=la c.1 c.2 from s);let A:=qb f.b g.2 (show la V.1 V.2.1<=la c.1 c.2 from u);let m:=qb g.2 a.d (show la c.1 c.2<=la U.2.2.1 U.2.2.2 from JU t);let n:=qb g.2 f.d (show la c.1 c.2<=la V.2.2.1 V.2.2.2 from JU v);by_cases e:c.1=if l1 V<=l1 U then U.1 else V.1
 .rw[e];exact Fg a f F h
 let lt:U.1<c.1/\V.1<c.1:=by
  by_cases y:l1 V<=l1 U
  .rw[MF y]at e;have:=qb f.b a.b (show la V.1 V.2.1<=la U.1 U.2.1 from y);omega
  .rw[ME y]at e;have:=qb a.b f.b (show la U.1 U.2.1<=la V.1 V.2.1 by unfold l1 at y;omega);omega
 let o:U.1≠U.2.2.1:=()
 let p:V.1≠V.2.2.1:=()
 let w:max (l1 V) (l1 U)<min (l2 V) (l2 U):=by rw[Int.max_comm,Int.min_comm];exact h
 let r:decide (U.1=c.1)=MD:=MG ();cases q:NQ U V with
 |true=>
  let k:=Cr a f F o p h q lt.1 lt.2 m n
  unfold Nw Sb at k
  unfold Pk R0
  rw[r]
  rcases k with k|⟨k,l⟩
  .rw[ME ()];exact MI ()
  .rw[MF (),MG ()];rfl
 |false=>
  let x:NQ V U=MC:=by rw[pO a f F h,q];rfl
  let k:=Cr f a F.swap p o w x lt.2 lt.1 n m
  unfold Nw Sb at k
  unfold Pk R0
  rw[r]
  rcases k with k|⟨k,l⟩
  .rw[ME ()];exact MG ()
  .rw[MF (),MI ()];rfl
def gq(g h:Int)(u:Vc):Vc:=(g*u.1-h,g*u.2-h)
def Fq(g h:Int)(us:List Vc):us.map (gp g h)=(us.map (gq g h)).map OE:=by rw[KA];rfl
def rL{g h:Int}(a:0<g){u v:Vc}(e:gq g h u=gq g h v):u=v:=by let e1:=congrArg Prod.fst e;let e2:=congrArg Prod.snd e;exact Prod.ext ((kQ a).mp e1) ((kQ a).mp e2)
def uV{g h:Int}(a:0<g)(us:List Vc)(u:Vc):du (us.map (gq g h)) (gq g h u)=(du us u).map (gq g h):=by
 let e:gq g h u∈us.map (gq g h)↔u∈us:=#[λz=>by let[v,hv,e]:=JO.mp z;rw[<-rL a e];exact hv,λz=>JO.mpr #[u,z,rfl]];unfold du;by_cases z:u∈us
 .rw[MF z,MF (e.mpr z)]
 .rw[ME z,ME (λq=>z (e.mp q)),JE];rfl
def Fw{g h:Int}(G:Gs g h){us:List Vc}(c:∀u∈us,Nd u)(nd:us.Nodup)(l:us.length<64):Xl (us.map (gq g h)):=by
 refine #[by rw[J4];exact l,?_,λv hv=>?_]
 .unfold List.Nodup;rw[LW];exact nd.imp λne e=>ne (rL G.g0 e)
 .obtain⟨u,d,rfl⟩:=JO.mp hv;let B:=(c u d).2;let h1:=G.g0;let h2:=G.g1;let f:=G.h0;let i:=G.h1;let a:g*u.2<=12*20:=Int.mul_le_mul h2 B.2 B.1 ⋯;let b:0<=g*u.2:=LK () B.1;show -500<=g*u.2-h/\g*u.2-h<500;omega
def BI{g h:Int}(G:Gs g h){us:List Vc}{vs:List Vc}(f:∀u∈us,Nd u)(i:vs.Perm (us.map (gq g h)))(up:vs.Pairwise zA):∃ps:List Vc,vs=ps.map (gq g h)/\ps.Perm us/\ps.Pairwise N5:=by
 let j:∀u:Vc,((((gq g h u).1+h)/g,((gq g h u).2+h)/g):Vc)=u:=λu=>by
  let e:∀x:Int,(g*x-h+h)/g=x:=λx=>by rw[Int.sub_add_cancel,Int.mul_ediv_cancel_left _ (by have:=G.g0;omega)]
  exact Prod.ext (e u.1) (e u.2)
 let c:=i.map λv:Vc=>(((v.1+h)/g,(v.2+h)/g):Vc);rw[KA]at c;let e2:us.map ((λv:Vc=>(((v.1+h)/g,(v.2+h)/g):Vc))∘gq g h)=us:=(Lj λu _=>j u).trans (List.map_id' _);rw[e2]at c;let k:vs=(vs.map λv:Vc=>(((v.1+h)/g,(v.2+h)/g):Vc)).map (gq g h):=by rw[KA];refine((Lj λv hv=>?_).trans (List.map_id' _)).symm;let[u,_,5]:=JO.mp (i.mem_iff.mp hv);exact congrArg (gq g h) (j u)
 exists _,k,c;rw[k,LW]at up;refine List.Pairwise.imp_of_mem (λ{a b} l d z=>?_) up;let A:=f a (c.mem_iff.mp l);let B:=f b (c.mem_iff.mp d);let h1:=G.g0;unfold zA gq at z;dsimp only at z;let e1:g*(1000*a.1+a.2)<g*(1000*b.1+b.2):=by rw[Int.mul_add,Int.mul_add,Int.mul_left_comm,Int.mul_left_comm g 1000];omega
 let e3:=Int.lt_of_mul_lt_mul_left e1 (JU h1);let m:=A.2;let b1:=B.2;unfold N5;omega
theorem xx(m:Nat):∀i,i<=m->∀w∈OM m i,(0<=w.1/\w.1<=m)/\(w.2.1=0\/w.2.1=1)/\(0<=w.2.2.1/\w.2.2.1<=m)/\(w.2.2.2=0\/w.2.2.2=1)
 |0,_,w,hw=>by
  let[k,a,5]:=JO.mp hw
  have:=(List.mem_range'_1.mp a)
  unfold N8
  dsimp only
  exact #[#[(),()],.inl rfl,#[(),()],.inr rfl]
 |i+1,h,w,hw=>by
  rcases Jv.mp hw with z|z
  .exact xx m i () w z
  .rcases JM.mp z with rfl|z
   .unfold NZ;dsimp only;exact #[#[(),()],.inl rfl,#[(),()],.inl rfl]
   .obtain rfl:=Ku.mp z
    unfold NZ;dsimp only;exact #[#[(),()],.inr rfl,#[(),()],.inr rfl]
def CN{m:Nat}(k:m<=13){ws:r8}(f:ws.Perm (OM m m)):(Nc ws ws.length).length<64:=by
 have:=(mn ws ws.length).length_le_of_subset (l₂:=(Jq (m+1)).map (λx:Nat=>(((x:Int),0):Vc))++(Jq (m+1)).map λx:Nat=>(((x:Int),1):Vc)) λu g=>by
  let[j,w,_,h,e]:=(dS _).mp g
  let[a,b,c,d]:=xx m m (Je _) w (f.mem_iff.mp (Jg h))
  let key:∀x y:Int,0<=x/\x<=m->y=0\/y=1->((x,y):Vc)∈(Jq (m+1)).map (λx:Nat=>(((x:Int),0):Vc))++(Jq (m+1)).map λx:Nat=>(((x:Int),1):Vc):=λx y hx i=>by
   obtain⟨n,rfl⟩:∃n:Nat,x=(n:Int):=#[x.toNat,()];rcases i with rfl|rfl
   .exact List.mem_append_left _ (JO.mpr #[n,Ls.mpr (),rfl])
   .exact Jt _ (JO.mpr #[n,Ls.mpr (),rfl])
  rcases e with rfl|rfl
  .exact key _ _ a b
  .exact key _ _ c d
 rw[Ke,J4,J4,List.length_range]at this;omega
def Gm{us:List Vc}{i j:Nat}{u:Vc}(h:us.Pairwise N5)(a:us[j]?=MA u)(b:us[i]?=MA u):i=j:=by
 let[c,a]:=J8.mp a;let[d,b]:=J8.mp b;let P:=Kf.mp h;rcases LV i j with y|y|y
 .have:=P i j d c y;rw[b,a]at this;exact absurd this (k8 u)
 .exact y
 .have:=P j i c d y;rw[b,a]at this;exact absurd this (k8 u)
def Dp{us:List Vc}{i j:Nat}{u v:Vc}(h:us.Pairwise N5)(b:us[j]?=MA u)(a:us[i]?=MA v):decide (v=u)=decide (i=j):=by
 rw[MK];constructor
 .intro e;subst e;exact Gm h b a
 .intro e;subst e;rw[b]at a;cases a;rfl
def BL{a c:List Vc}(h:∀k,k∈a↔k∈c)(b:a.Pairwise N5)(d:c.Pairwise N5):a=c:=by
 let nd:∀{l:List Vc},l.Pairwise N5->l.Nodup:=λh=>h.imp λz e=>by subst e;exact k8 _ z
 exact zu ((List.perm_ext_iff_of_nodup (nd b) (nd d)).mpr h) b d
section
variable{ws:r8}{ps:List Vc}(hU:∀w∈ws,NK w)(hF:PF ws)(up:ps.Pairwise N5)(he:∀w∈ws,ea w∈ps/\eb w∈ps)
include hU hF up he
def Ac:(Na ws ps)[ps.length]?=MA []:=by
 unfold Na;cases e:ps.length with
 |zero=>rfl
 |succ j=>
  let a:j<ps.length:=()
  rw[LA,Jf,J7 a]
  show MA (stk ws ps[j] ws.length)=MA []
  let[_,d]:=jP (c:=ps[j]) hU hF ws.length (Je _)
  congr 1
  refine List.eq_nil_iff_forall_not_mem.mpr λk f=>?_
  obtain⟨⟨g,h⟩,s⟩:=(d k).mp f
  let[_,_,b]:=aW g h
  let i:=(MJ s).2
  have:=(pQ up (he _ b).2 (J7 a)).2.mpr i
  have:=(iW (he _ b).2).2
  omega
def AB{i j:Nat}{w:Wl}(hw:ws[i]?=MA w){r:q_}(a:(Na ws ps)[j]?=MA r):(i:Int)∈r↔NV ps (ea w)<j/\j<=NV ps (eb w):=by
 let g:=(J8.mp hw).1;let d:=Jg hw;let[e,_,_]:=aW (ws:=ws) (k:=(i:Int)) () ();rw[Kl,hw]at e;let f:=(Option.some.inj e).symm;unfold Na at a;cases j with
 |zero=>cases a;simp
 |succ j=>
  rw[LA,Jf]at a
  cases b:ps[j]? with
  |none=>rw[b]at a;cases a
  |some c=>
   rw[b]at a
   cases a
   rw[(jP (c:=c) hU hF ws.length (Je _)).2,f,<-uX up (he _ d).1 (he _ d).2 b,Kp,ML,ML]
   omega
end
def xi{b c:Type}(f:b->Option c)(l:List b)(h:∀a∈l,f a=MB):l.filterMap f=[]:=by rw[List.filterMap_eq_nil_iff];exact h
theorem ux{c d:Type}{f g:c->Option d}:∀l:List c,(∀a∈l,f a=g a)->l.filterMap f=l.filterMap g
 |[],_=>rfl
 |a::l,h=>by rw[KG,KG,h a KO,ux l λb e=>h b (K0 _ e)]
def BN{d:Type}(g:Nat->d)(f:Nat->Option d){a b n:Nat}(i:a<=b)(k:b<n)(h:∀j,j<n->f j=if a<j/\j<=b then MA (g j)else MB):(Jq n).filterMap f=(JN (a+1) (b-a)).map g:=by
 let e:Jq n=JN 0 (a+1)++(JN (a+1) (b-a)++JN (b+1) (n-(b+1))):=by
  rw[List.range_eq_range']
  let e1:=List.range'_append_1 (s:=a+1) (m:=b-a) (n:=n-(b+1))
  let e2:=List.range'_append_1 (s:=0) (m:=a+1) (n:=n-(a+1))
  rw[show a+1+(b-a)=b+1 by omega,show b-a+(n-(b+1))=n-(a+1) by omega]at e1
  rw[e1]
  rw[Nat.zero_add,show a+1+(n-(a+1))=n by omega]at e2
  exact e2.symm
 rw[e,List.filterMap_append,List.filterMap_append]
 rw[xi f (JN 0 (a+1)) λj c=>by
  have:=List.mem_range'_1.mp c
  rw[h j (),ME ()]]
 rw[xi f (JN (b+1) _) λj c=>by
  have:=List.mem_range'_1.mp c
  rw[h j (),ME ()]]
 rw[List.nil_append,KD];rw[<-List.filterMap_eq_map];refine ux _ λj c=>?_;have:=List.mem_range'_1.mp c;rw[h j (),MF ()];rfl
def Fy{g h:Int}(a:0<g){us:List Vc}{i j:Nat}{u v:Vc}(k:us.Pairwise N5)(b:us[j]?=MA u)(c:us[i]?=MA v):JS (.tuple [.int (g*v.1-h),.int (g*v.2-h)]) (.tuple [.int (g*u.1-h),.int (g*u.2-h)])=decide (i=j):=by rw[oh a,Dp k b c]
def yW{a:Type}{l:List a}(h:0<l.length):L2.atI l (-1)=l[l.length-1]?:=by
 let e:L2.ixN l.length (-1)=MA (l.length-1):=by
  unfold L2.ixN;rw[ME ⋯,MF ()]
  congr 1
  omega
 unfold L2.atI;rw[e];rfl
section
variable{P:Ju}{w:JV}{K:J1}{mg:Str->Option J3}{base:pq}{x:Str}{st:pe}{N:rq}{k:Nat}
def Pp(C:D->MH->DK->Prop):Nl:=λb M Q=>match b with
 |[a]=>C a M Q
 |_=>False
def eQ{p:Str}{C:D->MH->DK->Prop}(T:Txt K mg x st)(S:NB N [p] (ao st))
 (body:∀(f:pd)(cdv:J3)(A:JP)(outer:List Env)(s:J5)(H:Hp)(E:XK),NL k (A.deeper (Mg x (ao st) s.z f cdv))->
  ∃t,DSs (gJ OT P w K mg base N x (ao st) f cdv A outer s H E).nox (aL st) t/\∀a M Q,C a M Q->t (jA Q) (dw N [a]) M)
 (e:∀(kV b d:J3)(an:Option pd)(cdv ct a:J3),LR (Kc x x (aZ st) (aL st) (ao st) .none kV b d an cdv ct) #[[a],[]]=pure ([p].zip [a]):=by intros;rfl):Cal P w K mg base (k+1) x (Pp C):=by
 refine wC T S (λkV b d an cdv ct us g=>?_) (λc M Q h=>?_) λf cdv A outer s H E i=>?_
 .obtain⟨a,rfl⟩:=yt g
  exact e ..
 .rcases c with _|⟨a,_|⟨w,c⟩⟩
  all_goals first|exact Jy h|rfl
 .obtain⟨t,h,j⟩:=body f cdv A outer s H E i
  refine #[t,h,λc M Q h=>?_]
  rcases c with _|⟨a,_|⟨w,c⟩⟩
  all_goals first|exact Jy h|exact j _ _ _ h
def Ng(C:D->D->MH->DK->Prop):Nl:=λc M Q=>match c with
 |[a,b]=>C a b M Q
 |_=>False
def a9{p q:Str}{C:D->D->MH->DK->Prop}(T:Txt K mg x st)(S:NB N [p,q] (ao st))
 (body:∀(f:pd)(cdv:J3)(A:JP)(outer:List Env)(s:J5)(H:Hp)(E:XK),NL k (A.deeper (Mg x (ao st) s.z f cdv))->
  ∃t,DSs (gJ OT P w K mg base N x (ao st) f cdv A outer s H E).nox (aL st) t/\∀a b M Q,C a b M Q->t (jA Q) (dw N [a,b]) M)
 (g:∀(kV c e:J3)(an:Option pd)(cdv ct a b:J3),LR (Kc x x (aZ st) (aL st) (ao st) .none kV c e an cdv ct) #[[a,b],[]]=pure ([p,q].zip [a,b]):=by intros;rfl):Cal P w K mg base (k+1) x (Ng C):=by
 refine wC T S (λkV c e an cdv ct us i=>?_) (λd M Q h=>?_) λf cdv A outer s H E j=>?_
 .obtain⟨a,b,rfl⟩:=rN i
  exact g ..
 .rcases d with _|⟨a,_|⟨b,_|⟨w,d⟩⟩⟩
  all_goals first|exact Jy h|rfl
 .obtain⟨t,h,l⟩:=body f cdv A outer s H E j
  refine #[t,h,λd M Q h=>?_]
  rcases d with _|⟨a,_|⟨b,_|⟨w,d⟩⟩⟩
  all_goals first|exact Jy h|exact l _ _ _ _ h
def SA(C:D->D->D->MH->DK->Prop):Nl:=λd M Q=>match d with
 |[a,b,c]=>C a b c M Q
 |_=>False
def n4{p q r:Str}{C:D->D->D->MH->DK->Prop}(T:Txt K mg x st)(S:NB N [p,q,r] (ao st))
 (body:∀(f:pd)(cdv:J3)(A:JP)(outer:List Env)(s:J5)(H:Hp)(E:XK),NL k (A.deeper (Mg x (ao st) s.z f cdv))->
  ∃t,DSs (gJ OT P w K mg base N x (ao st) f cdv A outer s H E).nox (aL st) t/\∀a b c M Q,C a b c M Q->t (jA Q) (dw N [a,b,c]) M)
 (i:∀(kV d g:J3)(an:Option pd)(cdv ct a b c:J3),LR (Kc x x (aZ st) (aL st) (ao st) .none kV d g an cdv ct) #[[a,b,c],[]]=pure ([p,q,r].zip [a,b,c]):=by intros;rfl):Cal P w K mg base (k+1) x (SA C):=by
 refine wC T S (λkV d g an cdv ct us j=>?_) (λe M Q h=>?_) λf cdv A outer s H E l=>?_
 .obtain⟨a,b,c,rfl⟩:=GY j
  exact i ..
 .rcases e with _|⟨a,_|⟨b,_|⟨c,_|⟨w,e⟩⟩⟩⟩
  all_goals first|exact Jy h|rfl
 .obtain⟨t,h,m⟩:=body f cdv A outer s H E l
  refine #[t,h,λe M Q h=>?_]
  rcases e with _|⟨a,_|⟨b,_|⟨c,_|⟨w,e⟩⟩⟩⟩
  all_goals first|exact Jy h|exact m _ _ _ _ _ h
def sD4(C:D->D->D->D->MH->DK->Prop):Nl:=λe M Q=>match e with
 |[a,b,c,d]=>C a b c d M Q
 |_=>False
def Hk{p q r t:Str}{C:D->D->D->D->MH->DK->Prop}(T:Txt K mg x st)(S:NB N [p,q,r,t] (ao st))
 (body:∀(f:pd)(cdv:J3)(A:JP)(outer:List Env)(s:J5)(H:Hp)(E:XK),NL k (A.deeper (Mg x (ao st) s.z f cdv))->
  ∃t,DSs (gJ OT P w K mg base N x (ao st) f cdv A outer s H E).nox (aL st) t/\∀a b c d M Q,C a b c d M Q->t (jA Q) (dw N [a,b,c,d]) M)
 (j:∀(kV e i:J3)(an:Option pd)(cdv ct a b c d:J3),LR (Kc x x (aZ st) (aL st) (ao st) .none kV e i an cdv ct) #[[a,b,c,d],[]]=pure ([p,q,r,t].zip [a,b,c,d]):=by intros;rfl):Cal P w K mg base (k+1) x (sD4 C):=by
 refine wC T S (λkV e i an cdv ct us l=>?_) (λg M Q h=>?_) λf cdv A outer s H E m=>?_
 .obtain⟨a,b,c,d,rfl⟩:=Ib l
  exact j ..
 .rcases g with _|⟨a,_|⟨b,_|⟨c,_|⟨d,_|⟨w,g⟩⟩⟩⟩⟩
  all_goals first|exact Jy h|rfl
 .obtain⟨t,h,n⟩:=body f cdv A outer s H E m
  refine #[t,h,λg M Q h=>?_]
  rcases g with _|⟨a,_|⟨b,_|⟨c,_|⟨d,_|⟨w,g⟩⟩⟩⟩⟩
  all_goals first|exact Jy h|exact n _ _ _ _ _ _ h
end
theorem Sh{t:Nu}{B:EndsD}{δ:DS}{M:MH}(h:∀a:EndsD,(∀δ M,B.nx δ M->a.nx δ M)->t a δ M):t B δ M:=h B λ_ _ h=>h
@[elab_as_elim] theorem R4{P:r_->Prop}{n:Nat}{T:r_}(b:T.length=n+1)(h:∀(a:sk)(U:r_),U.length=n->P (a::U)):P T:=by
 cases T with
 |nil=>cases b
 |cons a U=>exact h a U (Nat.succ.inj b)
def lnZ{P:r_->Prop}{T:r_}(b:T.length=0)(h:P []):P T:=by
 cases T with
 |nil=>exact h
 |cons a U=>cases b
@[elab_as_elim] theorem IL{P:r_->Prop}{T:r_}(d:T.length=3)(h:∀a b c,P [a,b,c]):P T:=R4 (P:=P) d λa U d=>R4 (P:=λT=>P (a::T)) d λb U d=>R4 (P:=λT=>P (a::b::T)) d λc U d=>lnZ (P:=λT=>P (a::b::c::T)) d (h a b c)
@[elab_as_elim] theorem Ic{P:r_->Prop}{T:r_}(g:T.length=6)(h:∀a b c d e f,P [a,b,c,d,e,f]):P T:=R4 (P:=P) g λa U g=>R4 (P:=λT=>P (a::T)) g λb U g=>R4 (P:=λT=>P (a::b::T)) g λc U g=>IL (P:=λT=>P (a::b::c::T)) g (h a b c)
@[elab_as_elim] theorem Ij{P:r_->Prop}{T:r_}(i:T.length=7)(h:∀a b c d e f g,P [a,b,c,d,e,f,g]):P T:=R4 (P:=P) i λa U i=>Ic (P:=λT=>P (a::T)) i (h a)
def jh{a:Type}{f:a->D}{l:List a}{i:Nat}{d:D}(h:(l.map f)[i]?=MA d):∃x,l[i]?=MA x/\d=f x:=by
 rw[Jf]at h;cases e:l[i]? with
 |none=>rw[e]at h;cases h
 |some x=>rw[e]at h;cases h;exact #[x,5,rfl]
def Xg{M:MH}{p a:PySem.Addr}{o u:MO}(h:M a=MA u)(b:M p=MB):(av M p o) a=MA u:=by
 let n:a≠p:=λe=>by rw[e,b]at h;cases h
 rw[ak n];exact h
inductive Xu(a b c d:Prop):Prop
 |mk (_:a)(_:b)(_:c)(_:d):Xu a b c d
inductive Zw(a b c d e:Prop):Prop
 |mk (_:a)(_:b)(_:c)(_:d)(_:e):Zw a b c d e
inductive Xt(a b c d e f:Prop):Prop
 |mk (_:a)(_:b)(_:c)(_:d)(_:e)(_:f):Xt a b c d e f
inductive Xs(a b c d e f g:Prop):Prop
 |mk (_:a)(_:b)(_:c)(_:d)(_:e)(_:f)(_:g):Xs a b c d e f g
inductive An8(a b c d e f g h:Prop):Prop
 |mk (_:a)(_:b)(_:c)(_:d)(_:e)(_:f)(_:g)(_:h):An8 a b c d e f g h
inductive An9(a b c d e f g h i:Prop):Prop
 |mk (_:a)(_:b)(_:c)(_:d)(_:e)(_:f)(_:g)(_:h)(_:i):An9 a b c d e f g h i
inductive Rf(a b c d e f g h i j:Prop):Prop
 |mk (_:a)(_:b)(_:c)(_:d)(_:e)(_:f)(_:g)(_:h)(_:i)(_:j):Rf a b c d e f g h i j
inductive RZ{a0 a1:Type}(p:a0->a1->Prop):Prop
 |mk (x0:a0)(x1:a1)(h:p x0 x1):RZ p
inductive RY{a0 a1 a2:Type}(p:a0->a1->a2->Prop):Prop
 |mk (x0:a0)(x1:a1)(x2:a2)(h:p x0 x1 x2):RY p
inductive Xr{a0 a1 a2 a3:Type}(p:a0->a1->a2->a3->Prop):Prop
 |mk (x0:a0)(x1:a1)(x2:a2)(x3:a3)(h:p x0 x1 x2 x3):Xr p
inductive Zt{a0 a1 a2 a3 a4:Type}(p:a0->a1->a2->a3->a4->Prop):Prop
 |mk (x0:a0)(x1:a1)(x2:a2)(x3:a3)(x4:a4)(h:p x0 x1 x2 x3 x4):Zt p
inductive Zs{a0 a1 a2 a3 a4 a5 a6:Type}(p:a0->a1->a2->a3->a4->a5->a6->Prop):Prop
 |mk (x0:a0)(x1:a1)(x2:a2)(x3:a3)(x4:a4)(x5:a5)(x6:a6)(h:p x0 x1 x2 x3 x4 x5 x6):Zs p
end SD
namespace QQ
open PySem PySem.Spec PyProof.Rows L2 SD
def top(i:Nat):pe:=K5.main.body.getD i (.Pass #[0,0,0,0])
abbrev j9:pe:=top 57
abbrev iB:pe:=top 58
abbrev d8:pe:=top 62
abbrev dI:pe:=top 63
abbrev fS:pe:=top 64
abbrev iU:pe:=top 59
abbrev lY:pe:=top 60
abbrev gD:pe:=top 61
abbrev iC:pe:=top 65
abbrev dr:pe:=top 66
abbrev fh:pe:=top 76
abbrev fu:pe:=top 71
abbrev fq:pe:=nV (top 55) 1
abbrev cH:pe:=top 5
abbrev iP:pe:=top 6
abbrev iL:pe:=top 16
abbrev iH:pe:=top 17
abbrev iI:pe:=top 42
abbrev jL:pe:=top 7
abbrev iF:pe:=top 11
abbrev fo:pe:=top 14
abbrev fj:pe:=top 15
abbrev fU:pe:=top 43
abbrev eB:pe:=nV (top 51) 0
abbrev gM:pe:=top 29
abbrev dm:pe:=top 30
abbrev yg:pe:=top 18
abbrev rW:pe:=top 19
abbrev jy:pe:=top 20
abbrev dJ:pe:=top 31
abbrev ft:pe:=top 32
abbrev gU:pe:=top 33
abbrev iX:pe:=top 34
abbrev dG:pe:=top 8
abbrev iJ:pe:=top 9
abbrev fO:pe:=top 35
abbrev cT:pe:=top 37
abbrev f7:pe:=top 13
abbrev d6:pe:=top 38
abbrev oT:pe:=top 22
abbrev iR:pe:=top 12
abbrev iV:pe:=top 23
abbrev iE:pe:=top 26
abbrev ff:pe:=top 27
abbrev fN:pe:=top 39
abbrev dq:pe:=top 40
abbrev dg:pe:=top 44
abbrev fm:pe:=top 24
abbrev bQ:pe:=top 25
abbrev iM:pe:=top 53
abbrev dM:pe:=top 48
abbrev cG:pe:=top 47
abbrev dH:pe:=top 54
abbrev mJ:pe:=top 46
abbrev dn:pe:=nV (top 55) 0
abbrev iK:pe:=top 67
abbrev gr:pe:=top 69
abbrev iQ:pe:=top 70
abbrev gv:pe:=top 68
abbrev fZ:pe:=top 72
abbrev fM:pe:=top 73
abbrev gK:pe:=top 74
abbrev iY:pe:=top 75
abbrev xE:pe:=top 77
local macro_rules | `(tactic| walk_at "sc") => `(tactic| exact #[5, rfl, rfl, by decide, rfl, by decide, by decide])
theorem _root_.SD.Cal.m{P:Ju}{w:JV}{K:J1}{mg:Str->Option J3}{base:pq}{j k:Nat}{x:Str}{sp:Nl}(h:Cal P w K mg base j x sp)(l:j<=k:=by decide):Cal P w K mg base k x sp:=h.mono l
variable(sy s_ ti tp tq:SD.D)(M:SD.MH)(Q:SD.DK)
open SD.Zq
structure Tx(K:J1)(mg:Str->Option J3):Prop where
 ar:Txt K mg "_law_pot" j9
 aM:Txt K mg "_law_take" iB
 a8:Txt K mg "_law_new_spot" d8
 a_:Txt K mg "_law_some_spot" dI
 ba:Txt K mg "_law_square" fS
 bb:Txt K mg "_law_side" iU
 bc:Txt K mg "_law_on" lY
 bp:Txt K mg "_law_apart" gD
 bq:Txt K mg "_law_laid" iC
 bt:Txt K mg "_law_shuts_here" dr
 bI:Txt K mg "_law_squares" fh
 bT:Txt K mg "_law_corners" fu
 bU:Txt K mg "greatest_divisor" cH
 b6:Txt K mg "fraction" iP
 b9:Txt K mg "own_spot" iL
 b_:Txt K mg "own_wall" iH
 cb:Txt K mg "own_plot" iI
 cc:Txt K mg "is_less" jL
 cp:Txt K mg "is_ahead" iF
 c5:Txt K mg "place_among" fo
 c6:Txt K mg "ahead_first" fj
 c_:Txt K mg "corners_of" fU
 dd:Txt K mg "face_ends" gM
 dt:Txt K mg "faces_by_start" dm
 dy:Txt K mg "gap" yg
 dV:Txt K mg "lean" rW
 d_:Txt K mg "side_of" jy
 eh:Txt K mg "is_met_sooner" dJ
 eu:Txt K mg "face_behind" ft
 eH:Txt K mg "ring_from" gU
 eL:Txt K mg "rings_of" iX
 eT:Txt K mg "common_bottom" dG
 e_:Txt K mg "top_over" iJ
 fC:Txt K mg "twice_area" fO
 f_:Txt K mg "outer_and_inner" cT
 f':Txt K mg "earlier_of" f7
 gi:Txt K mg "first_corner" d6
 gw:Txt K mg "spans" oT
 gx:Txt K mg "later_of" iR
 gy:Txt K mg "is_above" iV
 g_:Txt K mg "upper_of" iE
 hH:Txt K mg "upper_below" ff
 hJ:Txt K mg "land_about" fN
 hQ:Txt K mg "lands_of_faces" dq
 hV:Txt K mg "ends_by_number" dg
 hW:Txt K mg "above_table" fm
 hY:Txt K mg "lowest_first" bQ
 h5:Txt K mg "steps_of" iM
 h7:Txt K mg "guide_between" dM
 h_:Txt K mg "guide_by_halving" cG
 ia:Txt K mg "guide_of_step" dH
 i7:Txt K mg "halves" mJ
 i_:Txt K mg "_law_frac" iK
 j_:Txt K mg "_law_given" gr
 ka:Txt K mg "_law_plot" iQ
 ke:Txt K mg "_law_frame" gv
 km:Txt K mg "_law_height" fZ
 kz:Txt K mg "_law_higher" fM
 kS:Txt K mg "_law_stack" gK
 k_:Txt K mg "_law_same" iY
 lb:Txt K mg "law" xE
 fc_lowest_first:v7 K mg "lowest_first" bQ 176
 lm:Mk K mg 176 172
 lg:mg "abs"=MB
 l4:mg "enumerate"=MB
 l_:mg "int"=MB
 ma:mg "len"=MB
 mu:mg "list"=MB
 m_:mg "max"=MB
 nk:mg "min"=MB
 n7:mg "range"=MB
 n_:mg "repr"=MB
 om:mg "sorted"=MB
 ox:mg "tuple"=MB
 oy:mg "zip"=MB
 oD:vY K (cl K "Steps") "steps" "Steps.steps" fq
 o_:wL K mg "Way" "__init__" "Way.__init__" eB
 pa:nY K mg "Steps" (cl K "Steps") "Steps.__init__" dn
 cl_Steps:Cls K (cl K "Steps")
 na_corners:bR K (cl K "Steps") "corners"
 na_guide:bR K (cl K "Steps") "guide"
 na_most_looks:bR K (cl K "Steps") "most_looks"
 na_plot:bR K (cl K "Steps") "plot"
 na_step_rows:bR K (cl K "Steps") "step_rows"
theorem iZ:NB ["_law_script","_law_k","_law_cell"] ["_law_script","_law_k"] (ao j9):=⋯
inductive Px:Prop
 |mk (ns:q_)(k:Int)(_:sy=.rol (Le D.int ns))(_:s_=.int k)(_:0<=k)(_:∀r o,M r=MB->N0 (av M r o) r 0->Q (.ref r) (av M r o))
variable{P:Ju}{w:JV}{K:J1}{mg:Str->Option J3}{base:pq}
def vb(T:Tx K mg):Cal P w K mg base 1 "_law_pot" (Ng Px):=by
 refine a9 (k:=0) T.ar iZ λf _ _ _ s H _ b=>#[_,(aj (aC 2 iZ.nd ai) (aj (br (aJ (cS b.units) (dv 1) (aO b7 rfl T.ma ck (ae (dv 0) af))) (aq (aC 2 iZ.nd (az (dv 0) (dv 1)))) aR) (aq (aB (bD (ae (aO (oo rfl b.units) rfl T.m_ sH (ae (dv 2) (ae (aw bg (nN g9 ai) (dv 2)) af))) (ae (aw fV (dv 2) ai) (ae ai af)))))))),λ_ _ M Q h=>?_];let[ns,k,5,5,n,q]:=h;refine dA (λδ a=>a=M/\δ=[MA (.rol (Le D.int ns)),MA (.int k),MA (.int 0)]) ?_ (λc=>c _ _ #[5,rfl]);rintro δ a ⟨e,rfl⟩;subst a;refine dA (λδ a=>a=M/\∃z:Int,δ=[MA (.rol (Le D.int ns)),MA (.int k),MA (.int z)]) ?_ (λc=>?_);rotate_left
 .exists 7,7,trivial,7;refine bF (λg=>?_) (λ_=>c _ _ #[5,0,rfl]);let i:k<(ns.length:Int):=‹g›
  obtain⟨j,rfl⟩:∃j:Nat,k=(j:Int):=#[k.toNat,()];let l:j<ns.length:=()
  exact #[7,7,.int ns[j],bM (by simp[l]),c _ _ #[5,7]]
 rintro δ a ⟨e,z,rfl⟩;subst a;let m:=Int.fmod_nonneg_of_pos z (show(0:Int)<2147483647 by decide);let d:=Int.fmod_lt_of_pos z (show(0:Int)<2147483647 by decide);exists 7,7,trivial;refine #[7,(show(2147483647:Int)≠0 by decide),NG rfl,λr b=>?_];exact NP (q r _ b #[_,_,_,ag,(),m,d,⋯,⋯])
theorem eP:NB ["_law_pot_here","_law_size","_law_digit","_law_mixed"] ["_law_pot_here","_law_size"] (ao iB):=⋯
inductive PZ:Prop
 |mk (r:pd)(b:Int)(n:Nat)(_:sy=.ref r)(_:s_=.int b)(_:N0 M r n)(_:n<900000)(_:0<b)(_:Bd 8000 b)(_:∀v o,0<=v->v<b->N0 (av M r o) r (n+1)->Q (.int v) (av M r o))
def aH(T:Tx K mg):Cal P w K mg base 1 "_law_take" (Ng PZ):=by
 refine a9 (k:=0) T.aM eP λf _ _ _ s H _ z=>#[_,(aj (br (aJ (gV z.units) (az (dv 0) ai) ai) (aj (aC 2 eP.nd (aw fV (az (dv 0) ai) (dv 1))) (aj (bO (aw gn (az (dv 0) ai) (dv 1)) (oH (dv 0) ai)) (aq (aB (dv 2))))) aR) (aj (bO (aw aQ (az (dv 0) ai) ai) (oH (dv 0) ai)) (aj (aC 3 eP.nd (aw fV (aw aQ (aw aQ (aw aI (az (dv 0) ai) ai) (aw aI (aw aI (az (dv 0) ai) (az (dv 0) ai)) ai)) ai) ai)) (aj (aC 3 eP.nd (aw fV (aw aI (dv 3) (dv 3)) ai)) (aq (aB (aw fV (aw gn (aw fV (aw aI (dv 3) (aw aQ (dv 3) ai)) ai) ai) (dv 1)))))))),λ_ _ M Q h=>?_];obtain⟨r,b,n,rfl,rfl,⟨x,y,c,d,hx,e,g,o,B⟩,p,v,t,q⟩:=h;let a:b≠0:=()
 let l:∀n:Int,0<=n.fmod b/\n.fmod b<b:=λn=>#[Int.fmod_nonneg_of_pos _ v,Int.fmod_lt_of_pos _ v];let i:Bd 64 (c+1):=by show(c+1).natAbs<2^64;omega
 let j:Bd 64 y:=by show y.natAbs<2^64;omega
 exists 7,_,_,d,5,trivial,7;refine bF (λh=>?_) (λh=>?_)
 .exists 7,_,_,d,5,7,a;exists 7,_,_,d,5,7,#[a,t],7,_,_,d,5;let u:0<=Int.fdiv x b:=by rw[K4 _ ()];exact Int.ediv_nonneg hx ()
  exact #[7,NP (q _ _ (l _).1 (l _).2 #[_,_,_,ag,u,e,g,o,()])]
 .have p:∀{m:Int}(n:Int),0<m->m<=2^31->Bd 64 (n.fmod m):=λ{m} n h0 h1=>by
   let C:=Int.fmod_nonneg_of_pos n h0
   let D:=Int.fmod_lt_of_pos n h0
   show(n.fmod m).natAbs<2^64
   omega
  exists 7,_,_,d,5,7,_,_,d,5;exists 7,_,_,ag,5,aK j;refine #[7,_,_,ag,5,7,_,_,ag,5,aK i,B7 (bN ⋯),(show(2147483629:Int)≠0 by decide),?_];refine #[7,7,aK (p _ ⋯ ⋯),(show(2147483587:Int)≠0 by decide),?_];exists 7,7,aK (p _ ⋯ ⋯),(show(2147483563:Int)≠0 by decide),#[⋯,bN ⋯],7,a;exact NP (q _ _ (l _).1 (l _).2 #[_,_,_,ag,hx,e,g,(),()])
theorem kW:NB ["_law_pot_here","_law_wide"] ["_law_pot_here","_law_wide"] (ao d8):=⋯
inductive Nj:Prop
 |mk (r:pd)(n:Nat)(m:Int)(_:sy=.ref r)(_:s_=.int m)(_:N0 M r n)(_:n<800000)(_:(0<m/\m<=10))(_:∀(p:Vc) M',(4<=p.1/\p.1<=13)->(4<=p.2/\p.2<=13)->Kx [r] M M'->N0 M' r (n+2)->Q (gp 6 24 p) M')
def gR(T:Tx K mg):Cal P w K mg base 2 "_law_new_spot" (Ng Nj):=by
 refine a9 (k:=1) T.a8 kW λf _ _ _ s H _ a=>#[_,(aq (aB (aG (ae (aw aI ai (au (aH T).m a (ae (dv 0) (ae (dv 1) af)))) (ae (aw aI ai (au (aH T).m a (ae (dv 0) (ae (dv 1) af)))) af))))),λ_ _ M Q h=>?_];let[r,n,m,5,5,b,o,p,k]:=h;refine #[7,7,r,m,n,5,5,b,(),(),bN (),λx q c d g=>?_];refine #[aK (bN ⋯),7,7,r,m,n+1,5,5,g,(),(),bN (),λy t i j l=>#[aK (bN ⋯),NG rfl,?_]];let e:gp 6 24 (x+4,y+4)=.tup [.int (6*x),.int (6*y)]:=by unfold gp;rw[show 6*(x+4,y+4).1-24=6*x by show 6*(x+4)-24=_;omega,show 6*(x+4,y+4).2-24=6*y by show 6*(y+4)-24=_;omega]
 have:=k (x+4,y+4) _ #[by show 4<=x+4;omega,by show x+4<=13;omega] #[by show 4<=y+4;omega,by show y+4<=13;omega] ((Kx.refl.upd (_)).upd (_)) l;rw[e]at this;exact NP this
theorem jJ:NB ["_law_pot_here","_law_shuts","_law_wide"] ["_law_pot_here","_law_shuts","_law_wide"] (ao dI):=⋯
inductive ON:Prop
 |mk (r l:pd)(n:Nat)(m:Int)(ws:r8)(_:sy=.ref r)(_:s_=.ref l)(_:ti=.int m)(_:r≠l)(_:M l=MA (.lst (ws.map (NI 6 24))))(_:(∀w∈ws,NK w))(_:ws.length<=40)(_:N0 M r n)(_:n<700000)(_:(0<m/\m<=10))(_:∀(p:Vc) M',Nd p->Kx [r] M M'->N0 M' r (n+3)->Q (gp 6 24 p) M')
local macro_rules|`(tactic|walk_at "u")=>`(tactic|try dsimp only[SD.fI,SD.c7,SD.aU,SD.gh,SD.fD,SD.dj,SD.dF,SD.tBD,SD.gm,SD.EndsD.nxt,SD.EndsD.lp])
def kI(T:Tx K mg):Cal P w K mg base 3 "_law_some_spot" (SA ON):=by
 refine n4 (k:=2) T.a_ jJ λf _ _ _ s H _ b=>#[_,(aj (br (oS (xl (aJ (bZ b.units) (dv 1) (bD af)) (rV (aJ (bZ b.units) (au (aH T).m b (ae (dv 0) (ae ai af))) ai)))) (aq (aB (au (gR T).m b (ae (dv 0) (ae (dv 2) af))))) aR) (aq (aB (az (az (dv 1) (au (aH T).m b (ae (dv 0) (ae (aO b7 rfl T.ma ck (ae (dv 1) af)) af)))) (au (aH T).m b (ae (dv 0) (ae ai af))))))),λ_ _ _ M Q h=>?_];let[r,l,n,m,ws,5,5,5,c,C,O,D,R,hn,S,k]:=h;walk_at "u"
 refine #[7,NG rfl,λz t=>?_];let d:∀{G},(av M z G) l=MA (.lst (ws.map (NI 6 24))):=λ{G}=>by rw[ak (ax C t)];exact C
 let F:∀{G},N0 (av M z G) r n:=λ{G}=>R.new t;let I:∀{G},Kx [r] M (av M z G):=λ{G}=>Kx.refl.new t;exists _,_,.lst d (yy 6 24 ws),.lst ag .nil,wH 6 24 ws,5,7;rw[rX];let a:∀{j:MH}{n1:Nat},Kx [r] M j->N0 j r n1->n1<=n+1->fD (si (Ng Nj) (tG (Pz 0) (tG (Pz 2) zG))) { nx:=λx u=>Rx Q .non u,rt:=Rx Q } [MA (.ref r),MA (.ref l),MA (.int m)] j:=λ{j n1} kx q le=>#[7,7,r,n1,m,5,5,q,(),S,λp u p1 p2 y B=>NP (k p u #[(),()] (kx.trans y) (B.le ()))];refine bF (λe=>?_) (λe=>?_)
 .exact a I F ()
 let J:0<ws.length:=by
  cases ws with
  |nil=>simp at e
  |cons w ws=>simp
 refine #[7,r,3,n,5,5,F,(),⋯,bN ⋯,λv o h0 h1 q=>#[7,?_]];let L:=I (G:=.lst []);refine bF (λ_=>a (L.upd (_)) q ()) (λ_=>?_);let i:(av (av M z (.lst [])) r o) l=MA (.lst (ws.map (NI 6 24))):=by rw[ak c.symm];exact d
 let U:Kx [r] M (av (av M z (.lst [])) r o):=L.upd (_);refine #[7,7,7,_,i,r,_,n+1,5,5,q,(),(by rw[J4];omega),bN (by rw[J4];omega),λv2 o2 V N B=>?_];let[w,W,X]:=BQ (g:=6) (h:=24) (ws:=ws) V (by rw[J4]at N;exact N);exists _,_,(by rw[ak c.symm];exact i),X;refine #[7,r,2,n+2,5,5,B,(),⋯,bN ⋯,λv3 o3 b0 b1 Y=>?_];let[p,Z,ep]:=A8 (g:=6) (h:=24) (O w W) b0 b1;exact #[_,ep,NP (k p _ Z ((U.upd (_)).upd (_)) Y)]
theorem dC:NB ["_law_pot_here","_law_wide","_law_x","_law_y","_law_far"] ["_law_pot_here","_law_wide"] (ao fS):=⋯
inductive O9:Prop
 |mk (r:pd)(n:Nat)(m:Int)(_:sy=.ref r)(_:s_=.int m)(_:N0 M r n)(_:n<700000)(_:(0<m/\m<=10))(_:∀(q:pd)(us:List Vc) M',Kx [r] M M'->r≠q->M q=MB->M' q=MA (.lst (us.map (gp 6 24)))->us.length=5->(∀sy∈us,Nd sy)->N0 M' r (n+4)->Q (.ref q) M')
def pA(T:Tx K mg):Cal P w K mg base 3 "_law_square" (Ng O9):=by
 refine a9 (k:=2) T.ba dC λf _ _ _ s H _ d=>#[_,(aj (bO (au (gR T).m d (ae (dv 0) (ae (dv 1) af))) (bj rfl (aA (ay 2 dC.nd) (aA (ay 3 dC.nd) aS)))) (aj (aC 4 dC.nd (aw aI ai (aw aQ ai (au (aH T).m d (ae (dv 0) (ae ai af)))))) (aj (br (aJ (bZ d.units) (au (aH T).m d (ae (dv 0) (ae ai af))) ai) (aq (aB (bD (ae (aG (ae (aw bg (dv 2) (dv 4)) (ae (aw bg (dv 3) (dv 4)) af))) (ae (aG (ae (aw aQ (dv 2) (dv 4)) (ae (aw bg (dv 3) (dv 4)) af))) (ae (aG (ae (aw aQ (dv 2) (dv 4)) (ae (aw aQ (dv 3) (dv 4)) af))) (ae (aG (ae (aw bg (dv 2) (dv 4)) (ae (aw aQ (dv 3) (dv 4)) af))) (ae (aG (ae (aw bg (dv 2) (dv 4)) (ae (aw bg (dv 3) (dv 4)) af))) af)))))))) aR) (aq (aB (bD (ae (aG (ae (aw bg (dv 2) (dv 4)) (ae (dv 3) af))) (ae (aG (ae (dv 2) (ae (aw bg (dv 3) (dv 4)) af))) (ae (aG (ae (aw aQ (dv 2) (dv 4)) (ae (dv 3) af))) (ae (aG (ae (dv 2) (ae (aw aQ (dv 3) (dv 4)) af))) (ae (aG (ae (aw bg (dv 2) (dv 4)) (ae (dv 3) af))) af))))))))))),λ_ _ M Q h=>?_];let[r,n,m,5,5,F,O,G,k]:=h;refine #[7,7,r,n,m,5,5,F,(),G,λp I R S kx J=>?_];exists 7,5,_,7,_,7,5;refine #[7,r,4,n+2,5,5,J,(),⋯,bN ⋯,λf o h0 h1 L=>#[aK (bN ⋯),?_]];refine #[7,r,2,n+3,5,5,L,(),⋯,bN ⋯,λv N U V g=>#[7,?_]];let b:Kx [r] M (av (av I r o) r N):=(kx.upd (_)).upd (_);let l:6*p.1-24-6*(1+f)=6*(p.1-(1+f))-24:=()
 let t:6*p.2-24-6*(1+f)=6*(p.2-(1+f))-24:=()
 let B:6*p.1-24+6*(1+f)=6*(p.1+(1+f))-24:=()
 let C:6*p.2-24+6*(1+f)=6*(p.2+(1+f))-24:=()
 let D:∀(x y:Int),(x=p.1-(1+f)\/x=p.1\/x=p.1+(1+f))->(y=p.2-(1+f)\/y=p.2\/y=p.2+(1+f))->Nd (x,y):=λx y hx W=>by
  refine #[#[?_,?_],#[?_,?_]]
  .show 0<=x;omega
  .show x<=20;omega
  .show 0<=y;omega
  .show y<=20;omega
 refine bF (λ_=>?_) (λ_=>?_)
 .exists 7,7,trivial,7,7,trivial,NG rfl;exists 7,7,7,7,trivial,NG rfl;exists 7,7,7,7,NG rfl;exists 7,7,trivial,7,7,NG rfl;refine #[7,7,trivial,7,7,trivial,NG rfl,NG rfl,λq a=>?_]
  let i:M q=MB:=by
   cases e:M q with
   |none=>rfl
   |some j=>
    by_cases z:q=r
    .subst z;rw[ag]at a;cases a
    .rw[b q j ‹z› e]at a;cases a
  refine NP (k q [(p.1-(1+f),p.2-(1+f)),(p.1+(1+f),p.2-(1+f)),(p.1+(1+f),p.2+(1+f)),(p.1-(1+f),p.2+(1+f)),(p.1-(1+f),p.2-(1+f))] _ (b.new a) (g.ne a) i ?_ rfl ?_ (g.new a))
  .rw[ag];simp only[gp,Ji,Lp];rw[<-l,<-t,<-B,<-C]
  .intro u c;simp only[JM,List.not_mem_nil,or_false]at c;rcases c with rfl|rfl|rfl|rfl|rfl<;>exact D _ _ (_) (_)
 .exists 7,7,trivial,7,NG rfl;exists 7,7,7,trivial,NG rfl;exists 7,7,7,NG rfl;exists 7,7,7,NG rfl;refine #[7,7,trivial,7,NG rfl,NG rfl,λq a=>?_]
  let i:M q=MB:=by
   cases e:M q with
   |none=>rfl
   |some j=>
    by_cases z:q=r
    .subst z;rw[ag]at a;cases a
    .rw[b q j ‹z› e]at a;cases a
  refine NP (k q [(p.1-(1+f),p.2),(p.1,p.2-(1+f)),(p.1+(1+f),p.2),(p.1,p.2+(1+f)),(p.1-(1+f),p.2)] _ (b.new a) (g.ne a) i ?_ rfl ?_ (g.new a))
  .rw[ag];simp only[gp,Ji,Lp];rw[<-l,<-t,<-B,<-C]
  .intro u c;simp only[JM,List.not_mem_nil,or_false]at c;rcases c with rfl|rfl|rfl|rfl|rfl<;>exact D _ _ (_) (_)
theorem cK:NB ["_law_shut","_law_spot","_law_a","_law_b","_law_c","_law_d","_law_way"] ["_law_shut","_law_spot"] (ao iU):=⋯
inductive P8:Prop
 |mk (g h:Int)(w:Wl)(p:Vc)(_:sy=NI g h w)(_:s_=gp g h p)(_:Gs g h)(_:NK w)(_:Nd p)(_:Q (.int (JH (sd w p.1 p.2))) M)
def d3(T:Tx K mg):Cal P w K mg base 1 "_law_side" (Ng P8):=by
 refine a9 (k:=0) T.bb cK λf _ _ _ s H _ e=>#[_,(aj (bO (az (dv 0) ai) (bj rfl (aA (ay 2 cK.nd) (aA (ay 3 cK.nd) aS)))) (aj (bO (az (dv 0) ai) (bj rfl (aA (ay 4 cK.nd) (aA (ay 5 cK.nd) aS)))) (aj (aC 6 cK.nd (aw bg (aw aI (aw bg (dv 4) (dv 2)) (aw bg (az (dv 1) ai) (dv 3))) (aw aI (aw bg (dv 5) (dv 3)) (aw bg (az (dv 1) ai) (dv 2))))) (aq (aB (aw bg (cL Ao rfl T.l_ xP (ae (bV (gV e.units) (dv 6) ai) af)) (cL Ao rfl T.l_ xP (ae (bV (cS e.units) (dv 6) ai) af)))))))),λ_ _ M Q h=>?_];let[g,h,w,p,5,5,G,W,m,k]:=h;let i:=ir G W.a;let j:=ir G W.b;let l:=ir G W.c;let bd:=ir G W.d;exists 7,7,7,5,_,7,_,7,5;exists 7,7,7,5,_,7,_,7,5;exists 7,7,trivial,7,7,7,trivial,aK ((l.sub i).mono ⋯);exists 7,7,trivial,7,7,7,trivial,aK ((bd.sub j).mono ⋯),trivial;exists 7,trivial,7,trivial,trivial
 let e1:∀z:Int,(if decide (0<z)=MC then(1:Int)else 0)-(if decide (z<0)=MC then(1:Int)else 0)=JH z:=λz=>by
  rcases JB z 0 with h|h|h
  .rw[JL h,ME (by simp;omega),MF ‹h›];rfl
  .subst h;rfl
  .rw[JZ h,MF ‹h›,ME (by simp;omega)];rfl
 let e2:=FU g h w.1 w.2.1 w.2.2.1 w.2.2.2 p.1 p.2;unfold OA at e2;let e3:=e1 ((g*w.2.2.1-h-(g*w.1-h))*(g*p.2-h-(g*w.2.1-h))-(g*w.2.2.2-h-(g*w.2.1-h))*(g*p.1-h-(g*w.1-h)));let e4:JH ((g*w.2.2.1-h-(g*w.1-h))*(g*p.2-h-(g*w.2.1-h))-(g*w.2.2.2-h-(g*w.2.1-h))*(g*p.1-h-(g*w.1-h)))=JH (sd w p.1 p.2):=by rw[e2,GI G.g0];rfl
 rw[<-e4,<-e3]at k;exact NP k
theorem wN:NB ["_law_shut","_law_spot"] ["_law_shut","_law_spot"] (ao lY):=⋯
inductive QE:Prop
 |mk (g h:Int)(w:Wl)(p:Vc)(_:sy=NI g h w)(_:s_=gp g h p)(_:Gs g h)(_:NK w)(_:Nd p)(_:Q (.bl (decide (l1 w<=la p.1 p.2)&&(decide (la p.1 p.2<=l2 w)&&decide (sd w p.1 p.2=0)))) M)
def zU(T:Tx K mg):Cal P w K mg base 2 "_law_on" (Ng QE):=by
 refine a9 (k:=1) T.bc wN λf _ _ _ s H _ c=>#[_,(aq (aB (mL (bV (pC c.units) (az (dv 0) ai) (dv 1)) (mL (bV (pC c.units) (dv 1) (az (dv 0) ai)) (pJ (bV (bZ c.units) (au (d3 T).m c (ae (dv 0) (ae (dv 1) af))) ai)))))),λ_ _ M Q h=>?_];let[g,h,w,p,5,5,G,W,i,k]:=h;walk_at "u"
 refine zH (decide (l1 w<=la p.1 p.2)) (decide (la p.1 p.2<=l2 w)&&decide (sd w p.1 p.2=0)) (λK j=>?_) (λ_ K j=>?_) (NP k)
 .exists 7,7,7,[g*w.1-h,g*w.2.1-h],[g*p.1-h,g*p.2-h],5,5;rw[oN G.g0,xk W.b i.2];exact j
 .refine zH (decide (la p.1 p.2<=l2 w)) (decide (sd w p.1 p.2=0)) (λl a=>?_) (λ_ l a=>?_) j
  .exists 7,7,7,[g*p.1-h,g*p.2-h],[g*w.2.2.1-h,g*w.2.2.2-h],5,5;rw[oN G.g0,xk i.2 W.d];exact a
  .exists 7,7,g,h,w,p,5,5,G,W,i;let e:decide (JH (sd w p.1 p.2)=0)=decide (sd w p.1 p.2=0):=by rw[MK];exact Int.sign_eq_zero_iff_zero
   show l (.bl (decide _)) _;rw[e];exact a
theorem cW:NB ["_law_one","_law_other","_law_shut","_law_ends","_law_spot","_law_both"] ["_law_one","_law_other"] (ao gD):=⋯
inductive Oo:Prop
 |mk (g h:Int)(U V:Wl)(_:sy=NI g h U)(_:s_=NI g h V)(_:Gs g h)(_:NK U)(_:NK V)(_:∀b:Bool,(b=MC->N1 U V)->Q (.bl b) M)
def qK(T:Tx K mg):Cal P w K mg base 3 "_law_apart" (Ng Oo):=by
 refine a9 (k:=2) T.bp cW λf cdv A outer s H E o=>#[_,(aj (bJ Jx rfl (aP (bD (ae (aG (ae (dv 0) (ae (dv 1) af))) (ae (aG (ae (dv 1) (ae (dv 0) af))) af)))) (bj rfl (aA (ay 2 cW.nd) (aA (ay 3 cW.nd) aS))) (aq (bJ Jx rfl (aP (dv 3)) (ay 4 cW.nd) (aq (br (oS (jS (eD (au (zU T).m o (ae (dv 2) (ae (dv 4) af)))) (ib (aJ (lL (gA o)) (dv 4) (dv 2) (by with_unfolding_all rfl))))) (aq (aB kh)) aR))))) (aj (aC 5 cW.nd (bV (cS o.units) (aw aI (au (d3 T).m o (ae (dv 0) (ae (az (dv 1) ai) af))) (au (d3 T).m o (ae (dv 0) (ae (az (dv 1) ai) af)))) ai)) (aq (aB (mL (bV (jv o.units) (dv 0) (dv 1)) (pJ (yC (mL (dv 5) (pJ (bV (cS o.units) (aw aI (au (d3 T).m o (ae (dv 1) (ae (az (dv 0) ai) af))) (au (d3 T).m o (ae (dv 1) (ae (az (dv 0) ai) af)))) ai)))))))))),λ_ _ M Q h=>?_];let[g,h,U,V,5,5,G,r,t,k]:=h;refine dA (λδ u=>SD.Sub M u/\(RY λC F n=>δ=[MA (NI g h U),MA (NI g h V),C,F,n,MB])/\(aV U (l1 V) (NO U V)/\aV U (l2 V) (NS U V))/\(aV V (l1 U) (NO V U)/\aV V (l2 U) (NS V U))) ?_ (λhu=>?_);rotate_left
 .refine #[7,7,NG rfl,7,7,NG rfl,NG rfl,λlp R=>#[[.tup [NI g h U,NI g h V],.tup [NI g h V,NI g h U]],ag,?_]];exists λi δ u=>(SD.Sub M u/\u lp=MA (.lst [.tup [NI g h U,NI g h V],.tup [NI g h V,NI g h U]]))/\(RY λC F n=>δ=[MA (NI g h U),MA (NI g h V),C,F,n,MB])/\(0<i->aV U (l1 V) (NO U V)/\aV U (l2 V) (NS U V))/\(1<i->aV V (l1 U) (NO V U)/\aV V (l2 U) (NS V U)),#[#[.new R .refl,ag],#[_,_,7],λz=>absurd z ⋯,λz=>absurd z ⋯],λ_ _ _ _ q=>q.1.2,?_
  .rintro i d δ u Z hd ⟨⟨I,J⟩,⟨C,F,n,rfl⟩,S,p2⟩;let Z:i<2:=Z;let hd:[D.tup [NI g h U,NI g h V],.tup [NI g h V,NI g h U]][i]?=MA d:=hd
   let L:∃A B,d=.tup [NI g h A,NI g h B]/\NK A/\NK B/\((aV A (l1 B) (NO A B)/\aV A (l2 B) (NS A B))->(0<i+1->aV U (l1 V) (NO U V)/\aV U (l2 V) (NS U V))/\(1<i+1->aV V (l1 U) (NO V U)/\aV V (l2 U) (NS V U))):=by
    rcases(():i=0\/i=1)with rfl|rfl
    .cases hd;exact #[U,V,5,r,t,λz=>#[λ_=>z,λy=>absurd y ⋯]]
    .cases hd;exact #[V,U,5,t,r,λz=>#[λ_=>S ⋯,λ_=>z]]
   let[A,B,5,HA,HB,nxt]:=L;exists 7,5,_,7,_,7,5;exists 7,[gp g h (ea B),gp g h (eb B)],5;exists λj δ l=>l=u/\(∃n,δ=[MA (NI g h U),MA (NI g h V),MA (NI g h A),MA (NI g h B),n,MB])/\(0<j->aV A (l1 B) (NO A B))/\(1<j->aV A (l2 B) (NS A B)),#[5,#[_,rfl],λz=>absurd z ⋯,λz=>absurd z ⋯],λ_ _ _ _ _=>rfl,?_
   .rintro j d δ l hj hd ⟨e,⟨n,rfl⟩,W,q2⟩;subst l;let hj:j<2:=hj;let hd:[gp g h (ea B),gp g h (eb B)][j]?=MA d:=hd
    let pk:∃p:Vc,d=gp g h p/\Nd p/\(aV A (la p.1 p.2) (sd A p.1 p.2)->(0<j+1->aV A (l1 B) (NO A B))/\(1<j+1->aV A (l2 B) (NS A B))):=by
     rcases(():j=0\/j=1)with rfl|rfl
     .cases hd;exact #[7,HB.ea,λz=>#[λ_=>z,λy=>absurd y ⋯]]
     .cases hd;exact #[7,HB.eb,λz=>#[λ_=>W ⋯,λ_=>z]]
    let[p,5,hp,X]:=pk;walk_at "u"
    refine yr (decide (l1 A<=la p.1 p.2)&&(decide (la p.1 p.2<=l2 A)&&decide (sd A p.1 p.2=0))) (!(decide (ea A=p)||decide (eb A=p))) (λK v=>#[7,7,g,h,A,p,5,5,G,HA,hp,7,v]) (λ_ K v=>#[7,7,?_]) ?_
    .exists _,_,Pd.of rfl,.inr (Pd.of rfl),5,5,7;rw[LH,LH,List.any_nil,oh G.g0,oh G.g0,Bool.or_false];exact v
    refine bF (λ_=>#[M,I,k MD (λz=>absurd z Js)]) (λO=>?_);refine #[5,#[_,rfl],X (zK HA hp.2 ?_)];let e1:decide (ea A=p)=decide (A.1=p.1/\A.2.1=p.2):=by rw[MK];exact #[λz=>by rw[<-z];exact #[5,rfl],λz=>Prod.ext z.1 z.2]
    let e2:decide (eb A=p)=decide (A.2.2.1=p.1/\A.2.2.2=p.2):=by rw[MK];exact #[λz=>by rw[<-z];exact #[5,rfl],λz=>Prod.ext z.1 z.2]
    let O:=eq_false_of_ne_true O;rw[e1,e2]at O;let key:∀a b c d:Bool,((a&&(b&&c))&&d)=MD->(d&&((a&&b)&&c))=MD:=⋯
    exact key _ _ _ _ O
   .rintro δ l ⟨e,⟨n,rfl⟩,W,q2⟩;subst l;exact #[#[I,J],#[_,_,7],nxt #[W (⋯:0<2),q2 (⋯:1<2)]]
  .rintro δ u ⟨⟨I,_⟩,⟨C,F,n,rfl⟩,S,p2⟩;exact hu _ _ #[I,#[_,_,7],S (⋯:0<2),p2 (⋯:1<2)]
 rintro δ u ⟨I,⟨C,F,n,rfl⟩,⟨e1,e2⟩,⟨e3,e4⟩⟩;exists 7,7,7,g,h,U,ea V,5,5,G,r,t.ea;exists 7,7,7,g,h,U,eb V,5,5,G,r,t.eb,aK (CC _),trivial;let N:∀b:Bool,b=(!PyData.eqv (.tuple [.tuple [.int (g*U.1-h),.int (g*U.2.1-h)],.tuple [.int (g*U.2.2.1-h),.int (g*U.2.2.2-h)]]) (.tuple [.tuple [.int (g*V.1-h),.int (g*V.2.1-h)],.tuple [.int (g*V.2.2.1-h),.int (g*V.2.2.2-h)]]))->b=MC->¬(l1 U=l1 V/\l2 U=l2 V):=λb e z ⟨z1,z2⟩=>by let[a1,a2]:=l7 r.b t.b z1;let[a3,a4]:=l7 r.d t.d z2;rw[e,a1,a2,a3,a4]at z;simp[JS,Kt]at z
 generalize Y:(!PyData.eqv (.tuple [.tuple [.int (g*U.1-h),.int (g*U.2.1-h)],.tuple [.int (g*U.2.2.1-h),.int (g*U.2.2.2-h)]]) (.tuple [.tuple [.int (g*V.1-h),.int (g*V.2.1-h)],.tuple [.int (g*V.2.2.1-h),.int (g*V.2.2.2-h)]]))=b1 at N;walk_at "u"
 refine zH b1 (!(decide (JH (NO U V)*JH (NS U V)<0)&&decide (JH (NO V U)*JH (NS V U)<0))) (λK v=>#[7,7,_,_,Pd.of rfl,Pd.of rfl,5,5,?_]) (λ_ K v=>?_) #[M,I,k _ λz=>?_]
 .rw[<-Y]at v;exact v
 .exact zH (decide (JH (NO U V)*JH (NS U V)<0)) (decide (JH (NO V U)*JH (NS V U)<0)) (λK' x=>#[7,x]) (λ_ K' x=>#[7,7,7,g,h,V,ea U,5,5,G,t,r.ea,7,7,7,g,h,V,eb U,5,5,G,t,r.eb,aK (CC _),trivial,x]) #[7,v]
 .rw[Kp]at z;exists N b1 rfl z.1,e1,e2,e3,e4;have:=z.2;by_cases c1:JH (NO U V)*JH (NS U V)<0
  .by_cases c2:JH (NO V U)*JH (NS V U)<0
   .rw[MI c1,MI c2]at this;cases this
   .exact .inr ()
  .exact .inl ()
theorem eY:NB ["_law_pot_here","_law_shuts","_law_spots","_law_one","_law_other","_law_shut"] ["_law_pot_here","_law_shuts","_law_spots"] (ao iC):=⋯
inductive Pb:Prop
 |mk (r l q:pd)(n:Nat)(ws:r8)(us:List Vc)(_:sy=.ref r)(_:s_=.ref l)(_:ti=.ref q)(_:r≠l)(_:q≠l)(_:q≠r)(_:M l=MA (.lst (ws.map (NI 6 24))))(_:(∀ti∈ws,NK ti))(_:PF ws)(_:ws.length<=30)(_:M q=MA (.lst (us.map (gp 6 24))))(_:(∀sy∈us,Nd sy))(_:us.length<=6)(_:N0 M r n)(_:n<600000)(_:∀(ws':r8) M',Kx [r,l] M M'->M' l=MA (.lst (ws'.map (NI 6 24)))->(∀ti∈ws',NK ti)->PF ws'->ws'.length<=ws.length+5->N0 M' r (n+6)->Q .non M')
def rR(T:Tx K mg):Cal P w K mg base 4 "_law_laid" (SA Pb):=by
 refine n4 (k:=3) T.bq eY λf _ _ _ s H _ X=>#[_,(aq (bJ Jx rfl (EF rfl T.oy (ae (dv 2) (ae (yF (dv 2) (BD ai) AQ) af))) (bj rfl (aA (ay 3 eY.nd) (aA (ay 4 eY.nd) aS))) (aj (aC 5 eY.nd (aG (ae (aO (t7 rfl X.units) rfl T.nk yY (ae (dv 3) (ae (dv 4) af))) (ae (aO (oo rfl X.units) rfl T.m_ sH (ae (dv 3) (ae (dv 4) af))) af)))) (aq (br (oS (jS (aJ (jv X.units) (dv 3) (dv 4)) (ib (aJ (lL (gA X)) kh (bz (NC.of (xs:=["_law_some"]) (js:=[5]) rfl) rfl (aP (dv 1)) (λ_ _ _ _=>aY) (λ_ _ _ _=>(au (qK T).m X (ae (dv 1) (ae (dv 0) af))))) (by with_unfolding_all rfl))))) (aq (cz (e7 (dv 1) (ae (au (aH T).m X (ae (dv 0) (ae (aw aQ (aO b7 rfl T.ma ck (ae (dv 1) af)) ai) af))) (ae (dv 5) af))))) aR))))),λ_ _ _ M Q h=>?_];let[r,l,q,n,ws,us,5,5,5,Z,c0,d0,hl,hU,hF,f0,hq,hB,g0,P0,hn,k]:=h;refine #[7,7,7,_,hq,λq2 C=>?_];rw[wx];let a0:∀{a o},M a=MA o->a≠q2:=λh=>ax h C;let lq:r≠q2:=P0.ne C;exists q,q2,us.map (gp 6 24),(us.drop 1).map (gp 6 24),5,(by rw[ak (a0 hq)];exact hq),ag;let i0:min (us.map (gp 6 24)).length ((us.drop 1).map (gp 6 24)).length<=5:=by simp;omega
 exists λi δ B=>Xr λ(c:r8) (o3 o4 o5:sk)=>An8 (δ=[MA (.ref r),MA (.ref l),MA (.ref q),o3,o4,o5]) (Kx [r,l] M B) (B q2=MA (.lst ((us.drop 1).map (gp 6 24)))) (B l=MA (.lst (c.map (NI 6 24)))) (∀w∈c,NK w) (PF c) (c.length<=ws.length+i) (N0 B r (n+i)),#[ws,_,_,7,Kx.refl.new C,ag,by rw[ak (a0 hl)];exact hl,hU,hF,(),P0.new C],λi δ B _ z=>by let[_,_,_,_,_,kx,h2,_]:=z;exact #[kx q _ (by simp[c0,d0]) hq,h2],?_;rotate_left
 .rintro δ B ⟨c,o3,o4,o5,rfl,kx,h2,F,J,L,G,Y⟩;let G:c.length<=ws.length+min (us.map (gp 6 24)).length ((us.drop 1).map (gp 6 24)).length:=G;let Y:N0 B r (n+min (us.map (gp 6 24)).length ((us.drop 1).map (gp 6 24)).length):=Y;exact NP (k c B kx F J L () (Y.le ()))
 rintro i d δ B hi hd ⟨c,o3,o4,o5,rfl,kx,h2,F,J,L,G,Y⟩;let hi:i<min (us.map (gp 6 24)).length ((us.drop 1).map (gp 6 24)).length:=hi;let hd:((us.map (gp 6 24))[i]?).bind (λd=>(((us.drop 1).map (gp 6 24))[i]?).map λe=>D.tup [d,e])=MA d:=hd;let iu:i<us.length:=by simp at hi;omega
 let iv:1+i<us.length:=by simp at hi;omega
 obtain⟨u,v,rfl,bu,bv⟩:∃u v,d=.tup [gp 6 24 u,gp 6 24 v]/\Nd u/\Nd v:=by refine #[us[i],us[1+i],?_,hB _ (Kj iu),hB _ (Kj iv)];rw[Jf,J7 iu,Jf,List.getElem?_drop,J7 iv]at hd;cases hd;rfl
 exists 7,5,_,7,_,7,5;exists 7,7,[6*u.1-24,6*u.2-24],[6*v.1-24,6*v.2-24],5,5;exists 7,7,[6*u.1-24,6*u.2-24],[6*v.1-24,6*v.2-24],5,5,NG rfl;exists 7,7,_,_,Pd.of rfl,Pd.of rfl,5,5,7;rw[oh ⋯];refine bF (λO=>?_) (λ_=>?_);rotate_left
 .refine pI rfl ?_;exact #[c,_,_,7,kx,h2,F,J,L,(),Y.le ()]
 let O:u≠v:=λz=>by rw[z]at O;simp at O
 let[w,hw,e1,e2]:=Ca (g:=6) (h:=24) ⋯ bu bv O;rw[e1,e2];exists 7,c.map (NI 6 24),F;refine #[by simp;omega,λz hz=>?_];let nz:∀{a o},B a=MA o->a≠z:=λh=>ax h hz;exists λj ys M2=>∃bs:List Bool,ys=bs.map D.bl/\bs.length=j/\(∀(t:Nat)(v:Wl),bs[t]?=MA MC->c[t]?=MA v->N1 w v)/\M2=av B z (.lst ys),#[[],5,5,λt v h=>by simp at h,rfl],?_,?_
 .rintro j ys M2 _ ⟨bs,_,_,_,rfl⟩;show(av B z _) l=_;rw[ak (nz F)];exact F
 .rintro j ys d M2 hj hd ⟨bs,rfl,p,hf,rfl⟩;let hd:(c.map (NI 6 24))[j]?=MA d:=hd;rw[Jf]at hd;cases ev:c[j]? with
  |none=>rw[ev]at hd;cases hd
  |some v=>
   rw[ev]at hd
   cases hd
   exists 7
   dsimp only[SD.b4]
   refine ju ?_
   refine #[7,7,6,24,w,v,5,5,#[⋯,⋯,⋯,⋯],hw,J v (Jg ev),λb hb=>?_]
   refine #[_,.refl,ag,bs++[b],by simp,by simp[p],λt v' R S=>?_,by rw[bE]]
   rcases LV t bs.length with y|y|y
   .rw[JW y]at R;exact hf t v' R S
   .subst y;rw[JR (Je _)]at R;let e0:b=MC:=‹R›
    rw[p,ev]at S;cases S;exact hb e0
   .rw[List.getElem?_eq_none (by simp;omega)]at R;cases R
 rintro ys M2 ⟨bs,rfl,p,hf,rfl⟩;let U:bs.length=c.length:=by rw[p];simp
 let c2:∀{a o},B a=MA o->(av B z (.lst (bs.map D.bl))) a=MA o:=λh=>by rw[ak (nz h)];exact h
 exists _,_,.bl MD,.inl (.lst ag (zJ bs)),5,yH bs,7;rw[Er];let P2:N0 (av B z (.lst (bs.map D.bl))) r (n+i):=Y.new hz;let V:Kx [r,l] M (av B z (.lst (bs.map D.bl))):=kx.new hz;let N:=c2 F;let W:=c2 h2;generalize av B z (.lst (bs.map D.bl))=M3 at P2 V N W ⊢;refine bF (λI=>?_) (λ_=>#[c,_,_,7,V,W,N,J,L,(),P2.le ()]);exists 7,l,7,N;refine #[7,7,_,N,r,_,n+i,5,5,P2,(),(by rw[J4];omega),bN (by rw[J4];omega),λv o h0 h1 P3=>?_];rw[J4]at h1;obtain⟨j,rfl⟩:∃j:Nat,v=(j:Int):=#[v.toNat,()];refine #[7,_,_,j,5,(by rw[ak Z.symm];exact N),(by rw[J4];omega),(by rw[J4];omega),?_];let b0:q2≠l:=λe=>by rw[e]at C;rw[hl]at C;cases C
 refine #[f6 c j w,_,_,7,(V.upd (_)).upd (_),(by rw[ak b0,ak lq.symm];exact W),?_,λx hx=>?_,Eh L λt v hv=>hf t v ?_ hv,?_,P3.upd Z]
 .rw[ag];exact congrArg (λz=>MA (MO.lst z)) (jn (NI 6 24) c j w)
 .have:=(ik c j w).mem_iff.mp hx;rcases JM.mp this with z|z
  .rw[z];exact hw
  .exact J x z
 .have R:t<bs.length:=by rw[U];exact(J8.mp hv).1
  rw[J7 R];let I:bs.any (λb=>b==MD)=MD:=‹I›
  rw[List.any_eq_false]at I;have:=I _ (Kj R);cases e:bs[t]with
  |true=>rfl
  |false=>rw[e]at this;simp at this
 .rw[(ik c j w).length_eq,Jz];omega
theorem bo:NB ["_law_pot_here","_law_most","_law_shuts","_law_wide","_law_k","_law_spots"] ["_law_pot_here","_law_most"] (ao dr):=⋯
inductive OG:Prop
 |mk (r:pd)(n:Nat)(m:Int)(_:sy=.ref r)(_:s_=.int m)(_:(0<=m/\m<=12))(_:N0 M r n)(_:n<100000)(_:∀(l:pd)(ws:r8) M',r≠l->M l=MB->Kx [r] M M'->M' l=MA (.lst (ws.map (NI 6 24)))->(∀w∈ws,NK w)->PF ws->ws.length<=15->N0 M' r (n+400)->Q (.ref l) M')
def jN(T:Tx K mg):Cal P w K mg base 5 "_law_shuts_here" (Ng OG):=by
 refine a9 (k:=4) T.bt bo λf _ _ _ s H _ L=>#[_,(aj (aC 2 bo.nd (bD af)) (aj (aC 3 bo.nd (az (bD (ae ai (ae ai (ae ai (ae ai af))))) (au (aH T).m L (ae (dv 0) (ae ai af))))) (aj (gZ Jx rfl rfl T.n7 (ae (au (aH T).m L (ae (dv 0) (ae (aw aQ (dv 1) ai) af))) af) (ay 4 bo.nd) (aj (d4 5 bo.nd (NC.of (xs:=["_law_j"]) (js:=[0,2,3]) rfl) rfl (fL rfl T.n7 (ae (aw aQ ai (au (aH T).m L (ae (dv 0) (ae ai af)))) af)) (λ_ _ _ _=>aY) (λ_ _ _ _=>(au (kI T).m L (ae (dv 1) (ae (dv 2) (ae (dv 3) af)))))) (aj (br (aJ (bZ L.units) (au (aH T).m L (ae (dv 0) (ae ai af))) ai) (aq (cz (cj (dv 5) (ae (az (dv 5) ai) af)))) aR) (aj (br (aJ (bZ L.units) (au (aH T).m L (ae (dv 0) (ae ai af))) ai) (aq (aC 5 bo.nd (au (pA T).m L (ae (dv 0) (ae (dv 3) af))))) aR) (aq (br (aJ (cS L.units) (aO b7 rfl T.ma ck (ae (dv 2) af)) ai) (aq (cz (au (rR T).m L (ae (dv 0) (ae (dv 2) (ae (dv 5) af)))))) aR)))))) (aq (aB (dv 2)))))),λ_ _ M Q h=>?_];let[r,n,m,5,5,hm,P0,hn,k]:=h;refine #[NG rfl,λl hl=>?_];let g:r≠l:=P0.ne hl;refine #[NG rfl,λz hz=>?_];let v0:r≠z:=(P0.new hl).ne hz;let w0:l≠z:=ax ag hz;refine #[7,r,4,n,5,5,(P0.new hl).new hz,(),⋯,bN ⋯,λv o h0 h1 P1=>?_]
 obtain⟨U,x0,o0⟩:∃U:Int,atI [D.int 3,D.int 4,D.int 6,D.int 10] v=MA (.int U)/\(0<U/\U<=10):=by
  rcases(():v=0\/v=1\/v=2\/v=3)with rfl|rfl|rfl|rfl
  .exact #[3,5,⋯]
  .exact #[4,5,⋯]
  .exact #[6,5,⋯]
  .exact #[10,5,⋯]
 exists _,_,(by rw[ak v0.symm,ag]),x0;refine #[7,7,r,m+1,n+1,5,5,P1,(),(),bN (),λc o2 a0 a1 P2=>?_];let q0:(av (av (av (av M l (.lst [])) z (.lst [.int 3,.int 4,.int 6,.int 10])) r o) r o2) l=MA (.lst (([]:r8).map (NI 6 24))):=by rw[ak g.symm,ak g.symm,ak w0,ag];rfl
 let r0:Kx [r,l] M (av (av (av (av M l (.lst [])) z (.lst [.int 3,.int 4,.int 6,.int 10])) r o) r o2):=(((Kx.refl.new hl).new hz).upd (_)).upd (_);generalize av (av (av (av M l (.lst [])) z (.lst [.int 3,.int 4,.int 6,.int 10])) r o) r o2=M2 at P2 q0 r0 ⊢;exists c.toNat,?_,(),λi δ t=>RY λ(ws:r8) (o4 o5:sk)=>Xs (δ=[MA (.ref r),MA (.int m),MA (.ref l),MA (.int U),o4,o5]) (Kx [r,l] M t) (t l=MA (.lst (ws.map (NI 6 24)))) (∀w∈ws,NK w) (PF ws) (ws.length<=15) (N0 t r (n+2+28*i)),#[[],_,7,r0,q0,λw hw=>absurd hw (_),Ew,⋯,P2],?_
 .rw[Int.toNat_of_nonneg a0]
 rotate_left
 .rintro δ t ⟨ws,o4,o5,rfl,kx,e0,hU,hF,N,P'⟩;refine #[7,NP (k l ws t g hl (λa O R e=>?_) e0 hU hF N (P'.le ()))]
  exact kx a O (by
   intro hm
   rcases JM.mp hm with rfl|hm
   .exact R (_)
   .have:a=l:=‹hm›
    subst this;rw[hl]at e;cases e) e
 rintro i δ t hi ⟨ws,o4,o5,rfl,kx,e0,hU,hF,N,P'⟩;let p1:i<=12:=()
 refine #[7,r,4,n+2+28*i,5,5,P',(),⋯,bN ⋯,λc2 o3 b0 b1 P3=>?_];let f0:(av t r o3) l=MA (.lst (ws.map (NI 6 24))):=by rw[ak g.symm];exact e0
 let V:Kx [r,l] M (av t r o3):=kx.upd (_);generalize av t r o3=M3 at P3 f0 V ⊢;exists 2+c2.toNat,(by rw[show((2+c2.toNat:Nat):Int)=2+c2 by omega]),();refine #[by show 2+c2.toNat<=1000000;omega,λp hp=>?_];let I:r≠p:=P3.ne hp;let W:l≠p:=ax f0 hp;exists λj ys M2=>∃us:List Vc,ys=us.map (gp 6 24)/\us.length=j/\(∀u∈us,Nd u)/\Kx [r,l] M M2/\M2 l=MA (.lst (ws.map (NI 6 24)))/\M2 p=MA (.lst ys)/\N0 M2 r (n+3+28*i+3*j),#[[],5,5,λu hu=>absurd hu (_),V.new hp,by rw[ak W];exact f0,ag,(P3.new hp).le ()],λ_ _ _ _ _=>trivial,?_
 .rintro j ys d M2 hj hd ⟨us,rfl,y0,X,g0,Y,i0,P4⟩;let hj:j<2+c2.toNat:=hj;exists 7;dsimp only[SD.b4];refine ju ?_;refine #[7,7,7,r,l,n+3+28*i+3*j,U,ws,5,5,5,g,Y,hU,(),P4,(),o0,λu M5 bu y Z=>?_];let B:=y p _ ‹I.symm› i0;refine #[M5,.refl,B,us++[u],by simp,by simp[y0],λx hx=>?_,?_,?_,ag,(Z.upd I).le ()]
  .rcases Jv.mp hx with z|z
   .exact X x z
   .have:x=u:=‹z›
    subst this;exact bu
  .intro a O R e;let a1:=g0 a O R e
   let k0:a≠p:=λz=>by
    subst z
    have:=V a O R e
    rw[hp]at this;cases this
   rw[ak k0];exact y a O (λz=>R (by simp at z;simp[z])) a1
  .rw[ak W];exact y l _ ‹g.symm› Y
 rintro ys M4 ⟨us,rfl,F,X,g0,Y,i0,P4⟩;let F:us.length=2+c2.toNat:=F;let P4:N0 M4 r (n+3+28*i+3*(2+c2.toNat)):=P4;let P4:=P4.le (():_<=n+18+28*i);(try dsimp only[SD.aU])
 refine dA (λδ t=>∃(us:List Vc),Xs (δ=[MA (.ref r),MA (.int m),MA (.ref l),MA (.int U),MA (.int (i:Int)),MA (.ref p)]) (Kx [r,l] M t) (t l=MA (.lst (ws.map (NI 6 24)))) (t p=MA (.lst (us.map (gp 6 24)))) (us.length<=6) (∀u∈us,Nd u) (N0 t r (n+19+28*i))) ?_ (λhu=>?_);rotate_left
 .refine #[7,r,2,n+18+28*i,5,5,P4,(),⋯,bN ⋯,λv1 C d0 d1 Z=>#[7,?_]];let S:(av M4 r C) l=MA (.lst (ws.map (NI 6 24))):=by rw[ak g.symm];exact Y
  let B:(av M4 r C) p=MA (.lst (us.map (gp 6 24))):=by rw[ak I.symm];exact i0
  let y:Kx [r,l] M (av M4 r C):=g0.upd (_);generalize av M4 r C=M5 at Z S B y ⊢;let Z:=Z.le (():_<=n+19+28*i);refine bF (λ_=>?_) (λ_=>hu _ _ #[us,5,y,S,B,(),X,Z])
  obtain⟨u0,m0,rfl⟩:∃u0 m0,us=u0::m0:=by
   cases us with
   |nil=>rw[List.length_nil]at F;omega
   |cons a b=>exact #[a,b,rfl]
  refine #[7,p,7,B,7,_,_,B,(show atI _ ((0:Nat):Int)=_ from bM (by rfl)),_,7,B,(by rw[J4];omega),?_];refine hu _ _ #[(u0::m0)++[u0],5,?_,(by rw[ak W];exact S),(by rw[ag,JE];rfl),(by rw[Ke];simp at F ⊢;omega),λx hx=>?_,Z.upd I]
  .intro a O R e
   let k0:a≠p:=λz=>by
    subst z
    have:=V a O R e
    rw[hp]at this;cases this
   rw[ak k0];exact y a O R e
  .rcases Jv.mp hx with z|z
   .exact X x z
   .have:x=u0:=‹z›
    subst this;exact X x (_)
 rintro δ M5 ⟨us,rfl,y,S,B,F,X,Z⟩;refine dA (λδ t=>RZ λ(q:pd) (us:List Vc)=>An9 (δ=[MA (.ref r),MA (.int m),MA (.ref l),MA (.int U),MA (.int (i:Int)),MA (.ref q)]) (r≠q) (l≠q) (Kx [r,l] M t) (t l=MA (.lst (ws.map (NI 6 24)))) (t q=MA (.lst (us.map (gp 6 24)))) (us.length<=6) (∀u∈us,Nd u) (N0 t r (n+24+28*i))) ?_ (λhu=>?_);rotate_left
 .refine #[7,r,4,n+19+28*i,5,5,Z,(),⋯,bN ⋯,λv1 C d0 d1 P6=>#[7,?_]];let G:(av M5 r C) l=MA (.lst (ws.map (NI 6 24))):=by rw[ak g.symm];exact S
  let s0:(av M5 r C) p=MA (.lst (us.map (gp 6 24))):=by rw[ak I.symm];exact B
  let J:Kx [r,l] M (av M5 r C):=y.upd (_);generalize av M5 r C=M6 at P6 G s0 J ⊢;refine bF (λ_=>?_) (λ_=>hu _ _ #[p,us,5,I,W,J,G,s0,F,X,P6.le ()]);refine #[7,7,r,n+20+28*i,U,5,5,P6.le (),(),o0,λq z0 M7 c0 n0 c1 e1 l5 f1 P7=>?_];refine hu _ _ #[q,z0,5,n0,ax G c1,λa O R e=>c0 a O (λz=>R (by simp at z;simp[z])) (J a O R e),c0 l _ ‹g.symm› G,e1,(),f1,P7.le ()]
 rintro δ M6 ⟨q,us,rfl,n0,g1,J,G,i1,F,X,P6⟩;exists 7,_,G,trivial,7;refine bF (λt0=>?_) (λ_=>#[ws,_,7,J,G,hU,hF,N,P6.le ()])
 let t0:ws.length<11:=by
  have:(((ws.map (NI 6 24)).length:Nat):Int)<11:=‹t0›
  rw[J4]at this;omega
 refine #[7,7,7,r,l,q,n+24+28*i,ws,us,5,5,5,g,g1.symm,n0.symm,G,hU,hF,(),i1,X,F,P6,(),λj1 M7 c0 k1 m1 n1 o1 P7=>?_];exact #[j1,_,7,J.trans c0,k1,m1,n1,(),P7.le ()]
theorem bC:NB ["_law_pot_here","_law_most","_law_many","_law_shuts","_law_k","_law_found","_law_shut"] ["_law_pot_here","_law_most"] (ao fh):=⋯
inductive O0:Prop
 |mk (r:pd)(n:Nat)(_:sy=.ref r)(_:s_=.int 13)(_:N0 M r n)(_:n<100000)(_:∀(l:pd)(ws:r8) M',r≠l->M l=MB->Kx [r] M M'->M' l=MA (.lst (ws.map (NI 12 0)))->(∀w∈ws,NK w)->PF ws->ws.length<=40->(Nc ws ws.length).length<64->N0 M' r (n+50)->Q (.ref l) M')
def mV(T:Tx K mg):Cal P w K mg base 2 "_law_squares" (Ng O0):=by
 refine a9 (k:=1) T.bI bC λf _ _ _ s H _ hr=>#[_,(aj (aC 2 bC.nd (aw aQ ai (au (aH T).m hr (ae (dv 0) (ae (aw bg (dv 1) ai) af))))) (aj (d4 3 bC.nd (NC.of (xs:=["_law_k"]) (js:=[]) rfl) rfl (fL rfl T.n7 (ae (aw aQ (dv 2) ai) af)) (λ_ _ _ _=>aY) (λ_ _ _ _=>(aG (ae (aG (ae (aw aI ai (dv 0)) (ae ai af))) (ae (aG (ae (aw aI ai (dv 0)) (ae ai af))) af))))) (aj (gZ Jx rfl rfl T.n7 (ae (dv 2) af) (ay 4 bC.nd) (aq (aC 3 bC.nd (aw aQ (dv 3) (bz (NC.of (xs:=["_law_y"]) (js:=[4]) rfl) rfl (aP (aG (ae ai (ae ai af)))) (λ_ _ _ _=>aY) (λ_ _ _ _=>(aG (ae (aG (ae (aw aI ai (dv 1)) (ae (dv 0) af))) (ae (aG (ae (aw aQ (aw aI ai (dv 1)) ai) (ae (dv 0) af))) af))))))))) (aj (br (aJ (bZ hr.units) (au (aH T).m hr (ae (dv 0) (ae ai af))) ai) (aq (aB (dv 3))) aR) (aj (aC 5 bC.nd (bD af)) (aj (bJ Jx rfl (aP (dv 3)) (ay 6 bC.nd) (aq (cz (e7 (dv 5) (ae (au (aH T).m hr (ae (dv 0) (ae (aw aQ (aO b7 rfl T.ma ck (ae (dv 5) af)) ai) af))) (ae (dv 6) af)))))) (aq (aB (dv 5))))))))),λ_ _ M Q h=>?_];let[r,n,5,5,P0,hn,k]:=h;refine #[7,7,trivial,r,8,n,5,5,P0,(),⋯,bN ⋯,λv o h0 h1 P1=>?_];obtain⟨m,rfl⟩:∃m:Nat,v=(m:Int):=#[v.toNat,()];let a0:Kx [r] M (av M r o):=Kx.refl.upd (_)
 let b0:∀a,(av M r o) a=MB->M a=MB:=λa e=>by
  cases h:M a with
  |none=>rfl
  |some V=>
   by_cases z:a=r
   .subst z;rw[ag]at e;cases e
   .rw[ak z]at e;rw[h]at e;cases e
 generalize av M r o=M1 at P1 a0 b0 ⊢;exists 7,6+m+1,(_),();refine #[by show 6+m+1<=1000000;omega,λp hp=>?_];let n0:r≠p:=P1.ne hp;exists λj y M2=>y=((JN 0 j).map λk:Nat=>N8 (k:Int)).map (NI 12 0)/\M2=av M1 p (.lst y),#[5,rfl],λ_ _ _ _ _=>trivial,?_
 .rintro j y d M2 hj hd ⟨rfl,rfl⟩;let hd:MA (D.int (j:Int))=MA d:=hd;cases hd;exists 7;dsimp only[SD.b4];refine ju ?_;refine #[7,aK (bN ⋯),NG rfl,7,aK (bN ⋯),NG rfl,NG rfl,_,.refl,ag,?_,by rw[bE]];rw[List.range'_concat,JE,JE];simp[Jb]
 rintro y M2 ⟨rfl,rfl⟩;let c0:(av M1 p (.lst (((JN 0 (6+m+1)).map λk:Nat=>N8 (k:Int)).map (NI 12 0)))) p=MA (.lst ((OM (6+m) 0).map (NI 12 0))):=ag;let e0:Kx [r] M (av M1 p (.lst (((JN 0 (6+m+1)).map λk:Nat=>N8 (k:Int)).map (NI 12 0)))):=a0.new hp;let P2:N0 (av M1 p (.lst (((JN 0 (6+m+1)).map λk:Nat=>N8 (k:Int)).map (NI 12 0)))) r (n+1):=P1.new hp;generalize av M1 p (.lst (((JN 0 (6+m+1)).map λk:Nat=>N8 (k:Int)).map (NI 12 0)))=M2 at c0 e0 P2 ⊢;(try dsimp only[SD.aU])
 refine dA (λδ c=>Xr λ(l2:pd) (O W x:sk)=>Xt (δ=[MA (.ref r),MA (.int 13),MA (.int ((6+m:Nat):Int)),MA (.ref l2),O,W,x]) (N0 c r (n+1)) (Kx [r] M c) (c l2=MA (.lst ((OM (6+m) (6+m)).map (NI 12 0)))) (r≠l2) (M l2=MB)) ?_ (λhu=>?_);rotate_left
 .refine #[7,6+m,by simp,(),λi δ c=>Xr λ(l2:pd) (O W x:sk)=>Xt (δ=[MA (.ref r),MA (.int 13),MA (.int ((6+m:Nat):Int)),MA (.ref l2),O,W,x]) (N0 c r (n+1)) (Kx [r] M c) (c l2=MA (.lst ((OM (6+m) i).map (NI 12 0)))) (r≠l2) (M l2=MB),#[p,_,_,_,by simp;rfl,P2,e0,c0,n0,b0 p hp],?_,λδ c h=>hu _ _ h];rintro i δ L X ⟨l2,O,W,x,rfl,P3,B,C,F,f0⟩;exists 7,NG rfl,[.int 0,.int 12],5;refine #[by show 2<=1000000;decide,λq hq=>?_];let o0:l2≠q:=ax C hq;let u0:r≠q:=P3.ne hq;exists λj y M4=>y=(([NZ (i:Int) 0,NZ (i:Int) 1]).take j).map (NI 12 0)/\M4=av L q (.lst y),#[5,rfl],λ_ _ _ _ _=>rfl,?_
  .rintro j y d M4 hj hd ⟨rfl,rfl⟩;let hj:j<2:=hj;let hd:[D.int 0,D.int 12][j]?=MA d:=hd;let[w1,w2]:=Jd (i:Int);rcases(():j=0\/j=1)with rfl|rfl
   .cases hd;exists 7;dsimp only[SD.b4];refine ju ?_;refine #[7,aK (bN ⋯),7,NG rfl,7,aK (bN ⋯),7,NG rfl,NG rfl,_,.refl,ag,?_,by rw[bE]];simp[w1]
   .cases hd;exists 7;dsimp only[SD.b4];refine ju ?_;refine #[7,aK (bN ⋯),7,NG rfl,7,aK (bN ⋯),7,NG rfl,NG rfl,_,.refl,ag,?_,by rw[bE]];simp[w1,w2]
  rintro y M4 ⟨rfl,rfl⟩;let N:=oY (6+m) i;refine #[_,_,(by rw[ak o0];exact C),ag,(by rw[J4,N];show 6+m+1+2*i+2<=Jo;let sz:1000000<=Jo:=NG rfl;omega),λY b=>?_];let b:(av L q (.lst ((([NZ (i:Int) 0,NZ (i:Int) 1]).take 2).map (NI 12 0)))) Y=MB:=b;let Z:=(P3.new (o:=.lst ((([NZ (i:Int) 0,NZ (i:Int) 1]).take 2).map (NI 12 0))) hq);let t:=B.new (o:=.lst ((([NZ (i:Int) 0,NZ (i:Int) 1]).take 2).map (NI 12 0))) hq
  let G:M Y=MB:=by
   cases h:M Y with
   |none=>rfl
   |some V=>
    by_cases z:Y=r
    .subst z;let[_,_,_,e,_]:=Z;rw[b]at e;cases e
    .have:=t Y V ‹z› h;rw[b]at this;cases this
  exact #[Y,_,_,7,Z.new b,t.new b,by rw[ag,OM,JE];rfl,Z.ne b,G]
 rintro δ q0 ⟨l2,O,W,x,rfl,P3,B,C,F,f0⟩;let N:=oY (6+m) (6+m);refine dA (λδ c=>Xu (δ=[MA (.ref r),MA (.int 13),MA (.int ((6+m:Nat):Int)),MA (.ref l2),O,W,x]) (N0 c r (n+2)) (Kx [r] M c) (c l2=MA (.lst ((OM (6+m) (6+m)).map (NI 12 0))))) ?_ (λhu=>?_);rotate_left
 .refine #[7,r,2,n+1,5,5,P3,(),⋯,bN ⋯,λv1 r0 d0 d1 P5=>#[7,?_]];let g:(av q0 r r0) l2=MA (.lst ((OM (6+m) (6+m)).map (NI 12 0))):=by rw[ak F.symm];exact C
  refine bF (λ_=>?_) (λ_=>hu _ _ #[5,P5,B.upd (_),g]);let[q1,q2,q3]:=CB (m:=6+m) () (uY (6+m));exact #[7,NP (k l2 _ _ F f0 (B.upd (_)) g q2 q1 q3 (CN () (.refl _)) (P5.le ()))]
 rintro δ L ⟨rfl,Z,t,b⟩;refine #[NG rfl,λl g=>?_];let I:r≠l:=Z.ne g;let g0:l2≠l:=ax b g
 let G:M l=MB:=by
  cases h:M l with
  |none=>rfl
  |some V=>
   have:=t l V ‹I.symm› h
   rw[g]at this;cases this
 let P5:N0 (av L l (.lst [])) r (n+2):=Z.new g;let R:(av L l (.lst [])) l2=MA (.lst ((OM (6+m) (6+m)).map (NI 12 0))):=by rw[ak g0];exact b
 let i0:(av L l (.lst [])) l=MA (.lst (([]:r8).map (NI 12 0))):=ag;let k0:Kx [r] M (av L l (.lst [])):=t.new g;generalize av L l (.lst [])=M4 at P5 R i0 k0 ⊢;exists 7,_,R,λi δ c=>RZ λ(ws:r8) (x:sk)=>Xt (δ=[MA (.ref r),MA (.int 13),MA (.int ((6+m:Nat):Int)),MA (.ref l2),O,MA (.ref l),x]) (N0 c r (n+2+i)) (Kx [r] M c) (c l2=MA (.lst ((OM (6+m) (6+m)).map (NI 12 0)))) (c l=MA (.lst (ws.map (NI 12 0)))) (ws.Perm ((OM (6+m) (6+m)).take i)),#[[],7,P5,k0,R,i0,by simp],λi δ c _ z=>by let[_,_,_,_,_,h2,_]:=z;exact h2,?_;rotate_left
 .rintro δ c ⟨ws,x,rfl,P',S,m0,u,J⟩;let J:ws.Perm ((OM (6+m) (6+m)).take ((OM (6+m) (6+m)).map (NI 12 0)).length):=J;let P':N0 c r (n+2+((OM (6+m) (6+m)).map (NI 12 0)).length):=P';rw[J4]at J P';rw[List.take_length]at J;let[q1,q2,q3]:=CB (m:=6+m) () (J.trans (uY (6+m)));exact #[7,NP (k l ws _ I G S u q2 q1 q3 (CN () J) (P'.le ()))]
 rintro i d δ M5 X hd ⟨ws,x,rfl,P',S,m0,u,J⟩;let X:i<((OM (6+m) (6+m)).map (NI 12 0)).length:=X;rw[J4]at X;let U:ws.length=i:=by rw[J.length_eq,Lc];omega
 let hd:((OM (6+m) (6+m)).map (NI 12 0))[i]?=MA d:=hd;rw[Jf,J7 X]at hd;cases hd;refine #[7,l,7,u,7,7,_,u,r,(i:Int)+1,n+2+i,5,by simp[U],P',(),(),bN (),λv2 o7 v0 w0 P7=>?_];obtain⟨j,rfl⟩:∃j:Nat,v2=(j:Int):=#[v2.toNat,()];let s0:(av M5 r o7) l=MA (.lst (ws.map (NI 12 0))):=by rw[ak I.symm];exact u
 refine #[7,_,_,j,5,s0,by simp;omega,by simp;omega,?_];refine #[f6 ws j (OM (6+m) (6+m))[i],7,P7.upd I,?_,(by rw[ak g0,ak F.symm];exact m0),(by rw[ag,jn]),?_]
 .intro a V na e;let t0:a≠l:=λz=>by subst z;rw[G]at e;cases e
  rw[ak t0];exact(S.upd (_)) a V na e
 rw[Ml,J7 X];exact(ik ws j _).trans ((List.Perm.cons _ J).trans (List.perm_append_comm (l₁:=[(OM (6+m) (6+m))[i]]) (l₂:=(OM (6+m) (6+m)).take i)))
theorem cU:NB ["_law_shuts","_law_found","_law_shut"] ["_law_shuts"] (ao fu):=⋯
inductive O1:Prop
 |mk (l:pd)(g h:Int)(ws:r8)(_:sy=.ref l)(_:Gs g h)(_:M l=MA (.lst (ws.map (NI g h))))(_:(∀w∈ws,NK w))(_:ws.length<=40)(_:(Nc ws ws.length).length<64)(_:∀(M':MH)(z:pd)(ps:List Vc),SD.Sub M M'->M z=MB->M' z=MA (.lst (ps.map (gp g h)))->ps.Perm (Nc ws ws.length)->ps.Pairwise N5->Q (.ref z) M')
def m4(T:Tx K mg):Cal P w K mg base 1 "_law_corners" (Pp O1):=by
 refine eQ (k:=0) T.bT cU λf _ _ _ s H _ Y=>#[_,(aj (aC 1 cU.nd (bD af)) (aj (bJ Jx rfl (aP (dv 0)) (ay 2 cU.nd) (aq (aC 1 cU.nd (aw aQ (dv 1) (bz (NC.of (xs:=["_law_spot"]) (js:=[1]) rfl) rfl (aP (dv 2)) (λ_ _ _ _=>(ip (aJ (lL (gA Y)) (dv 0) (dv 1) (by with_unfolding_all rfl)))) (λ_ _ _ _=>(dv 0))))))) (aq (aB (aO vq rfl T.om nJ (ae (dv 1) af)))))),λ_ M Q h=>?_];let[l,g,h,ws,5,G,x,O,R,y,k]:=h;refine #[NG rfl,λc p=>?_];refine #[7,ws.map (NI g h),(by show(av M c _) l=_;rw[ak (ax x p)];exact x),?_];exists λj δ m=>RZ λ(c:pd) (B:sk)=>δ=[MA (.ref l),MA (.ref c),B]/\SD.Sub M m/\m c=MA (.lst (((Nc ws j).map (gq g h)).map OE)),#[c,7,.new p .refl,ag],λj δ m _ q=>let⟨_,_,_,s,_⟩:=q;s _ _ x,?_
 .rintro j d δ m hj hd ⟨c,B,rfl,t,b⟩;let hd:(ws.map (NI g h))[j]?=MA d:=hd;rw[Jf]at hd;cases r:ws[j]? with
  |none=>rw[r]at hd;cases hd
  |some w=>
   rw[r]at hd
   cases hd
   let jw:j<ws.length:=(J8.mp r).1
   let Z:=O w (Jg r)
   let lc:=h8 ws j
   let ne:gq g h (ea w)≠gq g h (eb w):=λe=>Z.eab (rL G.g0 e)
   let e:(Nc ws (j+1)).map (gq g h)=du (du ((Nc ws j).map (gq g h)) (gq g h (ea w))) (gq g h (eb w)):=by
    rw[uV G.g0,uV G.g0]
    show(match ws[j]? with|some w=>du (du (Nc ws j) (ea w)) (eb w)|none=>Nc ws j).map (gq g h)=_
    rw[r]
   rw[e]
   let lq:((Nc ws j).map (gq g h)).length<=2*j:=by rw[J4];exact lc
   clear e
   generalize (Nc ws j).map (gq g h)=us at b lq ⊢
   refine #[7,7,[OE (gq g h (ea w)),OE (gq g h (eb w))],5,lh (λC=>if C=0 then(if gq g h (ea w)∈us then MB else MA (OE (gq g h (ea w))))else(if gq g h (eb w)∈us then MB else MA (OE (gq g h (eb w))))) (NG rfl) (λ_ _ _=>rfl) ?_ (λF i=>?_)]
   .intro a d M6 S hd I;let S:a<2:=S
    obtain⟨u,rfl,U⟩:∃u,d=OE u/\(if a=0 then(if gq g h (ea w)∈us then MB else MA (OE (gq g h (ea w))))else(if gq g h (eb w)∈us then MB else MA (OE (gq g h (eb w)))))=(if u∈us then MB else MA (OE u)):=by
     let hd:([OE (gq g h (ea w)),OE (gq g h (eb w))]:sg)[a]?=MA d:=hd;rcases(():a=0\/a=1)with rfl|rfl
     .cases hd;exact #[7,rfl]
     .cases hd;exact #[7,rfl]
    refine #[7,λK n=>?_,λv hv K n=>?_]
    .rw[U]at n;refine #[7,7,D3 u _ _ (I _ _ b) #[7,?_]];by_cases h:u∈us
     .rw[MF h]at n;rw[MI h];exact n
     .rw[ME h]at n;rw[MG h];exact n
    .rw[U]at hv;by_cases h:u∈us
     .rw[MF h]at hv;cases hv
     .rw[ME h]at hv;cases hv;exact #[7,n _ .refl]
   .have J:∀{G},(av m F G) c=MA (.lst (us.map OE)):=λ{G}=>by rw[ak (ax b i)];exact b
    let V:=List.length_filterMap_le (λC:Nat=>if C=0 then(if gq g h (ea w)∈us then MB else MA (OE (gq g h (ea w))))else(if gq g h (eb w)∈us then MB else MA (OE (gq g h (eb w))))) (Jq 2);rw[List.length_range]at V;refine #[_,_,J,ag,?_,λq hq=>#[q,7,.new hq (.new i t),?_]]
    .have sz:1000000<=Jo:=NG rfl;rw[J4];exact JT (Nat.add_le_add_left V _) ()
    .rw[ag];exact congrArg (λz=>MA (MO.lst z)) (AM us _ _ ne)
 .rintro δ m ⟨c,B,rfl,t,b⟩;let b:m c=MA (.lst (((Nc ws (ws.map (NI g h)).length).map (gq g h)).map OE)):=b;rw[J4]at b;let W:∀u∈Nc ws ws.length,Nd u:=zW O;refine #[7,_,b,Fw G W (mn ws _) y,λz vs X pm up=>?_];let[ps,5,L,N]:=BI G W pm up;exact NP (k _ z ps (.new X t) (by cases e:M z with|none=>rfl|some o=>have:=t _ _ e;rw[X]at this;cases this) (by rw[ag,Fq]) L N)
theorem mE:NB ["self"] ["self"] (ao fq):=⋯
def cR(K:J1):Nl:=λe M Q=>match e with
 |[s]=>∃(a z:pd) (fs:List (Str×D)) (d:rp) (b:List (q_)),s=.ref a/\M a=MA (dh (cl K "Steps") fs)/\fs.lookup ("step_rows":Str)=MA (.ref z)/\M z=MA (.lst (d.map D.ref))/\OW M d b/\b.length<=100/\(∀r∈b,r.length<=40)/\
  ∀(c:MH)(p:pd)(bs:rp),SD.Sub M c->c p=MA (.lst (bs.map D.ref))->OW c bs b->Q (.ref p) c
 |_=>False
theorem lK(K:J1):∀ds M Q,(cR K) ds M Q->ds.length=1:=λds M Q h=>by
 unfold cR at h;split at h
 .rfl
 .exact h.elim
def mX(T:Tx K mg):wG P w K mg base 1 (cl K "Steps") "steps" (cR K):=by
 refine Ir (k:=0) (N:=["self"]) (ps:=["self"]) T.oD mE (λ_ _ _ _ _ _ us x=>by let[_,5]:=SD.yt x;rfl) (lK K) λf _ _ _ s H _ Y=>#[_,(aq (aB (bz (NC.of (xs:=["row"]) (js:=[]) rfl) rfl (aP (eZ (dv 0))) (λ_ _ _ _=>aY) (λ_ _ _ _=>(cL (mj rfl) rfl T.mu k7 (ae (dv 0) af)))))),λZ M Q h=>?r]
 case r=>
  unfold cR at h
  split at h
  case h_2=>exact h.elim
  let[a,z,fs,t,g,5,R,x,G,y,hn,S,k]:=h
  let U:(t.map D.ref).length=g.length:=by rw[J4,y.1]
  refine #[7,a,_,fs,7,R,T.cl_Steps,T.na_step_rows,x,t.map D.ref,G,by show(t.map D.ref).length<=1000000;omega,λp I=>?_]
  exists λi u b=>∃bs:rp,bs.length=i/\u=bs.map D.ref/\SD.Sub M b/\b p=MA (.lst u)/\p∉bs/\OW b bs (g.take i),#[[],5,5,.new I .refl,ag,by simp,.nil],λi u b _ q=>?_,?_
  .obtain⟨bs,_,_,j,_⟩:=q;exact j _ _ G
  .rintro i u d b hi hd ⟨bs,J,rfl,j,e,B,n⟩;let[V,v,5]:=jh hd;let L:i<g.length:=by rw[<-y.1];exact(J8.mp v).1
   let O:=J7 L;let C:=j _ _ (y.2 i V _ v O);let rl:=S _ (Jg O);exists 7;dsimp only[SD.b4];refine ju ?_;refine #[7,.inl #[g[i].map D.int,C,λq F=>?_]];let m:p≠q:=ax e F;let W:∀c (l:sg) o,c≠p->b c=MA (.lst l)->(av (av b q o) p (.lst (bs.map D.ref++[.ref q]))) c=MA (.lst l):=λc l o h1 h=>by rw[ak h1,ak (ax h F)];exact h
   exists _,.refl,by rw[ak m];exact e,bs++[q],by simp[J],by simp,λc o h=>?_,ag,?_
   .rw[ak (ax h I),ak (ax (j _ _ h) F)];exact j _ _ h
   .simp only[Jv,Ku,not_or];exact #[B,m]
   .rw[List.take_succ_eq_append_getElem L];exact(n.to λc l X h=>W c l _ (λz=>B (z▸X)) h).more (by rw[ak m.symm,ag])
  .rintro u b ⟨bs,J,rfl,j,e,B,n⟩;have:g.take (t.map D.ref).length=g:=by rw[U,List.take_length]
   let n:OW b bs (g.take (t.map D.ref).length):=n;rw[this]at n;exact NP (k b p bs j e n)
theorem dP:NB ["one","other"] ["one","other"] (ao cH):=⋯
inductive Nt:Prop
 |mk (a b:Nat)(_:sy=.int (a:Int))(_:s_=.int (b:Int))(_:Q (.int ((LN a b:Nat):Int)) M)
def d7(T:Tx K mg):Cal P w K mg base 1 "greatest_divisor" (Ng Nt):=by
 refine a9 (k:=0) T.bU dP λf _ _ _ s H _ i=>#[_,(aj (gu Jx (aJ (jv i.units) (dv 1) ai) (aq (iD 0 1 rfl dP.nd (ae (dv 1) (ae (aw fV (dv 0) (dv 1)) af))))) (aq (aB (dv 0)))),λ_ _ M Q h=>?_];let[a,b,5,5,q]:=h;exists λm δ g=>g=M/\∃x y:Nat,δ=[MA (.int x),MA (.int y)]/\LN x y=LN a b/\m=y,#[7,_,7,5,rfl];rintro m δ g ⟨rfl,x,y,rfl,c,j⟩;exists 7,7;refine bF (λh=>?_) (λh=>?_)
 .have d:(y:Int)≠0:=‹h›
  exists 7,7,7,d,_,7;let e:0<y:=()
  refine #[x%y,by rw[j];exact Nat.mod_lt _ e,5,y,x%y,?_,?_,rfl]
  .rw[<-Ma.u9];rfl
  .rw[<-c,Nat.gcd_comm x y,Nat.gcd_rec y x,Nat.gcd_comm]
 .have d:y=0:=‹h›
  subst d;rw[Nat.gcd_zero_right]at c;subst c;exact #[7,NP q]
theorem gG:NB ["top","bottom","divisor"] ["top","bottom"] (ao iP):=⋯
inductive Pj:Prop
 |mk (t:_)(b:_)(_:sy=.int t)(_:s_=.int b)(_:b≠0)(_:Bd 8000 t)(_:Bd 8000 b)(_:Q (My (Rat.divInt t b)) M)
def mh(T:Tx K mg):Cal P w K mg base 2 "fraction" (Ng Pj):=by
 refine a9 (k:=1) T.b6 gG λf _ _ _ s H _ e=>#[_,(aj (br (aJ (bZ e.units) (dv 1) ai) (aq yM) aR) (aj (aC 2 gG.nd (au (d7 T).m e (ae (aO tD rfl T.lg sW (ae (dv 0) af)) (ae (aO tD rfl T.lg sW (ae (dv 1) af)) af)))) (aj (br (aJ (cS e.units) (dv 1) ai) (aq (aC 2 gG.nd (nN g9 (dv 2)))) aR) (aq (aB (aG (ae (aw gn (dv 0) (dv 2)) (ae (aw gn (dv 1) (dv 2)) af)))))))),λ_ _ M Q h=>?_];let[t,b,5,5,i,j,g,q]:=h;let l:=Ma.fv (t:=t) i;let a:Bd 8000 ((LN t.natAbs b.natAbs:Nat):Int):=g.of_le ‹Nat.gcd_le_right t.natAbs (():0<b.natAbs)›;refine #[7,7,pI (MG i) ?_];exists 7,7,t.natAbs,b.natAbs,5,5;exists 7,trivial,7;refine bF (λh=>?_) (λh=>?_)
 .have c:b<0:=‹h›
  let[e1,e2]:=Ma.AE (t:=t) c;exists 7,7,7,#[(),a.neg],7,7,#[(),a.neg],NG rfl;dsimp only;rw[e1,e2];exact NP q
 .have d:0<b:=by
   have:¬b<0:=‹h›
   omega
  let[e1,e2]:=Ma.u7 (t:=t) d;exists 7,7,#[(),a],7,7,#[(),a],NG rfl;dsimp only;rw[e1,e2];exact NP q
theorem gB:NB ["spot","x","y"] ["spot"] (ao iL):=⋯
inductive PX:Prop
 |mk (a b:Rat)(_:sy=Mx a b)(_:MZ 8000 a)(_:MZ 8000 b)(_:Q (Mx a b) M)
def iG(T:Tx K mg):Cal P w K mg base 3 "own_spot" (Pp PX):=by refine eQ (k:=2) T.b9 gB λf _ _ _ s H _ c=>#[_,(aj (bO (dv 0) (bj rfl (aA (ay 1 gB.nd) (aA (ay 2 gB.nd) aS)))) (aq (aB (aG (ae (au (mh T).m c (ae (az (dv 1) ai) (ae (az (dv 1) ai) af))) (ae (au (mh T).m c (ae (az (dv 2) ai) (ae (az (dv 2) ai) af))) af)))))),λ_ M Q h=>?_];let[a,b,5,h1,h2,k]:=h;exists 7,7,5,_,7,_,7,5;exists 7,7,7,7,a.num,(a.den:Int),5,5,Mz a,h1.1,h1.2;exists 7,7,7,7,b.num,(b.den:Int),5,5,Mz b,h2.1,h2.2,NG rfl;rw[Rat.num_divInt_den,Rat.num_divInt_den];exact NP k
theorem p7:NB ["wall"] ["wall"] (ao iH):=⋯
inductive PV:Prop
 |mk (a b c d:Rat)(_:sy=MX a b c d)(_:MZ 8000 a)(_:MZ 8000 b)(_:MZ 8000 c)(_:MZ 8000 d)(_:Q (MX a b c d) M)
def my(T:Tx K mg):Cal P w K mg base 4 "own_wall" (Pp PV):=by refine eQ (k:=3) T.b_ p7 λf _ _ _ s H _ e=>#[_,(aq (aB (aG (ae (au (iG T).m e (ae (az (dv 0) ai) af)) (ae (au (iG T).m e (ae (az (dv 0) ai) af)) af))))),λ_ M Q h=>?_];let[a,b,c,d,5,h1,h2,g,i,k]:=h;exact #[7,7,a,b,5,h1,h2,7,7,c,d,5,g,i,NG rfl,NP k]
theorem qN:NB ["walls"] ["walls"] (ao iI):=⋯
inductive PY:Prop
 |mk (t b X Y:Int)(ws:r8)(_:sy=.tup (ws.map (NF t b X Y)))(_:Np t b X Y)(_:ws.length<=40)(_:(∀w∈ws,NK w))(_:∀M',SD.Sub M M'->Q sy M')
def sQ(T:Tx K mg):Cal P w K mg base 5 "own_plot" (Pp PY):=by
 refine eQ (k:=4) T.cb qN λf _ _ _ s H _ l=>#[_,(aq (aB (cL mz rfl T.ox mM (ae (bz (NC.of (xs:=["wall"]) (js:=[]) rfl) rfl (aP (dv 0)) (λ_ _ _ _=>aY) (λ_ _ _ _=>(au (my T).m l (ae (dv 0) af)))) af)))),λ_ M Q h=>?_];let[t,b,X,Y,ws,5,S,d,n,k]:=h;refine #[7,ws.map (NF t b X Y),5,comp_map (λi=>((ws.map (NF t b X Y))[i]?).getD .non) (by show(ws.map (NF t b X Y)).length<=1000000;rw[J4];omega) (λp B g=>rfl) ?_ (λp g=>#[_,ag,?_])]
 .intro i e o C q _;let[w,j,5]:=jh q;refine #[7,λK r=>?_];let a:=r o .refl;rw[getD_map j]at a;let[u,v,x,y,_]:=n w (Jg j);let one:(0:Int)<1/\(1:Int)<=10^6:=⋯
  let c:∀{z:Int},(0<=z/\z<=20)->-(10^6)<=z/\z<=10^6:=λh=>()
  exact #[7,_,_,_,7,(S.bx one (c u)).mono ⋯,(S.by' one (c v)).mono ⋯,(S.bx one (c x)).mono ⋯,(S.by' one (c y)).mono ⋯,a]
 .dsimp only;let e:(Jq (ws.map (NF t b X Y)).length).map (λi=>((ws.map (NF t b X Y))[i]?).getD .non)=ws.map (NF t b X Y):=SD.range_getD (ws.map (NF t b X Y));rw[e];exact NP (k _ (.new g .refl))
theorem sF:NB ["one","other"] ["one","other"] (ao jL):=⋯
inductive Py:Prop
 |mk (q r:Rat)(_:sy=My q)(_:s_=My r)(_:MZ 100000 q)(_:MZ 100000 r)(_:Q (.bl (decide (q<r))) M)
def nI(T:Tx K mg):Cal P w K mg base 1 "is_less" (Ng Py):=by refine a9 (k:=0) T.cc sF λf _ _ _ s H _ a=>#[_,(aq (aB (bV (cS a.units) (aw aI (az (dv 0) ai) (az (dv 1) ai)) (aw aI (az (dv 1) ai) (az (dv 0) ai))))),λ_ _ M Q h=>?_];let[q,r,5,5,h1,h2,k]:=h;exists 7,7,7,7,eR (h1.1.mono ⋯) (h2.2.mono ⋯);exists 7,7,7,7,eR (h2.1.mono ⋯) (h1.2.mono ⋯),trivial;dsimp only;rw[Ma.Hz];exact NP k
theorem qq:NB ["one","other"] ["one","other"] (ao iF):=⋯
inductive Pf:Prop
 |mk (a b c d:Rat)(_:sy=Mx a b)(_:s_=Mx c d)(_:MZ 100000 a)(_:MZ 100000 b)(_:MZ 100000 c)(_:MZ 100000 d)(_:Q (.bl (decide (a<c\/a=c/\b<d))) M)
def dk(T:Tx K mg):Cal P w K mg base 2 "is_ahead" (Ng Pf):=by
 refine a9 (k:=1) T.cp qq λf _ _ _ s H _ g=>#[_,(aj (br (aJ (bZ g.units) (az (dv 0) ai) (az (dv 1) ai)) (aq (aB (au (nI T).m g (ae (az (dv 0) ai) (ae (az (dv 1) ai) af))))) aR) (aq (aB (au (nI T).m g (ae (az (dv 0) ai) (ae (az (dv 1) ai) af)))))),λ_ _ M Q h=>?_];let[a,b,c,d,5,5,h1,h2,i,j,k]:=h;exists 7,7,7,7,_,_,Pd.of rfl,Pd.of rfl,5,5;rw[Ma.sE];exists 7;refine bF (λh=>?_) (λh=>?_)
 .have e:a=c:=‹h›
  subst e;exists 7,7,7,7,b,d,5,5,h2,j
  let z:(a<a\/a=a/\b<d)↔b<d:=by
   have:=Rat.lt_irrefl (a:=a)
   simp[this]
  rw[decide_eq_decide.mpr z]at k;exact NP k
 .have e:¬a=c:=‹h›
  exists 7,7,7,7,a,c,5,5,h1,i;let z:(a<c\/a=c/\b<d)↔a<c:=by simp[e]
  rw[decide_eq_decide.mpr z]at k;exact NP k
theorem cu:NB ["row","spot","low","high","middle"] ["row","spot"] (ao fo):=⋯
inductive OZ:Prop
 |mk (l:pd)(t b X Y:Int)(ps:List Vc)(u:Vc)(_:sy=.ref l)(_:s_=N4 t b X Y u)(_:M l=MA (.lst (ps.map (N4 t b X Y))))(_:Np t b X Y)(_:ps.length<=200)(_:(∀p∈ps,Nd p))(_:Nd u)(_:ps.Pairwise N5)(_:∀j:Nat,j<=ps.length->(∀i,i<j->N5 (p0 ps i) u)->(∀i,j<=i->i<ps.length->¬N5 (p0 ps i) u)->Q (.int (j:Int)) M)
def mW(T:Tx K mg):Cal P w K mg base 3 "place_among" (Ng OZ):=by
 refine a9 (k:=2) T.c5 cu λf _ _ _ s H _ r=>#[_,(aj (iD 2 3 rfl cu.nd (ae ai (ae (aO b7 rfl T.ma ck (ae (dv 0) af)) af))) (aj (gu Jx (aJ (cS r.units) (dv 2) (dv 3)) (aj (aC 4 cu.nd (aw gn (aw aQ (dv 2) (dv 3)) ai)) (aq (br (eD (au (dk T).m r (ae (az (dv 0) (dv 4)) (ae (dv 1) af)))) (aq (aC 2 cu.nd (aw aQ (dv 4) ai))) (aq (aC 3 cu.nd (dv 4))))))) (aq (aB (dv 2))))),λ_ _ M Q h=>?_];let[l,t,b,X,Y,ps,u,5,5,v,S,J,B,o,up,k]:=h;let C:(ps.map (N4 t b X Y)).length=ps.length:=by simp
 exists 7,_,v,_,7;refine #[λm δ x=>x=M/\RY λ(g d:Nat) (y:sk)=>Xt (δ=[MA (.ref l),MA (N4 t b X Y u),MA (.int (g:Int)),MA (.int (d:Int)),y]) (g<=d) (d<=ps.length) (∀i,i<g->N5 (p0 ps i) u) (∀i,d<=i->i<ps.length->¬N5 (p0 ps i) u) (m=d-g),#[7,0,ps.length,_,by rw[C];rfl,K3 _,Je _,λi d=>(),λi h1 h2=>(),rfl],?_];rintro m δ x ⟨rfl,g,d,y,rfl,h1,h2,a,c,L⟩;exists 7,7,trivial,7;refine bF (λh=>?_) (λh=>?_)
 .have F:g<d:=by
   have:(g:Int)<(d:Int):=‹h›
   omega
  let n:Int.fdiv ((g:Int)+(d:Int)) 2=(((g+d)/2:Nat):Int):=by rw[K4 _ ⋯];omega
  let j:(g+d)/2<ps.length:=()
  exists 7,7,#[⋯,bN ⋯];dsimp only;rw[n];generalize N:(g+d)/2=q at j ⊢;let G:ps[q]?=MA (p0 ps q):=by unfold p0;simp[j]
  let p:=B _ (iO j);exists 7,7,_,_,v,bM (by rw[Jf,G];rfl),7,_,_,_,7,5,(p.bx S).mono ⋯,(p.by' S).mono ⋯,(o.bx S).mono ⋯,(o.by' S).mono ⋯,7;let ah:=Dj (X:=X) (Y:=Y) S.t0 S.b0 p o;refine bF (λh=>?_) (λh=>?_)
  .have z:N5 (p0 ps q) u:=ah.mp (by simpa[Mr]using h);refine #[7,d-(q+1),(),5,q+1,d,7,(),h2,λi I=>?_,c,rfl];by_cases e:i=q
   .subst e;exact z
   .have:=Kf.mp up i q () j ();let e1:p0 ps i=ps[i]:=by unfold p0;simp[show i<ps.length by omega]
    let e2:p0 ps q=ps[q]:=by unfold p0;simp[j]
    rw[e2]at z;rw[e1];unfold N5 at z this ⊢;omega
  .have z:¬N5 (p0 ps q) u:=λw=>by
    have:=ah.mpr w
    simp[Mr]at h this
    exact absurd this ‹h›
   refine #[7,q-g,(),5,g,q,7,(),(),a,λi O R=>?_,rfl];by_cases e:i=q
   .subst e;exact z
   .have:=Kf.mp up q i j () ();let e1:p0 ps i=ps[i]:=by unfold p0;simp[show i<ps.length by omega]
    let e2:p0 ps q=ps[q]:=by unfold p0;simp[j]
    rw[e2]at z;rw[e1];unfold N5 at z this ⊢;omega
 .have:g=d:=by
   have:¬(g:Int)<(d:Int):=‹h›
   omega
  subst this;(repeat (first|refine #[7,?_]|refine #[trivial,?_]|refine #[_,7,?_]|refine #[5,?_]|refine #[NG rfl,?_]))
  exact NP (k g h2 a c)
theorem eJ:NB ["spots","row","spot"] ["spots"] (ao fj):=⋯
inductive O3:Prop
 |mk (l:pd)(t b X Y:Int)(us:List Vc)(_:sy=.ref l)(_:M l=MA (.lst (us.map (N4 t b X Y))))(_:Np t b X Y)(_:us.length<=200)(_:(∀p∈us,Nd p))(_:us.Nodup)(_:∀(M':MH)(z:pd)(ps:List Vc),SD.Sub M M'->M z=MB->M' z=MA (.lst (ps.map (N4 t b X Y)))->ps.Perm us->ps.Pairwise N5->Q (.ref z) M')
def iy(T:Tx K mg):Cal P w K mg base 4 "ahead_first" (Pp O3):=by
 refine eQ (k:=3) T.c6 eJ λf _ _ _ s H _ W=>#[_,(aj (aC 1 eJ.nd (bD af)) (aj (bJ Jx rfl (aP (dv 0)) (ay 2 eJ.nd) (aq (cz (e7 (dv 1) (ae (au (mW T).m W (ae (dv 1) (ae (dv 2) af))) (ae (dv 2) af)))))) (aq (aB (dv 1))))),λ_ M Q h=>?_];let[l,t,b,X,Y,us,5,G,S,hn,R,nd,k]:=h;refine #[NG rfl,λz C=>?_];let I:l≠z:=ax G C;refine #[7,us.map (N4 t b X Y),(by show(av M z _) l=_;rw[ak I];exact G),?_];exists λi δ n=>RZ λ(ps:List Vc) (J:sk)=>Zw (δ=[MA (.ref l),MA (.ref z),J]) (SD.Sub M n) (n z=MA (.lst (ps.map (N4 t b X Y)))) (ps.Perm (us.take i)) (ps.Pairwise N5),#[[],7,.new C .refl,ag,by simp,List.Pairwise.nil],λi δ n _ q=>by let[_,_,_,x,_]:=q;exact x _ _ G,?_
 .rintro i d δ n hi hd ⟨ps,J,rfl,x,g,r,up⟩;let hd:(us.map (N4 t b X Y))[i]?=MA d:=hd;rw[Jf]at hd;cases v:us[i]? with
  |none=>rw[v]at hd;cases hd
  |some u=>
   rw[v]at hd
   cases hd
   let Z:i<us.length:=(J8.mp v).1
   let L:us[i]=u:=(J8.mp v).2
   let U:=R u (Jg v)
   let N:∀p∈ps,p∈us:=λp y=>List.mem_of_mem_take (r.mem_iff.mp y)
   let B:∀p∈ps,Nd p:=λp y=>R p (N p y)
   let a0:ps.length=i:=by rw[r.length_eq,Lc];omega
   let nu:u∉ps:=λy=>by
    have:=r.mem_iff.mp y
    let[j,F,V]:=List.getElem_of_mem this
    let O:j<i:=by rw[Lc]at F;omega
    rw[List.getElem_take]at V
    have:=Kf.mp nd j i () Z O
    exact this (V.trans L.symm)
   refine #[7,z,7,g,7,7,z,t,b,X,Y,ps,u,5,5,g,S,(),B,U,up,λj F a c=>?_]
   let[i1,i2]:=Dh up F a λi h1 h2=>Av (B _ (iO h2)) U (λe=>nu (e▸iO h2)) (c i h1 h2)
   refine #[7,_,_,j,5,g,by rw[J4];exact F,by rw[J4];omega,f6 ps j u,7,λa o h=>?_,by rw[ag,jn],?_,i1]
   .rw[ak (ax h C)];exact x _ _ h
   .rw[Ml,v];exact i2.trans ((List.Perm.cons u r).trans (List.perm_append_singleton u (us.take i)).symm)
 .rintro δ n ⟨ps,J,rfl,x,g,r,up⟩;let e:us.take (us.map (N4 t b X Y)).length=us:=by rw[J4,List.take_length]
  exact #[7,n,.refl,k n z ps x C g (by rw[<-e];exact r) up]
theorem dz:NB ["plot","corners","wall","end"] ["plot"] (ao fU):=⋯
inductive Oe:Prop
 |mk (t b X Y:Int)(ws:r8)(_:sy=.tup (ws.map (NF t b X Y)))(_:Np t b X Y)(_:ws.length<=40)(_:(∀w∈ws,NK w))(_:∀(M':MH)(z:pd)(ps:List Vc),SD.Sub M M'->M z=MB->M' z=MA (.lst (ps.map (N4 t b X Y)))->ps.Perm (Nc ws ws.length)->ps.Pairwise N5->Q (.ref z) M')
def oB(T:Tx K mg):Cal P w K mg base 5 "corners_of" (Pp Oe):=by
 refine eQ (k:=4) T.c_ dz λf _ _ _ s H _ I=>#[_,(aj (aC 1 dz.nd qr) (aj (bJ Jx rfl (aP (dv 0)) (ay 2 dz.nd) (aq (bJ Jx rfl (aP (dv 2)) (ay 3 dz.nd) (aq (xj (gA I) (dv 1) (au (iG T).m I (ae (dv 3) af)) kh))))) (aq (aB (au (iy T).m I (ae (cL (mj rfl) rfl T.mu k7 (ae (dv 1) af)) af)))))),λ_ M Q h=>?_];let[t,b,X,Y,ws,5,S,hn,N,k]:=h;intro c O;exists 7,ws.map (NF t b X Y),5;exists λi δ r=>RZ λ(J v:sk)=>δ=[MA (.tup (ws.map (NF t b X Y))),MA (.ref c),J,v]/\SD.Sub M r/\r c=MA (OF (QJ t b X Y (Nc ws i))),#[_,7,.new O .refl,ag],λi δ r _ q=>rfl,?_
 .rintro i d δ r hi hd ⟨J,v,rfl,B,g⟩;let hd:(ws.map (NF t b X Y))[i]?=MA d:=hd;rw[Jf]at hd;cases C:ws[i]? with
  |none=>rw[C]at hd;cases hd
  |some w=>
   rw[C]at hd
   cases hd
   let iw:i<ws.length:=(J8.mp C).1
   let R:=N w (Jg C)
   let lc:=h8 ws i
   exists 7,[N4 t b X Y (ea w),N4 t b X Y (eb w)],5
   exists λj δ n=>RZ λ(us:List Vc) (v:sk)=>Xs (δ=[MA (.tup (ws.map (NF t b X Y))),MA (.ref c),MA (NF t b X Y w),v]) (SD.Sub M n) (n c=MA (OF (QJ t b X Y us))) (us.length<=2*i+j) (j=0->us=Nc ws i) (j=1->us=du (Nc ws i) (ea w)) (j=2->us=du (du (Nc ws i) (ea w)) (eb w)),#[Nc ws i,7,B,g,(),λ_=>rfl,λh=>(),λh=>()],λi δ r _ q=>rfl,?_
   .rintro j d δ n U hd ⟨us,v,rfl,l,y,lu,V,W,Z⟩;let U:j<2:=U
    obtain⟨u,rfl,bu,hu⟩:∃u,d=N4 t b X Y u/\Nd u/\(j=0->u=ea w)/\(j=1->u=eb w):=by
     let hd:([N4 t b X Y (ea w),N4 t b X Y (eb w)]:sg)[j]?=MA d:=hd;rcases(():j=0\/j=1)with rfl|rfl
     .cases hd;exact #[7,R.ea,λ_=>rfl,λh=>()]
     .cases hd;exact #[7,R.eb,λh=>(),λ_=>rfl]
    refine #[7,7,_,7,(bu.bx S).mono ⋯,(bu.by' S).mono ⋯,c,_,gk t b X Y u,5,rK t b X Y u,y,?_,du us u,7,?_,by rw[ag,A0 S.t0 S.b0],by have:=lJ us u;omega,λh=>(),λh=>?_,λh=>?_]
    .show(QJ t b X Y us).length<_;unfold QJ;rw[J4];omega
    .intro a o h;rw[ak (ax h O)];exact l _ _ h
    .have:j=0:=()
     rw[V this,hu.1 this]
    .have:j=1:=()
     rw[W this,hu.2 this]
   .rintro δ n ⟨us,v,rfl,l,y,lu,V,W,Z⟩;exists _,7,l;rw[y,Z rfl]
    congr 3
    show _=(match ws[i]? with|some w=>du (du (Nc ws i) (ea w)) (eb w)|none=>Nc ws i);rw[C]
 .rintro δ r ⟨J,v,rfl,B,g⟩
  let g:r c=MA (OF (QJ t b X Y (Nc ws ws.length))):=by
   let e:(ws.map (NF t b X Y)).length=ws.length:=by simp
   rw[<-e];exact g
  refine #[7,.inr #[c,7,g,λp hp=>?_]];let ek:(QJ t b X Y (Nc ws ws.length)).map (λx=>QA x.1)=(Nc ws ws.length).map (N4 t b X Y):=by unfold QJ;rw[KA];rfl
  rw[ek];let lc:=h8 ws ws.length;refine #[p,t,b,X,Y,Nc ws ws.length,5,ag,S,(),zW N,mn ws _,λM2 z ps l G L pm up=>?_];let zp:z≠p:=λe=>by subst e;rw[ag]at G;cases G
  let F:r z=MB:=by rw[ak zp]at G;exact G
  let zM:M z=MB:=by
   cases e:M z with
   |none=>rfl
   |some o=>rw[B _ _ e]at F;cases F
  exact #[M2,.refl,k M2 z ps (λa o h=>l _ _ (by rw[ak (ax (B _ _ h) hp)];exact B _ _ h)) zM L pm up]
theorem kJ:NB ["self","plot"] ["self","plot"] (ao eB):=⋯
def cD(K:J1):Nl:=λd M Q=>match d with
 |[s,u]=>∃(a:pd) (t b X Y:Int) (ws:r8),s=.ref a/\u=.tup (ws.map (NF t b X Y))/\M a=MA (dh (cl K "Steps") [])/\Np t b X Y/\ws.length<=40/\(∀w∈ws,NK w)/\
  ∀(c:MH)(ps:List Vc),kZ a M c->c a=MA (dh (cl K "Steps") (Zx (.tup (ws.map (NF t b X Y))) (ps.map (N4 t b X Y)) .non .non))->ps.Perm (Nc ws ws.length)->ps.Pairwise N5->Q .non c
 |_=>False
theorem k5(K:J1):∀ds M Q,(cD K) ds M Q->ds.length=2:=λds M Q h=>by
 unfold cD at h;split at h
 .rfl
 .exact h.elim
def lX(T:Tx K mg):vJ P w K mg base 6 "Way" "__init__" (cD K):=by
 refine IX (k:=5) (N:=["self","plot"]) (ps:=["self","plot"]) T.o_ kJ (λ_ _ _ _ _ _ us n=>by let[_,_,5]:=SD.rN n;rfl) (k5 K) λf _ _ _ s H _ j=>#[_,(aj (gb (au (sQ T).m j (ae (dv 1) af)) (dv 0)) (aj (gb (cL mz rfl T.ox mM (ae (au (oB T).m j (ae (eZ (dv 0)) af)) af)) (dv 0)) (aj (gb oP (dv 0)) (aq (gb oP (dv 0)))))),λx M Q h=>?r]
 case r=>
  unfold cD at h
  split at h
  case h_2=>exact h.elim
  let[a,t,b,X,Y,ws,5,5,p,S,d,l,k]:=h
  refine #[7,t,b,X,Y,ws,5,S,d,l,λy e=>#[7,a,_,[],5,e _ _ p,T.cl_Steps,T.na_plot,⋯,?_]]
  refine #[7,a,_,_,7,ag,T.cl_Steps,T.na_plot,5,t,b,X,Y,ws,5,S,d,l,λB z ps g C q u v=>#[_,q,?_]]
  exists 7,a,_,7,g _ _ ag,T.cl_Steps,T.na_corners,(⋯:1<1000)
  let e1:Rv "corners" (D.tup (ps.map (N4 t b X Y))) (Rv "plot" (D.tup (ws.map (NF t b X Y))) [])=([("plot",D.tup (ws.map (NF t b X Y))),("corners",D.tup (ps.map (N4 t b X Y)))]:List (Str×D)):=rfl
  rw[e1]
  exists 7,a,_,7,ag,T.cl_Steps,T.na_guide,(⋯:2<1000)
  exists 7,a,_,7,ag,T.cl_Steps,T.na_most_looks,(⋯:3<1000)
  refine NP (k _ ps (λc o i h=>?_) ag u v)
  rw[ak i,ak i,ak i]
  exact g _ _ (by rw[ak i];exact e _ _ h)
theorem fW:NB ["plot","face","first","second"] ["plot","face"] (ao gM):=⋯
inductive Oq:Prop
 |mk (t b X Y:Int)(ws:r8)(f:Nat)(_:sy=.tup (ws.map (NF t b X Y)))(_:s_=.int (f:Int))(_:f<2*ws.length)(_:ws.length<=1000)(_:Q (NF t b X Y (fw ws f)) M)
def cx(T:Tx K mg):Cal P w K mg base 1 "face_ends" (Ng Oq):=by
 refine a9 (k:=0) T.dd fW λf _ _ _ s H _ e=>#[_,(aj (bO (az (dv 0) (aw gn (dv 1) ai)) (bj rfl (aA (ay 2 fW.nd) (aA (ay 3 fW.nd) aS)))) (aq (aB (j7 (aJ (bZ e.units) (aw fV (dv 1) ai) ai) (aG (ae (dv 2) (ae (dv 3) af))) (aG (ae (dv 3) (ae (dv 2) af))))))),λ_ _ M Q h=>?_];let[t,b,X,Y,ws,f,5,5,j,c,k]:=h;let[d,l,m]:=aW (ws:=ws) (k:=((f/2:Nat):Int)) () ();let g:(f:Int).fdiv 2=((f/2:Nat):Int):=by rw[K4 _ ⋯];omega
 let i:(f:Int).fmod 2=((f%2:Nat):Int):=by rw[Int.fmod_eq_emod_of_nonneg _ ⋯];omega
 let a:atI (ws.map (NF t b X Y)) ((f:Int).fdiv 2)=MA (NF t b X Y (NH ws ((f/2:Nat):Int))):=by rw[g];refine bM ?_;rw[Kl]at d;rw[Jf,d];rfl
 exists 7,7,#[⋯,bN ⋯],_,a;exists 7,5,_,7,_,7,5;exists 7,(show(2:Int)≠0 by decide),7;dsimp only;rw[i];refine bF (λh=>?_) (λh=>?_)
 .have h:f%2=0:=by have:((f%2:Nat):Int)=0:=‹h›
                   omega
  refine #[7,7,NG rfl,NP ?_];unfold fw at k;rw[MF h]at k;exact k
 .have h:¬f%2=0:=λz=>by rw[z]at h;simp at h
  refine #[7,7,NG rfl,NP ?_];unfold fw at k;rw[ME h]at k;exact k
theorem cQ:NB ["plot","leaving","face"] ["plot"] (ao dm):=⋯
def RT(t b X Y:Int)(p:Vc):N3:=((MY t b X 1 p.1).num,((MY t b X 1 p.1).den:Int),(MY t b Y 1 p.2).num,((MY t b Y 1 p.2).den:Int))
def ud{t b X Y:Int}(a:0<t)(c:0<b){p q:Vc}(h:RT t b X Y p=RT t b X Y q):p=q:=by unfold RT at h;injection h with h1 h;injection h with h2 h;injection h with d e;let e1:MY t b X 1 p.1=MY t b X 1 q.1:=Rat.ext h1 (by exact_mod_cast h2);let e2:MY t b Y 1 p.2=MY t b Y 1 q.2:=Rat.ext d (by exact_mod_cast e);let f:=(Mv a c ⋯ ⋯).mp e1;let g:=(Mv a c ⋯ ⋯).mp e2;exact Prod.ext () ()
def OV(ws:r8)(i:Nat)(p:Vc):q_:=((Jq i).filter λg=>decide (fa ws g=p)).map λg:Nat=>(g:Int)
def rz(ws:r8)(i:Nat)(p:Vc):OV ws (i+1) p=OV ws i p++(if fa ws i=p then[(i:Int)]else[]):=by
 unfold OV;rw[LQ,List.filter_append,JE];by_cases h:fa ws i=p
 .simp[h]
 .simp[h]
def Bw(ws:r8)(i:Nat)(p:Vc):(OV ws i p).length<=i:=by unfold OV;rw[J4];have:=List.length_filter_le (λg=>decide (fa ws g=p)) (Jq i);simpa using this
def zQ{kvs:Nv}{k:N3}(d:D)(h:dE kvs k=MB)(j:N3):dE (putD kvs k d) j=if j=k then MA d else dE kvs j:=by
 let a:(kvs.any λx=>decide (x.1=k))=MD:=by unfold dE at h;rw[Option.map_eq_none_iff,List.find?_eq_none]at h;rw[List.any_eq_false];exact h
 unfold putD;rw[ME (by rw[a];decide)];unfold dE at *;rw[List.find?_append];by_cases e:j=k
 .subst e;rw[MF rfl];rw[Option.map_eq_none_iff]at h;rw[h];simp
 .rw[ME e];have:¬k=j:=λz=>e z.symm;cases kvs.find? λx=>decide (x.1=j)<;>simp[this]
structure Ry(t b X Y:Int)(ws:r8)(i:Nat)(M M':MH)(ld:pd)(kvs:Nv)(L:Vc->pd):Prop where
 d:M' ld=MA (OF kvs)
 some:∀p,OV ws i p≠[]->dE kvs (RT t b X Y p)=.some (.ref (L p))/\M' (L p)=.some (.lst ((OV ws i p).map D.int))/\L p≠ld/\M (L p)=MB
 none:∀p,OV ws i p=[]->dE kvs (RT t b X Y p)=.none
 inj:∀p q,OV ws i p≠[]->OV ws i q≠[]->L p=L q->p=q
inductive OI:Prop
 |mk (t b X Y:Int)(ws:r8)(_:sy=.tup (ws.map (NF t b X Y)))(_:Np t b X Y)(_:ws.length<=40)(_:∀(M':MH)(ld:pd)(kvs:Nv)(L:Vc->pd),SD.Sub M M'->Ry t b X Y ws (2*ws.length) M M' ld kvs L->Q (.ref ld) M')
def jI(T:Tx K mg):Cal P w K mg base 2 "faces_by_start" (Pp OI):=by
 refine eQ (k:=1) T.dt cQ λf _ _ _ s H _ hr=>#[_,(aj (aC 1 cQ.nd qr) (aj (gZ Jx rfl rfl T.n7 (ae (aw aI ai (aO b7 rfl T.ma ck (ae (dv 0) af))) af) (ay 2 cQ.nd) (aq (cz (cj (BG (gA hr) (dv 1) (ae (az (au (cx T).m hr (ae (dv 0) (ae (dv 2) af))) ai) (ae (bD af) af))) (ae (dv 2) af))))) (aq (aB (dv 1))))),λ_ M Q h=>?_];let[t,b,X,Y,ws,5,S,a0,k]:=h;let R:(ws.map (NF t b X Y)).length=ws.length:=by simp
 refine λld J=>?_;exists 7,aK (bN ⋯),2*ws.length,(by rw[R];simp),();exists λi δ l=>RY λ(kvs:Nv) (L:Vc->pd) (U:sk)=>Xu (δ=[MA (.tup (ws.map (NF t b X Y))),MA (.ref ld),U]) (SD.Sub M l) (kvs.length<=i) (Ry t b X Y ws i M l ld kvs L),?_,?_
 .exact #[[],λ_=>0,7,.new J .refl,Je _,ag,λp h=>absurd rfl h,λp _=>rfl,λp q h=>absurd rfl h]
 .rintro i δ l hi ⟨kvs,L,U,rfl,N,hk,V⟩;let W:∀{q:pd} {o},l q=MB->(av l q o) ld=MA (OF kvs):=λu=>by rw[ak (ax V.d u)];exact V.d
  let c:∀p,fa ws i≠p->OV ws (i+1) p=OV ws i p:=λp h=>by rw[rz,ME h,KD]
  let r:OV ws (i+1) (fa ws i)=OV ws i (fa ws i)++[(i:Int)]:=by rw[rz,MF rfl]
  let ll:=Bw ws i (fa ws i);refine #[7,ld,kvs,5,V.d,7,7,t,b,X,Y,ws,i,5,5,hi,(),7,NG rfl,λq u=>?_];refine #[kvs,RT t b X Y (fa ws i),.ref q,5,W u,(),λd' hd=>?_,λhn=>?_]
  .have ne:OV ws i (fa ws i)≠[]:=λz=>by rw[V.none _ z]at hd;cases hd
   let[v1,v2,v3,v4]:=V.some _ ne;rw[v1]at hd;cases hd;let Z:∀{a o},l a=MA o->(av l q (.lst [])) a=MA o:=λh=>by rw[ak (ax h u)];exact h
   refine #[L (fa ws i),7,Z v2,7,_,7,Z v2,(by rw[J4];omega),?_];let C:∀{a o G},l a=MA o->a≠L (fa ws i)->(av (av l q (.lst [])) (L (fa ws i)) G) a=MA o:=λh n=>by rw[ak n];exact Z h
   refine #[kvs,L,7,λa o h=>C (N _ _ h) (λz=>by subst z;rw[v4]at h;cases h),(),C V.d v3.symm,λp h=>?_,λp h=>?_,λp v h F e=>?_]
   .by_cases z:fa ws i=p
    .subst z;refine #[v1,?_,v3,v4];rw[ag,r,JE];rfl
    .rw[c p z]at h ⊢;let[u1,u2,O,u4]:=V.some p h;exact #[u1,C u2 (λy=>z (V.inj _ _ ne h y.symm)),O,u4]
   .by_cases z:fa ws i=p
    .subst z;rw[r]at h;simp at h
    .rw[c p z]at h;exact V.none p h
   .have g:∀p,OV ws (i+1) p≠[]->OV ws i p≠[]:=λp h=>by
     by_cases z:fa ws i=p
     .subst z;exact ne
     .rw[c p z]at h;exact h
    exact V.inj p v (g p h) (g v F) e
  .have em:OV ws i (fa ws i)=[]:=by
    cases z:OV ws i (fa ws i)with
    |nil=>rfl
    |cons x xs=>
     have:=(V.some _ (by rw[z];simp)).1
     rw[hn]at this;cases this
   let B:q≠ld:=(ax V.d u).symm;let cq:(av (av l q (.lst [])) ld (OF (putD kvs (RT t b X Y (fa ws i)) (.ref q)))) q=MA (.lst []):=by rw[ak B,ag]
   exists q,[],5,cq,7,_,7,cq,⋯;let C:∀{a o D' G},l a=MA o->a≠ld->(av (av (av l q (.lst [])) ld D') q G) a=MA o:=λh n=>by rw[ak (ax h u),ak n,ak (ax h u)];exact h
   let mq:M q=MB:=by
    cases z:M q with
    |none=>rfl
    |some o=>rw[N _ _ z]at u;cases u
   let vn:=λj=>zQ (.ref q) hn j;refine #[putD kvs (RT t b X Y (fa ws i)) (.ref q),λp=>if fa ws i=p then q else L p,7,λa o h=>C (N _ _ h) (λz=>by subst z;rw[J]at h;cases h),?_,(by rw[ak B.symm,ag]),λp h=>?_,λp h=>?_,λp v h F e=>?_]
   .have:(putD kvs (RT t b X Y (fa ws i)) (.ref q)).length<=kvs.length+1:=by
     unfold putD;split
     .rw[J4];omega
     .simp
    omega
   .by_cases z:fa ws i=p
    .subst z;refine #[by rw[vn,MF rfl,MF rfl],?_,by rw[MF rfl];exact B,by rw[MF rfl];exact mq];rw[MF rfl,ag,r,em];rfl
    .rw[c p z]at h ⊢;let[u1,u2,O,u4]:=V.some p h;rw[ME z];exact #[by rw[vn,ME (λy=>z (ud S.t0 S.b0 y).symm)];exact u1,C u2 O,O,u4]
   .by_cases z:fa ws i=p
    .subst z;rw[r]at h;simp at h
    .rw[c p z]at h;rw[vn,ME (λy=>z (ud S.t0 S.b0 y).symm)];exact V.none p h
   .by_cases z:fa ws i=p<;>by_cases I:fa ws i=v
    .rw[<-z,<-I]
    .rw[c v I]at F;rw[MF z,ME I]at e;have:=(V.some v F).2.1;rw[<-e,u]at this;cases this
    .rw[c p z]at h;rw[ME z,MF I]at e;have:=(V.some p h).2.1;rw[e,u]at this;cases this
    .rw[c p z]at h;rw[c v I]at F;rw[ME z,ME I]at e;exact V.inj p v h F e
 .rintro δ l ⟨kvs,L,U,rfl,N,hk,V⟩;exact #[7,#[l,.refl,k l ld kvs L N V]]
theorem Dz:NB ["one","other"] ["one","other"] (ao yg):=⋯
inductive SN:Prop
 |mk (t1 b1 t2 b2:Int)(_:sy=.tup [.int t1,.int b1])(_:s_=.tup [.int t2,.int b2])(_:Bd 1000000 t1)(_:Bd 1000000 b1)(_:Bd 1000000 t2)(_:Bd 1000000 b2)(_:Q (.tup [.int (t1*b2-t2*b1),.int (b1*b2)]) M)
def rD(T:Tx K mg):Cal P w K mg base 1 "gap" (Ng SN):=by refine a9 (k:=0) T.dy Dz λf _ _ _ s H _ c=>#[_,(aq (aB (aG (ae (aw bg (aw aI (az (dv 0) ai) (az (dv 1) ai)) (aw aI (az (dv 1) ai) (az (dv 0) ai))) (ae (aw aI (az (dv 0) ai) (az (dv 1) ai)) af))))),λ_ _ M Q h=>?_];let[t1,b1,d,e,5,5,h1,h2,b,a,k]:=h;exists 7,7,7,7,eR h1 a,7,7,7,7,eR b h2,trivial;exact #[7,7,7,7,eR h2 a,NG rfl,NP k]
theorem dU:NB ["wall","spot","a","b","c","d","x","y","across","up","along","high"] ["wall","spot"] (ao rW):=⋯
inductive Rb:Prop
 |mk (n:Nat)(a b c d x y:Rat)(_:sy=MX a b c d)(_:s_=Mx x y)(_:MZ n a)(_:MZ n b)(_:MZ n c)(_:MZ n d)(_:MZ n x)(_:MZ n y)(_:n<=20000)(_:∀t e:Int,0<e->Rat.divInt t e=Mt a b c d x y->Bd (8*n+3) t->Bd (8*n+3) e->Q (.tup [.int t,.int e]) M)
def Ek(T:Tx K mg):Cal P w K mg base 2 "lean" (Ng Rb):=by
 refine a9 (k:=1) T.dV dU λf _ _ _ s H _ o=>#[_,(aj (bO (dv 0) (bj rfl (aA (bj rfl (aA (ay 2 dU.nd) (aA (ay 3 dU.nd) aS))) (aA (bj rfl (aA (ay 4 dU.nd) (aA (ay 5 dU.nd) aS))) aS)))) (aj (bO (dv 1) (bj rfl (aA (ay 6 dU.nd) (aA (ay 7 dU.nd) aS)))) (aj (iD 8 9 rfl dU.nd (ae (au (rD T).m o (ae (dv 4) (ae (dv 2) af))) (ae (au (rD T).m o (ae (dv 5) (ae (dv 3) af))) af))) (aj (iD 10 11 rfl dU.nd (ae (au (rD T).m o (ae (dv 6) (ae (dv 2) af))) (ae (au (rD T).m o (ae (dv 7) (ae (dv 3) af))) af))) (aq (aB (au (rD T).m o (ae (aG (ae (aw aI (az (dv 8) ai) (az (dv 11) ai)) (ae (aw aI (az (dv 8) ai) (az (dv 11) ai)) af))) (ae (aG (ae (aw aI (az (dv 9) ai) (az (dv 10) ai)) (ae (aw aI (az (dv 9) ai) (az (dv 10) ai)) af))) af))))))))),λ_ _ M Q h=>?_];let[n,a,b,c,d,x,y,5,5,g,j,p,hd,hx,t,F,k]:=h;let e:∀{m:Nat}{i:Int},Bd m i->m<=1000000->Bd 1000000 i:=λz l=>z.mono l;let v:=p.tZ g;let B:=hd.tZ j;let C:=hx.tZ g;let D:=t.tZ j;let e1:=p.2.mul g.2;let e2:=hd.2.mul j.2;let e3:=hx.2.mul g.2;let e4:=t.2.mul j.2;refine #[7,7,5,_,7,#[7,5,_,7,_,7,5,?_]];refine #[_,7,#[7,5,_,7,_,7,5,?_]];exists 5,7,7,5,_,7,_,7,5;exists 7,7,_,_,_,7,5,e p.1 (),e p.2 (),e g.1 (),e g.2 ();exists 7,7,_,_,_,7,5,e hd.1 (),e hd.2 (),e j.1 (),e j.2 ();exists _,7;exists 7,7,_,_,_,7,5,e hx.1 (),e hx.2 (),e g.1 (),e g.2 ();exists 7,7,_,_,_,7,5,e t.1 (),e t.2 (),e j.1 (),e j.2 ();exists _,7;exists 7,7,7,7,eR (e v ()) (e D ());exists 7,7,7,7,eR (e e1 ()) (e e4 ()),NG rfl;exists 7,7,7,7,eR (e B ()) (e C ());exists 7,7,7,7,eR (e e2 ()) (e e3 ()),NG rfl;exists _,_,_,7,5,e (v.mul D) (),e (e1.mul e4) (),e (B.mul C) (),e (e2.mul e3) ();let u:∀q r:Rat,0<(q.den:Int)*(r.den:Int):=λq r=>JC (NA q) (NA r);refine NP (k _ _ (JC (JC (u c a) (u y b)) (JC (u d b) (u x a))) (Ma.Bl a b c d x y) ?_ ?_)
 .exact((((v.mul D).mul (e2.mul e3)).mono (():_<=8*n+2)).sub (((B.mul C).mul (e1.mul e4)).mono (():_<=8*n+2)))
 .exact((e1.mul e4).mul (e2.mul e3)).mono ()
theorem lO:NB ["wall","spot","top"] ["wall","spot"] (ao jy):=⋯
inductive Pw:Prop
 |mk (n:Nat)(a b c d x y:Rat)(_:sy=MX a b c d)(_:s_=Mx x y)(_:MZ n a)(_:MZ n b)(_:MZ n c)(_:MZ n d)(_:MZ n x)(_:MZ n y)(_:n<=1900)(_:Q (.int (Mu (Mt a b c d x y))) M)
def dY(T:Tx K mg):Cal P w K mg base 3 "side_of" (Ng Pw):=by
 refine a9 (k:=2) T.d_ lO λf _ _ _ s H _ g=>#[_,(aj (aC 2 lO.nd (az (au (Ek T).m g (ae (dv 0) (ae (dv 1) af))) ai)) (aj (br (aJ (gV g.units) (dv 2) ai) (aq (aB ai)) aR) (aj (br (aJ (cS g.units) (dv 2) ai) (aq (aB (nN g9 ai))) aR) (aq (aB ai))))),λ_ _ M Q h=>?_];let[n,a,b,c,d,x,y,5,5,j,l,o,hd,hx,p,r,k]:=h;refine #[7,7,n,a,b,c,d,x,y,5,5,j,l,o,hd,hx,p,(),λt e q i _ _=>#[7,?_]];rw[<-i,Ma.Br q]at k;exists 7,trivial,7;refine bF (λh=>?_) (λh=>?_)
 .rw[MF ‹h›]at k;exact NP k
 rw[ME ‹h›]at k;exists 7,trivial,7;refine bF (λh=>?_) (λh=>?_)
 .rw[MF ‹h›]at k;exact NP k
 .rw[ME ‹h›]at k;exact NP k
theorem df:NB ["corner","came_from","one","other","turn","other_turn"] ["corner","came_from","one","other"] (ao dJ):=⋯
inductive OO:Prop
 |mk (t b X Y:Int)(c p q r:Vc)(_:sy=Mx (MY t b X 1 c.1) (MY t b Y 1 c.2))(_:s_=Mx (MY t b X 1 p.1) (MY t b Y 1 p.2))(_:ti=Mx (MY t b X 1 q.1) (MY t b Y 1 q.2))(_:tp=Mx (MY t b X 1 r.1) (MY t b Y 1 r.2))(_:Np t b X Y)(_:(0<=c.1/\c.1<=20))(_:(0<=c.2/\c.2<=20))(_:(0<=p.1/\p.1<=20))(_:(0<=p.2/\p.2<=20))(_:(0<=q.1/\q.1<=20))(_:(0<=q.2/\q.2<=20))(_:(0<=r.1/\r.1<=20))(_:(0<=r.2/\r.2<=20))(_:Q (.bl (QC (p.1-c.1,p.2-c.2) (q.1-c.1,q.2-c.2) (r.1-c.1,r.2-c.2))) M)
def kY(T:Tx K mg):Cal P w K mg base 4 "is_met_sooner" (sD4 OO):=by
 refine Hk (k:=3) T.eh df λf _ _ _ s H _ a=>#[_,(aj (aC 4 df.nd (au (dY T).m a (ae (aG (ae (dv 0) (ae (dv 1) af))) (ae (dv 2) af)))) (aj (aC 5 df.nd (au (dY T).m a (ae (aG (ae (dv 0) (ae (dv 1) af))) (ae (dv 3) af)))) (aj (br (aJ (jv a.units) (dv 4) (dv 5)) (aq (aB (bV (cS a.units) (dv 4) (dv 5)))) aR) (aq (aB (bV (bZ a.units) (au (dY T).m a (ae (aG (ae (dv 0) (ae (dv 2) af))) (ae (dv 3) af))) (nN g9 ai))))))),λ_ _ _ _ M Q h=>?_];let[t,b,X,Y,c,p,q,r,5,5,5,5,S,d,g,i,j,l,n,o,u,k]:=h;let one:(0:Int)<1/\(1:Int)<=10^6:=⋯
 let v:∀{z:Int},(0<=z/\z<=20)->(-(10^6)<=z/\z<=10^6):=λ{z} h=>()
 let bx:∀{z:Int},(0<=z/\z<=20)->MZ 200 (MY t b X 1 z):=λ{z} h=>S.bx one (v h);let by':∀{z:Int},(0<=z/\z<=20)->MZ 200 (MY t b Y 1 z):=λ{z} h=>S.by' one (v h)
 let e1:=mi (X:=X) (Y:=Y) S.t0 S.b0 (c.1,c.2,p.1,p.2) q.1 q.2;let e2:=mi (X:=X) (Y:=Y) S.t0 S.b0 (c.1,c.2,p.1,p.2) r.1 r.2;let e3:=mi (X:=X) (Y:=Y) S.t0 S.b0 (c.1,c.2,q.1,q.2) r.1 r.2;let x:sd (c.1,c.2,p.1,p.2) q.1 q.2=vc (p.1-c.1,p.2-c.2) (q.1-c.1,q.2-c.2):=rfl;let y:sd (c.1,c.2,p.1,p.2) r.1 r.2=vc (p.1-c.1,p.2-c.2) (r.1-c.1,r.2-c.2):=rfl;let B:sd (c.1,c.2,q.1,q.2) r.1 r.2=vc (q.1-c.1,q.2-c.2) (r.1-c.1,r.2-c.2):=rfl;rw[x]at e1;rw[y]at e2;rw[B]at e3;dsimp only at e1 e2 e3;exists 7,7,NG rfl,7,200,_,_,_,_,_,7,5,bx d,by' g,bx i,by' j,bx l,by' n,⋯;rw[e1];exists 7,7,NG rfl,7,200,_,_,_,_,_,7,5,bx d,by' g,bx i,by' j,bx o,by' u,⋯;rw[e2];exists 7,7,7;unfold QC at k;refine bF (λh=>?_) (λh=>?_)
 .have ne:¬JH (vc (p.1-c.1,p.2-c.2) (q.1-c.1,q.2-c.2))=JH (vc (p.1-c.1,p.2-c.2) (r.1-c.1,r.2-c.2)):=λz=>by rw[z]at h;simp at h
  rw[ME ne]at k;exact #[7,7,trivial,NP k]
 .have eq:JH (vc (p.1-c.1,p.2-c.2) (q.1-c.1,q.2-c.2))=JH (vc (p.1-c.1,p.2-c.2) (r.1-c.1,r.2-c.2)):=‹h›
  rw[MF eq]at k;exists 7,7,NG rfl,7,200,_,_,_,_,_,7,5,bx d,by' g,bx l,by' n,bx o,by' u,⋯;rw[e3];let e:decide (vc (q.1-c.1,q.2-c.2) (r.1-c.1,r.2-c.2)<0)=decide (JH (vc (q.1-c.1,q.2-c.2) (r.1-c.1,r.2-c.2))=-1):=by rw[MK];rcases jc (vc (q.1-c.1,q.2-c.2) (r.1-c.1,r.2-c.2))with z|z|z<;>omega
  rw[e]at k;exact NP k
theorem bA:NB ["plot","leaving","face","came_from","corner","back","best","rival"] ["plot","leaving","face"] (ao ft):=⋯
def ez(ws:r8)(f j:Nat):Option Nat:=((((Jq (2*ws.length)).filter λg=>decide (fa ws g=fb ws f)).take j).filter λg=>decide (g≠fx f)).foldl (dO (Po ws f)) MB
theorem n6(R:Nat->Nat->Bool):∀(l:q7)(o:Option Nat){h:Nat},l.foldl (dO R) o=MA h->h∈l\/o=MA h
 |[],o,h,e=>.inr e
 |g::l,o,h,e=>by
  rw[List.foldl_cons]at e
  rcases n6 R l _ e with z|z
  .exact .inl (by simp[z])
  .cases o with
   |none=>cases z;exact .inl (_)
   |some k=>
    unfold dO at z
    dsimp only at z
    by_cases r:R g k=MC
    .rw[MF r]at z;cases z;exact .inl (_)
    .rw[ME r]at z;exact .inr z
def rP(ws:r8)(f j:Nat)(h:((Jq (2*ws.length)).filter λg=>decide (fa ws g=fb ws f)).length<=j):ez ws f j=(jO ws f).foldl (dO (Po ws f)) MB:=by
 unfold ez jO xM;rw[KR h,List.filter_filter]
 congr 1
 apply List.filter_congr;intro x _;rw[Bool.and_comm]
def sY{ws:r8}{f j h:Nat}(e:ez ws f j=MA h):h∈jO ws f:=by
 unfold ez at e;rcases n6 _ _ _ e with z|z
 .have a:=K1.mp z;let b:=K1.mp (List.mem_of_mem_take a.1);exact cZ.mpr #[‹b.1›,‹b.2›,‹a.2›]
 .cases z
inductive O2:Prop
 |mk (t b X Y:Int)(ws:r8)(M0:MH)(ld:pd)(kvs:Nv)(L:Vc->pd)(f:Nat)(_:sy=.tup (ws.map (NF t b X Y)))(_:s_=.ref ld)(_:ti=.int (f:Int))(_:Np t b X Y)(_:ws.length<=40)(_:(∀ti∈ws,NK ti))(_:f<2*ws.length)(_:Ry t b X Y ws (2*ws.length) M0 M ld kvs L)(_:Q (.int (bh ws f:Int)) M)
def iA(T:Tx K mg):Cal P w K mg base 5 "face_behind" (SA O2):=by
 refine n4 (k:=4) T.eu bA λf _ _ _ s H _ r=>#[_,(aj (bO (au (cx T).m r (ae (dv 0) (ae (dv 2) af))) (bj rfl (aA (ay 3 bA.nd) (aA (ay 4 bA.nd) aS)))) (aj (aC 5 bA.nd (aw En (dv 2) ai)) (aj (aC 6 bA.nd (dv 5)) (aj (bJ Jx rfl (aP (jo (gA r) (dv 1) (dv 4) (by intro _ _;with_unfolding_all rfl))) (ay 7 bA.nd) (aq (br (oS (jS (aJ (jv r.units) (dv 7) (dv 5)) (ib (oS (xl (aJ (bZ r.units) (dv 6) (dv 5)) (rV (eD (au (kY T).m r (ae (dv 4) (ae (dv 3) (ae (az (au (cx T).m r (ae (dv 0) (ae (dv 7) af))) ai) (ae (az (au (cx T).m r (ae (dv 0) (ae (dv 6) af))) ai) af)))))))))))) (aq (aC 6 bA.nd (dv 7))) aR))) (aq (aB (dv 6))))))),λ_ _ _ M Q h=>?_];let[t,b,X,Y,ws,M0,ld,kvs,L,f,5,5,5,S,J,Z,u,V,k]:=h;let exf:Builtin.bitXor (f:Int) 1=((fx f:Nat):Int):=EC f ()
 let n:∀g:Nat,g<2*ws.length->((0<=(fa ws g).1/\(fa ws g).1<=20)/\(0<=(fa ws g).2/\(fa ws g).2<=20))/\((0<=(fb ws g).1/\(fb ws g).1<=20)/\(0<=(fb ws g).2/\(fb ws g).2<=20)):=λg y=>by
  let[_,_,w3]:=aW (ws:=ws) (k:=((g/2:Nat):Int)) () ()
  let W:=Z _ w3
  unfold fa fb fw
  by_cases h:g%2=0
  .rw[MF h];exact #[#[W.a,W.b],W.c,W.d]
  .rw[ME h];exact #[#[W.c,W.d],W.a,W.b]
 let ne:OV ws (2*ws.length) (fb ws f)≠[]:=by
  unfold OV
  have:fx f∈(Jq (2*ws.length)).filter λg=>decide (fa ws g=fb ws f):=K1.mpr #[Ls.mpr (lH u),‹l6 ws f›]
  intro z
  rw[List.map_eq_nil_iff]at z
  rw[z]at this
  cases this
 let[v1,N,v3,v4]:=V.some _ ne;exists 7,7,t,b,X,Y,ws,f,5,5,u,();exists 7,5,_,7,_,7,5;exists 7,trivial;dsimp only;rw[exf];exists 7;exists 7,7,ld,kvs,RT t b X Y (fb ws f),7,5,V.d,v1,(OV ws (2*ws.length) (fb ws f)).map D.int,N;exists λj δ B=>B=M/\∃F,δ=[MA (.tup (ws.map (NF t b X Y))),MA (.ref ld),MA (.int (f:Int)),MA (Mx (MY t b X 1 (fw ws f).1) (MY t b Y 1 (fw ws f).2.1)),MA (Mx (MY t b X 1 (fw ws f).2.2.1) (MY t b Y 1 (fw ws f).2.2.2)),MA (.int ((fx f:Nat):Int)),MA (.int (((ez ws f j).getD (fx f):Nat):Int)),F],#[5,7],λj δ B _ z=>by let[5,_]:=z;exact N,?_
 .rintro j d δ B hj hd ⟨rfl,F,rfl⟩;let hd:((((Jq (2*ws.length)).filter λg=>decide (fa ws g=fb ws f)).map λg:Nat=>(g:Int)).map D.int)[j]?=MA d:=hd;rw[Jf,Jf]at hd;cases C:((Jq (2*ws.length)).filter λg=>decide (fa ws g=fb ws f))[j]? with
  |none=>rw[C]at hd;cases hd
  |some g=>
   rw[C]at hd
   cases hd
   let v:=K1.mp (Jg C)
   let y:g<2*ws.length:=‹v.1›
   let G:fa ws g=fb ws f:=‹v.2›
   let nx:ez ws f (j+1)=if g=fx f then ez ws f j else dO (Po ws f) (ez ws f j) g:=by
    unfold ez;rw[Ml,C,Option.toList_some,List.filter_append,List.foldl_append];by_cases z:g=fx f
    .simp[z]
    .simp[z]
   let p:∀h,ez ws f j=MA h->h∈jO ws f:=λh e=>sY e
   generalize ez ws f j=o at nx p ⊢
   by_cases z:g=fx f
   ·walk_at "u"
    refine yr MD MD (λK l=>#[7,7,7,?_]) (λq=>absurd q ⋯) (pI rfl #[5,MA (.int (g:Int)),?_])
    .rw[show(!decide ((g:Int)=((fx f:Nat):Int)))=MD by rw[z];simp];exact l
    .rw[nx,MF z];rfl
   .rw[ME z]at nx
    let O:(!decide ((g:Int)=((fx f:Nat):Int)))=MC:=by
     have:¬((g:Int)=((fx f:Nat):Int)):=λq=>z ()
     rw[MG this];rfl
    cases o with
    |none=>
     walk_at "u"
     refine yr MC MC (λK l=>#[7,7,7,by rw[O];exact l]) (λ_ K l=>orT MC MC (λR i=>#[7,7,7,?_]) (λq=>absurd q ⋯) l) (zD rfl #[7,5,MA (.int (g:Int)),?_])
     .rw[show decide ((((MB:Option Nat).getD (fx f):Nat):Int)=((fx f:Nat):Int))=MC by simp];exact i
     .rw[nx];rfl
    |some h=>
     let x:=cZ.mp (p h rfl)
     let d1:fd ws (fx f)=((fa ws f).1-(fb ws f).1,(fa ws f).2-(fb ws f).2):=by unfold fd fa fb;rw[Cw];rfl
     let U:∀g,fa ws g=fb ws f->fd ws g=((fb ws g).1-(fb ws f).1,(fb ws g).2-(fb ws f).2):=λg e=>by rw[<-e];rfl
     let es:Po ws f g h=QC ((fa ws f).1-(fb ws f).1,(fa ws f).2-(fb ws f).2) ((fb ws g).1-(fb ws f).1,(fb ws g).2-(fb ws f).2) ((fb ws h).1-(fb ws f).1,(fb ws h).2-(fb ws f).2):=by unfold Po;rw[d1,U g G,U h x.2.1]
     let I:decide ((((MA h).getD (fx f):Nat):Int)=((fx f:Nat):Int))=MD:=MG (λq=>x.2.2 (by let q':((h:Nat):Int)=((fx f:Nat):Int):=q;omega))
     walk_at "u"
     refine yr MC (MD||Po ws f g h) (λK l=>#[7,7,7,by rw[O];exact l]) (λ_ K l=>orT MD (Po ws f g h) (λR i=>#[7,7,7,by rw[I];exact i]) (λ_ R i=>?_) l) ?_
     .exists 7,7,7,7,t,b,X,Y,ws,g,5,5,y,(),7,7,7,t,b,X,Y,ws,h,5,5,x.1,(),7,t,b,X,Y,fb ws f,fa ws f,fb ws g,fb ws h,5,5,5,5,S,(n f u).2.1,(n f u).2.2,(n f u).1.1,(n f u).1.2,(n g y).2.1,(n g y).2.2,(n h x.1).2.1,(n h x.1).2.2,7;rw[<-es];exact i
     .refine bF (λq=>?_) (λq=>?_)
      .exists 7,5,MA (.int (g:Int));let q:Po ws f g h=MC:=‹q›
       let e:dO (Po ws f) (MA h) g=MA g:=by unfold dO;simp[q]
       rw[nx,e];rfl
      .exists 5,MA (.int (g:Int));let q:¬Po ws f g h=MC:=‹q›
       let e:dO (Po ws f) (MA h) g=MA h:=by unfold dO;simp[q]
       rw[nx,e];rfl
 .rintro δ B ⟨rfl,F,rfl⟩;let e:=rP ws f ((OV ws (2*ws.length) (fb ws f)).map D.int).length (by simp[OV]);dsimp only;rw[e];exact #[7,NP k]
theorem dX:NB ["plot","leaving","face","ring","at"] ["plot","leaving","face"] (ao gU):=⋯
theorem t6{t b X Y:Int}{ws:r8}{i:Nat}{f M:MH}{ld:pd}{kvs:Nv}{L:Vc->pd}{p:pd}{o:MO}(V:Ry t b X Y ws i f M ld kvs L)(j:M p=MB):Ry t b X Y ws i f (av M p o) ld kvs L:=#[by rw[ak (ax V.d j)];exact V.d,λq h=>let⟨a,c,e,g⟩:=V.some q h;#[a,by rw[ak (ax c j)];exact c,e,g],V.none,V.inj]
inductive Oi:Prop
 |mk (t b X Y:Int)(ws:r8)(M0:MH)(ld:pd)(kvs:Nv)(L:Vc->pd)(f:Nat)(_:sy=.tup (ws.map (NF t b X Y)))(_:s_=.ref ld)(_:ti=.int (f:Int))(_:Np t b X Y)(_:ws.length<=40)(_:(∀ti∈ws,NK ti))(_:PF ws)(_:f<2*ws.length)(_:Ry t b X Y ws (2*ws.length) M0 M ld kvs L)(_:∀(p:pd)(kk:Nat),M p=MB->NR ws f kk->bh ws (Og ws f kk)=f->Q (.ref p) (av M p (.lst ((rn ws f kk).map sq))))
def p5(T:Tx K mg):Cal P w K mg base 6 "ring_from" (SA Oi):=by
 refine n4 (k:=5) T.eH dX λf _ _ _ s H _ n=>#[_,(aj (aC 3 dX.nd (bD (ae (dv 2) af))) (aj (aC 4 dX.nd (au (iA T).m n (ae (dv 0) (ae (dv 1) (ae (dv 2) af))))) (aj (gu Jx (aJ (jv n.units) (dv 4) (dv 2)) (aj (cz (cj (dv 3) (ae (dv 4) af))) (aq (aC 4 dX.nd (au (iA T).m n (ae (dv 0) (ae (dv 1) (ae (dv 4) af)))))))) (aq (aB (dv 3)))))),λ_ _ _ M Q h=>?_];let[t,b,X,Y,ws,r,ld,kvs,L,f,5,5,5,S,c,d,hF,i,V,k]:=h;refine #[7,NG rfl,λp o=>?_];exists 7,7,7,t,b,X,Y,ws,r,ld,kvs,L,f,5,5,5,S,c,d,i,t6 V o;exists λm δ j=>∃a,Xu (δ=[MA (.tup (ws.map (NF t b X Y))),MA (.ref ld),MA (.int (f:Int)),MA (.ref p),MA (.int ((Og ws f (a+1):Nat):Int))]) (j=av M p (.lst ((rn ws f a).map sq))) (NR ws f a) (m=2*ws.length-a),#[_,0,5,5,BJ ws f,rfl];rintro m δ j ⟨a,rfl,rfl,q,rfl⟩;let v:=u5 d hF i q;exists 7,7,7;refine bF (λh=>?_) (λh=>?_)
 .have ne:bh ws (Og ws f a)≠f:=λz=>by
   have:Og ws f (a+1)=f:=z
   rw[this]at h;simp at h
  let l:=Bp d hF i q ne;let u:=u5 d hF i l;refine #[7,p,7,ag,7,_,7,ag,(by rw[J4,j8];omega),?_];let e:av (av M p (.lst ((rn ws f a).map sq))) p (.lst (((rn ws f a).map sq)++[.int ((Og ws f (a+1):Nat):Int)]))=av M p (.lst ((rn ws f (a+1)).map sq)):=by rw[bE,B5,JE];rfl
  rw[e];exists 7,7,7,t,b,X,Y,ws,r,ld,kvs,L,Og ws f (a+1),5,5,5,S,c,d,jM d hF i (a+1),t6 V o;exact #[2*ws.length-(a+1),(),a+1,5,5,l,rfl]
 .have eq:bh ws (Og ws f a)=f:=by
   have:((Og ws f (a+1):Nat):Int)=(f:Int):=‹h›
   let e:Og ws f (a+1)=bh ws (Og ws f a):=rfl
   omega
  exact #[7,#[_,.refl,k p a o q eq]]
theorem b5:NB ["plot","leaving","rings","gone_along","face","ring","part"] ["plot"] (ao iX):=⋯
theorem Ba{t b X Y:Int}{ws:r8}{i:Nat}{f M j:MH}{ld:pd}{kvs:Nv}{L:Vc->pd}(V:Ry t b X Y ws i f M ld kvs L)(s:SD.Sub M j):Ry t b X Y ws i f j ld kvs L:=#[s _ _ V.d,λq h=>let⟨a,c,e,g⟩:=V.some q h;#[a,s _ _ c,e,g],V.none,V.inj]
def jq{M a:MH}(s:SD.Sub M a){p:pd}(h:a p=MB):M p=MB:=by
 cases z:M p with
 |none=>rfl
 |some o=>rw[s _ _ z]at h;cases h
inductive PU:Prop
 |mk (t b X Y:Int)(ws:r8)(_:sy=.tup (ws.map (NF t b X Y)))(_:Np t b X Y)(_:ws.length<=40)(_:(∀w∈ws,NK w))(_:PF ws)(_:∀(M':MH)(lr:pd)(ps:rp)(rs:p_),SD.Sub M M'->M lr=MB->M' lr=MA (.lst (ps.map D.ref))->Xk ws (2*ws.length) rs->RL M' ps rs->(∀p∈ps,p≠lr/\M p=MB)->Q (.ref lr) M')
def tN(T:Tx K mg):Cal P w K mg base 7 "rings_of" (Pp PU):=by
 refine eQ (k:=6) T.eL b5 λf _ _ _ s H _ C=>#[_,(aj (aC 1 b5.nd (au (jI T).m C (ae (dv 0) af))) (aj (aC 2 b5.nd (bD af)) (aj (aC 3 b5.nd xR) (aj (gZ Jx rfl rfl T.n7 (ae (aw aI ai (aO b7 rfl T.ma ck (ae (dv 0) af))) af) (ay 4 b5.nd) (aq (br (r9 (gA C) (dv 4) (dv 3)) (aj (aC 5 b5.nd (au (p5 T).m C (ae (dv 0) (ae (dv 1) (ae (dv 4) af))))) (aj (cz (cj (dv 2) (ae (dv 5) af))) (aq (bJ Jx rfl (aP (dv 5)) (ay 6 b5.nd) (aq (zb (gA C) (dv 3) (dv 6) kh)))))) aR))) (aq (aB (dv 2))))))),λ_ M Q h=>?_];let[t,b,X,Y,ws,5,S,W,hU,hF,k]:=h;let g0:(ws.map (NF t b X Y)).length=ws.length:=by simp
 refine #[7,t,b,X,Y,ws,5,S,W,λM1 ld kvs L Z V=>?_];refine #[NG rfl,λl a0=>λy I=>?_];let J:y≠l:=λz=>by subst z;rw[ag]at I;cases I
 let c0:M1 y=MB:=by let h:=I;rw[ak J]at h;exact h
 exists 7,aK (bN ⋯),2*ws.length,(by rw[g0];simp),();exists λi δ r=>Zs λ(ps:rp) (x:p_) (n:Nat) (Sg:Int->Bool) (o4 o5 o6:sk)=>Rf (δ=[MA (.tup (ws.map (NF t b X Y))),MA (.ref ld),MA (.ref l),MA (.ref y),o4,o5,o6]) (SD.Sub M1 r) (r l=MA (.lst (ps.map D.ref))) (r y=MA (RV n Sg)) (ps.length<=i) (n<=i*80) (∀g:Nat,Sg (g:Int)=decide (g∈x.flatten)) (Xk ws i x) (RL r ps x) (∀p∈ps,p≠l/\p≠y/\M1 p=MB),?_,?_
 .exact #[[],[],0,λ_=>MD,_,_,7,.new I (.new a0 .refl),(by rw[ak J.symm,ag];rfl),ag,Je _,K3 _,λg=>by simp,5,.nil,λp N=>by cases N]
 .rintro i δ r hi ⟨ps,x,n,Sg,o4,o5,o6,rfl,sb,C,hg,h0,i0,hS,R,O,u⟩;(try dsimp only[SD.aU])
  refine Sh λB hB=>?_;exists 7,7,(i:Int),y,n,Sg,5,5,hg,7;rw[hS];refine bF (λh=>?_) (λh=>hB _ _ #[ps,x,n,Sg,_,_,7,sb,C,hg,(),(),hS,#[x,R,.inl #[‹h›,rfl]],O,u]);let k0:i∉x.flatten:=‹h›
  refine #[7,7,7,t,b,X,Y,ws,M,ld,kvs,L,i,5,5,5,S,W,hU,hF,hi,Ba V sb,λp j N nr eq=>?_];let kb:=u5 hU hF hi nr;let c1:∀{a o G},r a=MA o->(av r p G) a=MA o:=λh=>by rw[ak (ax h N)];exact h
  let d0:p≠l:=(ax C N).symm;let b0:p≠y:=(ax hg N).symm;refine #[7,l,7,c1 C,7,_,7,c1 C,(by simp;omega),?_];let c2:∀{a o G D'},r a=MA o->a≠l->(av (av r p G) l D') a=MA o:=λh n=>by rw[ak n];exact c1 h
  let e0:=c2 (G:=.lst ((rn ws i j).map sq)) (D':=.lst (ps.map D.ref++[.ref p])) hg J;let U:(av (av r p (.lst ((rn ws i j).map sq))) l (.lst (ps.map D.ref++[.ref p]))) p=MA (.lst ((rn ws i j).map sq)):=by rw[ak d0,ag]
  let f0:(av (av r p (.lst ((rn ws i j).map sq))) l (.lst (ps.map D.ref++[.ref p]))) l=MA (.lst (ps.map D.ref++[.ref p])):=ag;let c3:∀{a o},r a=MA o->a≠l->(av (av r p (.lst ((rn ws i j).map sq))) l (.lst (ps.map D.ref++[.ref p]))) a=MA o:=λh n=>c2 h n;clear c2;generalize av (av r p (.lst ((rn ws i j).map sq))) l (.lst (ps.map D.ref++[.ref p]))=N2 at e0 U f0 c3 ⊢;exists 7,(rn ws i j).map sq,U;exists λa δ v=>RY λ(F:Nat) (S':Int->Bool) (o6:sk)=>Zw (δ=[MA (.tup (ws.map (NF t b X Y))),MA (.ref ld),MA (.ref l),MA (.ref y),MA (.int (i:Int)),MA (.ref p),o6]) (v y=MA (RV F S')) (∀c,c≠y->v c=N2 c) (F<=n+a) (∀g:Nat,S' (g:Int)=(decide (g∈x.flatten)||decide (g∈(rn ws i j).take a))),#[n,Sg,7,e0,λ_ _=>rfl,Je _,λg=>by rw[hS];simp],λa δ v _ z=>by let[_,_,_,_,_,z,_]:=z;show v p=_;rw[z p b0];exact U,?_
  .rintro a d δ v ha hd ⟨F,S',o6,rfl,h1,h2,h3,h4⟩;let n0:a<j+1:=by have:a<((rn ws i j).map sq).length:=ha;simpa[j8]using this
   let hd:((rn ws i j).map sq)[a]?=MA d:=hd;rw[Jf]at hd;cases eg:(rn ws i j)[a]? with
   |none=>rw[eg]at hd;cases hd
   |some g=>
    rw[eg]at hd
    cases hd
    exists 7,7,y,(g:Int),F,S',5,5,h1,()
    refine #[F+1,_,7,ag,λc hc=>by rw[ak hc];exact h2 c hc,(),λg'=>?_]
    rw[h4,Ml,eg]
    let e:decide (((g':Nat):Int)=((g:Nat):Int))=decide (g'=g):=by rw[MK];omega
    rw[e]
    simp only[Jv,Option.toList_some,Ku,Bool.decide_or]
    cases decide (g'=g)<;>cases decide (g'∈x.flatten)<;>simp
  .rintro δ v ⟨F,S',o6,rfl,h1,h2,h3,h4⟩;let h3:F<=n+(j+1):=by simpa[j8]using h3
   let h4:∀g:Nat,S' (g:Int)=(decide (g∈x.flatten)||decide (g∈(rn ws i j).take ((rn ws i j).map sq).length)):=h4;let et:(rn ws i j).take ((rn ws i j).map sq).length=rn ws i j:=KR (_);rw[et]at h4;let c4:∀{a o},r a=MA o->a≠l->a≠y->v a=MA o:=λh n F=>by rw[h2 _ F];exact c3 h n
   refine hB _ _ #[ps++[p],x++[rn ws i j],F,S',_,_,7,λa o h=>c4 (sb _ _ h) (λz=>by subst z;rw[a0]at h;cases h) (λz=>by subst z;rw[c0]at h;cases h),(by rw[h2 l J.symm,JE];exact f0),h1,by simp;omega,(),λg=>?_,#[x,R,.inr #[k0,_,#[j,nr,eq,rfl],rfl]],?_,λp' m0=>?_]
   .rw[h4];simp only[List.flatten_append,Jv,LS,List.flatten_nil,KD,Bool.decide_or]
   .exact(O.mono λq hq o e=>c4 e (u q hq).1 (u q hq).2.1).snoc (by rw[h2 p b0];exact U)
   .rcases Jv.mp m0 with z|z
    .exact u p' z
    .have:p'=p:=‹z›
     subst this;exact #[d0,b0,jq sb N]
 .rintro δ r ⟨ps,x,n,Sg,o4,o5,o6,rfl,sb,C,hg,h0,i0,hS,R,O,u⟩;exact #[7,#[r,.refl,k r l ps x (SD.Sub.trans Z sb) (jq Z a0) C R O λp N=>#[(u p N).1,jq Z (u p N).2.2]]]
theorem cy:NB ["parts","common","part"] ["parts"] (ao dG):=⋯
inductive OQ:Prop
 |mk (p:pd)(qs:List Rat)(b:Nat)(_:sy=.ref p)(_:M p=MA (.lst (qs.map My)))(_:0<b)(_:b<=10^26)(_:(∀q∈qs,q.den ∣ b))(_:∀c:Nat,0<c->c ∣ b->(∀q∈qs,q.den ∣ c)->Q (.int (c:Int)) M)
def gj(T:Tx K mg):Cal P w K mg base 2 "common_bottom" (Pp OQ):=by
 refine eQ (k:=1) T.eT cy λf _ _ _ s H _ F=>#[_,(aj (aC 1 cy.nd ai) (aj (bJ Jx rfl (aP (dv 0)) (ay 2 cy.nd) (aq (aC 1 cy.nd (aw aI (aw gn (dv 1) (au (d7 T).m F (ae (dv 1) (ae (az (dv 2) ai) af)))) (az (dv 2) ai))))) (aq (aB (dv 1))))),λ_ M Q h=>?_];let[p,qs,b,5,C,a,u,l,k]:=h;exists 7,qs.map My,C;exists λi δ o=>o=M/\RZ λ(c:Nat) (v:sk)=>Xu (δ=[MA (.ref p),MA (.int (c:Int)),v]) (0<c) (c ∣ b) (∀q∈qs.take i,q.den ∣ c),#[5,1,7,⋯,Nat.one_dvd _,λq l=>by simp at l],λi δ o _ z=>by let[5,_]:=z;exact C,?_
 .rintro i d δ o L hd ⟨rfl,c,v,rfl,c0,r,x⟩;let hd:(qs.map My)[i]?=MA d:=hd;rw[Jf]at hd;cases t:qs[i]? with
  |none=>rw[t]at hd;cases hd
  |some q=>
   rw[t]at hd
   cases hd
   let g:=Jg t
   let g0:0<LN c q.den:=Nat.gcd_pos_of_pos_left _ c0
   let G:c<=b:=Nat.le_of_dvd a r
   let I:LN c q.den<=c:=Nat.gcd_le_left _ c0
   let bd:∀{n:Nat},n<=10^26->Bd 100 (n:Int):=λ{n} h=>by show(n:Int).natAbs<2^100;omega
   let y:Bd 100 ((c:Int).fdiv ((LN c q.den:Nat):Int)):=(bd (n:=c) ()).of_le (by rw[K4 _ ()];exact Int.natAbs_ediv_le_natAbs _ _)
   let J:(c:Int).fdiv ((LN c q.den:Nat):Int)*(q.den:Int)=((Nat.lcm c q.den:Nat):Int):=by
    rw[K4 _ (),<-Int.natCast_ediv,<-Int.natCast_mul]
    congr 1
    rw[Nat.lcm,Nat.mul_comm c q.den,Nat.mul_div_assoc _ (Nat.gcd_dvd_left c q.den),Nat.mul_comm]
   exists 7,7,7,7,c,q.den,5,5,#[(),(bd ()).mono ⋯],7,7,eR (y.mono ⋯) ((bd (JT (Nat.le_of_dvd a (l q g)) u)).mono ⋯)
   dsimp only
   rw[J]
   refine #[5,Nat.lcm c q.den,7,Nat.lcm_pos c0 q.den_pos,Nat.lcm_dvd r (l q g),λB j=>?_]
   rw[Ml,t]at j
   rcases Jv.mp j with z|z
   .exact Nat.dvd_trans (x B z) (Nat.dvd_lcm_left c q.den)
   .have:B=q:=‹z›
    subst this;exact Nat.dvd_lcm_right c B.den
 .rintro δ o ⟨rfl,c,v,rfl,c0,r,x⟩;exact #[7,NP (k c c0 r (by let e:qs.take (qs.map My).length=qs:=KR (_);rw[<-e];exact x))]
theorem qD:NB ["part","bottom"] ["part","bottom"] (ao iJ):=⋯
inductive PQ:Prop
 |mk (q:Rat)(B:Int)(_:sy=My q)(_:s_=.int B)(_:MZ 200 q)(_:0<B)(_:B<=10^26)(_:Q (.int (q.num*B.fdiv (q.den:Int))) M)
def fT(T:Tx K mg):Cal P w K mg base 1 "top_over" (Ng PQ):=by
 refine a9 (k:=0) T.e_ qD λf _ _ _ s H _ d=>#[_,(aq (aB (aw aI (az (dv 0) ai) (aw gn (dv 1) (az (dv 0) ai))))),λ_ _ M Q h=>?_];let[q,B,5,5,a,h0,h1,k]:=h;let b:Bd 100 B:=by show B.natAbs<2^100;omega
 let c:(B.fdiv (q.den:Int)).natAbs<=B.natAbs:=by rw[K4 _ ()];exact Int.natAbs_ediv_le_natAbs _ _
 exact #[7,7,7,7,7,#[Mz q,a.2.mono ⋯],eR (a.1.mono ⋯) ((b.of_le c).mono ⋯),NP k]
theorem aT:NB ["plot","ring","ways","x_bottom","y_bottom","total","x","y","next_x","next_y"] ["plot","ring"] (ao fO):=⋯
def nZ{I:QL}{js:q7}{l:OL}{te:TD}{δ:DS}{c:MH}{Q:DK}(c0 a g0 g1:Nat->D)(q:I.n<=1000)(hC:∀p b,c p=MB->I.C (av c p (.lst b)))(k:∀i d,i<I.n->I.item i=MA d->d=.tup [c0 i,a i]) (hw:∀i M R,i<I.n->R #[2,λj=>[c0 i,a i][j]?,λM=>Fm M (.tup [c0 i,a i]) [c0 i,a i]] M->l (cδ [MA (.tup [c0 i,a i]),MB] js δ) M R) (h0:∀i M (K:DK),i<I.n->K (g0 i) M->te (cδ [MA (.tup [c0 i,a i]),MA (c0 i)] js δ) M K) (h1:∀i M (K:DK),i<I.n->K (g1 i) M->te (cδ [MA (.tup [c0 i,a i]),MA (a i)] js δ) M K) (r:∀p,c p=MB->Q (.ref p) (av c p (.lst ((Jq I.n).flatMap λi=>[g0 i,g1 i])))):Hc I js l te δ c Q:=by
 refine #[q,λp m=>#[λi b M=>b=(Jq i).flatMap (λi=>[g0 i,g1 i])/\M=av c p (.lst b),#[5,rfl],?_,?_,?_]]
 .rintro i b M _ ⟨_,rfl⟩;exact hC p b m
 .rintro i b d M f hd ⟨rfl,rfl⟩;obtain rfl:=k i d f hd;refine hw i _ _ f #[NG rfl,λj g M=>g=(Jq i).flatMap (λi=>[g0 i,g1 i])++[g0 i,g1 i].take j/\M=av c p (.lst g),#[by simp,rfl],λ_ _ _ _ _=>rfl,?_,?_]
  .rintro j g e M o h ⟨rfl,rfl⟩;let o:j<2:=o;let h:[c0 i,a i][j]?=MA e:=h;rcases(():j=0\/j=1)with rfl|rfl
   .cases h;exact h0 i _ _ f #[_,.refl,ag,by simp,by rw[bE]]
   .cases h;exact h1 i _ _ f #[_,.refl,ag,by simp,by rw[bE]]
  .rintro g M ⟨rfl,rfl⟩;refine #[?_,rfl];rw[LQ,List.flatMap_append];simp
 .rintro b M ⟨rfl,rfl⟩;exact r p m
inductive O8:Prop
 |mk (t b X Y:Int)(ws:r8)(p:pd)(r:q7)(_:sy=.tup (ws.map (NF t b X Y)))(_:s_=.ref p)(_:M p=MA (.lst (r.map sq)))(_:Np t b X Y)(_:(∀w∈ws,NK w))(_:ws.length<=40)(_:r.length<=80)(_:(∀g∈r,g<2*ws.length))(_:∀tot B:Int,Q (.tup [.int tot,.int B]) M)
def oK(T:Tx K mg):Cal P w K mg base 3 "twice_area" (Ng O8):=by
 refine a9 (k:=2) T.fC aT λf _ _ _ s H _ J=>#[_,(aj (d4 2 aT.nd (NC.of (xs:=["face"]) (js:=[0]) rfl) rfl (aP (dv 1)) (λ_ _ _ _=>aY) (λ_ _ _ _=>(au (cx T).m J (ae (dv 1) (ae (dv 0) af))))) (aj (aC 3 aT.nd (au (gj T).m J (ae (zm (NC.of (xs:=["way","corner"]) (js:=[]) rfl) rfl (aP (dv 2)) (λ_ _ _ _=>(aP (dv 0))) (λ_ _ _ _=>(az (dv 1) ai))) af))) (aj (aC 4 aT.nd (au (gj T).m J (ae (zm (NC.of (xs:=["way","corner"]) (js:=[]) rfl) rfl (aP (dv 2)) (λ_ _ _ _=>(aP (dv 0))) (λ_ _ _ _=>(az (dv 1) ai))) af))) (aj (aC 5 aT.nd ai) (aj (bJ Jx rfl (aP (dv 2)) (bj rfl (aA (bj rfl (aA (ay 6 aT.nd) (aA (ay 7 aT.nd) aS))) (aA (bj rfl (aA (ay 8 aT.nd) (aA (ay 9 aT.nd) aS))) aS))) (aj (tj 5 aT.nd xV (aw aI (au (fT T).m J (ae (dv 6) (ae (dv 3) af))) (au (fT T).m J (ae (dv 9) (ae (dv 4) af))))) (aq (tj 5 aT.nd CU (aw aI (au (fT T).m J (ae (dv 8) (ae (dv 3) af))) (au (fT T).m J (ae (dv 7) (ae (dv 4) af)))))))) (aq (aB (aG (ae (dv 5) (ae (aw aI (dv 3) (dv 4)) af)))))))))),λ_ _ M Q h=>?_];let[t,b,X,Y,ws,p,r,5,5,hp,S,hU,y0,z0,J,k]:=h;refine #[7,_,hp,comp_map (λj=>NF t b X Y (fw ws ((r[j]?).getD 0))) (by show(r.map sq).length<=1000000;simp;omega) (λq ys V=>by show(av M q _) p=_;rw[ak (ax hp V)];exact hp) ?_ (λF u0=>?_)]
 .intro j d M6 hj hd sb;let hd:(r.map sq)[j]?=MA d:=hd;rw[Jf]at hd;cases y:r[j]? with
  |none=>rw[y]at hd;cases hd
  |some g=>
   rw[y]at hd
   cases hd
   exact #[7,λK hK=>#[7,7,t,b,X,Y,ws,g,5,5,J g (Jg y),(),hK _ .refl]]
 let e1:(Jq (r.map sq).length).map (λj=>NF t b X Y (fw ws ((r[j]?).getD 0)))=r.map λg=>NF t b X Y (fw ws g):=by
  rw[J4];apply List.ext_getElem
  .simp
  .intro i h1 h2;simp at h1;simp[h1]
 dsimp only;rw[e1];let C:(av M F (.lst (r.map λg=>NF t b X Y (fw ws g)))) F=MA (.lst (r.map λg=>NF t b X Y (fw ws g))):=ag;let c0:SD.Sub M (av M F (.lst (r.map λg=>NF t b X Y (fw ws g)))):=.new u0 .refl;generalize av M F (.lst (r.map λg=>NF t b X Y (fw ws g)))=M1 at C c0 ⊢;let d0:(r.map λg=>NF t b X Y (fw ws g)).length=r.length:=by simp
 refine #[7,_,C,nZ (λi=>Mx (MY t b X 1 (fa ws ((r[i]?).getD 0)).1) (MY t b Y 1 (fa ws ((r[i]?).getD 0)).2)) (λi=>Mx (MY t b X 1 (fb ws ((r[i]?).getD 0)).1) (MY t b Y 1 (fb ws ((r[i]?).getD 0)).2)) (λi=>My (MY t b X 1 (fa ws ((r[i]?).getD 0)).1)) (λi=>My (MY t b X 1 (fb ws ((r[i]?).getD 0)).1)) (by show(r.map λg=>NF t b X Y (fw ws g)).length<=1000;omega) (λq ys V=>by show(av M1 q _) F=_;rw[ak (ax C V)];exact C) (λi d L hd=>?_) (λi M R L h=>#[7,7,h]) (λi M K L h=>#[7,7,h]) (λi M K L h=>#[7,7,h]) (λpx e0=>?_)]
 .have hd:(r.map λg=>NF t b X Y (fw ws g))[i]?=MA d:=hd;rw[Jf]at hd;cases y:r[i]? with
  |none=>rw[y]at hd;cases hd
  |some g=>
   rw[y]at hd
   cases hd
   rfl
 obtain⟨e,rfl⟩:∃e:Nat,b=(e:Int):=#[b.toNat,by have:=S.b0;omega];let N:0<e:=by have:=S.b0;omega
 let dv:∀(Z x:Int),(MY t (e:Int) Z 1 x).den ∣ e:=λZ x=>by
  let h:=Bs (n:=x*t+Z*1) (d:=(e:Int)*1) ()
  rw[Int.mul_one (e:Int)]at h
  unfold MY
  rw[Int.mul_one (e:Int)]
  exact Int.ofNat_dvd.mp h
 let eX:∀(Z:Int)(O:Vc->Int)(n:Nat),((Jq n).flatMap λi=>[My (MY t (e:Int) Z 1 (O (fa ws ((r[i]?).getD 0)))),My (MY t (e:Int) Z 1 (O (fb ws ((r[i]?).getD 0))))])=((Jq n).flatMap λi=>[MY t (e:Int) Z 1 (O (fa ws ((r[i]?).getD 0))),MY t (e:Int) Z 1 (O (fb ws ((r[i]?).getD 0)))]).map My:=λZ O n=>by rw[List.map_flatMap];rfl
 let U:∀(Z:Int)(O:Vc->Int)(n:Nat)(q:Rat),q∈((Jq n).flatMap λi=>[MY t (e:Int) Z 1 (O (fa ws ((r[i]?).getD 0))),MY t (e:Int) Z 1 (O (fb ws ((r[i]?).getD 0)))])->q.den ∣ e:=λZ O n q V=>by
  let[i,_,L]:=List.mem_flatMap.mp V;rcases JM.mp L with z|z
  .rw[z];exact dv _ _
  .rw[show q=_ from by simpa using z];exact dv _ _
 let f0:e<=10^26:=by have:=S.b1;omega
 refine #[px,_,e,5,(by rw[ag];dsimp only;rw[d0];exact congrArg (λz=>MA (MO.lst z)) (eX X (λv=>v.1) r.length)),N,f0,U X (λv=>v.1) _,λxb a1 v0 c1=>?_];let G:∀{o},(av M1 px o) F=MA (.lst (r.map λg=>NF t (e:Int) X Y (fw ws g))):=λ{o}=>by rw[ak (ax C e0)];exact C
 let w0:∀{o},SD.Sub M (av M1 px o):=λ{o}=>.new e0 c0;refine #[7,_,G,nZ (λi=>Mx (MY t (e:Int) X 1 (fa ws ((r[i]?).getD 0)).1) (MY t (e:Int) Y 1 (fa ws ((r[i]?).getD 0)).2)) (λi=>Mx (MY t (e:Int) X 1 (fb ws ((r[i]?).getD 0)).1) (MY t (e:Int) Y 1 (fb ws ((r[i]?).getD 0)).2)) (λi=>My (MY t (e:Int) Y 1 (fa ws ((r[i]?).getD 0)).2)) (λi=>My (MY t (e:Int) Y 1 (fb ws ((r[i]?).getD 0)).2)) (by show(r.map λg=>NF t (e:Int) X Y (fw ws g)).length<=1000;omega) (λq ys V=>by show(av _ q _) F=_;rw[ak (ax G V)];exact G) (λi d L hd=>?_) (λi M R L h=>#[7,7,h]) (λi M K L h=>#[7,7,h]) (λi M K L h=>#[7,7,h]) (λpy g0=>?_)]
 .have hd:(r.map λg=>NF t (e:Int) X Y (fw ws g))[i]?=MA d:=hd;rw[Jf]at hd;cases y:r[i]? with
  |none=>rw[y]at hd;cases hd
  |some g=>
   rw[y]at hd
   cases hd
   rfl
 refine #[py,_,e,5,(by rw[ag];dsimp only;rw[d0];exact congrArg (λz=>MA (MO.lst z)) (eX Y (λv=>v.2) r.length)),N,f0,U Y (λv=>v.2) _,λyb d1 x0 f1=>?_];let i0:∀{o o'},py≠F->(av (av M1 px o) py o') F=MA (.lst (r.map λg=>NF t (e:Int) X Y (fw ws g))):=λne=>by rw[ak ne.symm];exact G
 let k0:py≠F:=(ax G g0).symm;exists 7,_,i0 k0;let a0:=SD.Sub.new (o:=MO.lst ((Jq (r.map λg=>NF t (e:Int) X Y (fw ws g)).length).flatMap λi=>[My (MY t (e:Int) Y 1 (fa ws ((r[i]?).getD 0)).2),My (MY t (e:Int) Y 1 (fb ws ((r[i]?).getD 0)).2)])) g0 w0;dsimp only at a0 ⊢;let m0:=i0 (o:=MO.lst ((Jq (r.map λg=>NF t (e:Int) X Y (fw ws g)).length).flatMap λi=>[My (MY t (e:Int) X 1 (fa ws ((r[i]?).getD 0)).1),My (MY t (e:Int) X 1 (fb ws ((r[i]?).getD 0)).1)])) (o':=MO.lst ((Jq (r.map λg=>NF t (e:Int) X Y (fw ws g)).length).flatMap λi=>[My (MY t (e:Int) Y 1 (fa ws ((r[i]?).getD 0)).2),My (MY t (e:Int) Y 1 (fb ws ((r[i]?).getD 0)).2)])) k0;generalize av (av M1 px (MO.lst ((Jq (r.map λg=>NF t (e:Int) X Y (fw ws g)).length).flatMap λi=>[My (MY t (e:Int) X 1 (fa ws ((r[i]?).getD 0)).1),My (MY t (e:Int) X 1 (fb ws ((r[i]?).getD 0)).1)]))) py (MO.lst ((Jq (r.map λg=>NF t (e:Int) X Y (fw ws g)).length).flatMap λi=>[My (MY t (e:Int) Y 1 (fa ws ((r[i]?).getD 0)).2),My (MY t (e:Int) Y 1 (fb ws ((r[i]?).getD 0)).2)]))=M3 at a0 m0 ⊢;let l:(0:Int)<(xb:Int)/\(xb:Int)<=10^26:=by have:=Nat.le_of_dvd N v0;omega
 let u:(0:Int)<(yb:Int)/\(yb:Int)<=10^26:=by have:=Nat.le_of_dvd N x0;omega
 exists λi δ M'=>M'=M3/\Zt λ(I:Int) (o6 o7 o8 o9:sk)=>δ=[MA (.tup (ws.map (NF t (e:Int) X Y))),MA (.ref p),MA (.ref F),MA (.int (xb:Int)),MA (.int (yb:Int)),MA (.int I),o6,o7,o8,o9],#[5,0,_,_,_,7],λi δ M' _ z=>by let[5,_]:=z;exact m0,?_
 .rintro i d δ M' L hd ⟨rfl,I,o6,o7,o8,o9,rfl⟩;let hd:(r.map λg=>NF t (e:Int) X Y (fw ws g))[i]?=MA d:=hd;rw[Jf]at hd;cases y:r[i]? with
  |none=>rw[y]at hd;cases hd
  |some g=>
   rw[y]at hd
   cases hd
   let hg:=J g (Jg y)
   let[_,_,w3]:=aW (ws:=ws) (k:=((g/2:Nat):Int)) () ()
   let W:=hU _ w3
   let W6:∀{z:Int},(0<=z/\z<=20)->(-(10^6)<=z/\z<=10^6):=λ{z} h=>()
   let one:(0:Int)<1/\(1:Int)<=10^6:=⋯
   let rg:((0<=(fa ws g).1/\(fa ws g).1<=20)/\(0<=(fa ws g).2/\(fa ws g).2<=20))/\((0<=(fb ws g).1/\(fb ws g).1<=20)/\(0<=(fb ws g).2/\(fb ws g).2<=20)):=by
    unfold fa fb fw;by_cases h:g%2=0
    .rw[MF h];exact #[#[W.a,W.b],W.c,W.d]
    .rw[ME h];exact #[#[W.c,W.d],W.a,W.b]
   let n0:MZ 200 (MY t (e:Int) X 1 (fa ws g).1):=S.bx one (W6 rg.1.1)
   let o0:MZ 200 (MY t (e:Int) Y 1 (fa ws g).2):=S.by' one (W6 rg.1.2)
   let q0:MZ 200 (MY t (e:Int) X 1 (fb ws g).1):=S.bx one (W6 rg.2.1)
   let r0:MZ 200 (MY t (e:Int) Y 1 (fb ws g).2):=S.by' one (W6 rg.2.2)
   let tb:∀{q:Rat}{B:Int},MZ 200 q->0<B->B<=10^26->Bd 300 (q.num*B.fdiv (q.den:Int)):=λ{q B} h h0 h1=>by
    let bB:Bd 100 B:=by show B.natAbs<2^100;omega
    let dB:(B.fdiv (q.den:Int)).natAbs<=B.natAbs:=by rw[K4 _ ()];exact Int.natAbs_ediv_le_natAbs _ _
    exact h.1.mul (bB.of_le dB)
   let m6:∀{z:Int},Bd 300 z->Bd 1000000 z:=λh=>h.mono ⋯
   exists 7,5,_,7,7,5,_,7,_,7,5,_,7,7,5,_,7,_,7,5,5
   (try dsimp only[SD.aU])
   refine Sh λB hB=>?_
   exists I,5,7,7,MY t (e:Int) X 1 (fa ws g).1,(xb:Int),5,5,n0,l.1,l.2,7,7,MY t (e:Int) Y 1 (fb ws g).2,(yb:Int),5,5,r0,u.1,u.2,eR (m6 (tb n0 l.1 l.2)) (m6 (tb r0 u.1 u.2)),7
   exists 7,7,7,MY t (e:Int) X 1 (fb ws g).1,(xb:Int),5,5,q0,l.1,l.2,7,7,MY t (e:Int) Y 1 (fa ws g).2,(yb:Int),5,5,o0,u.1,u.2,eR (m6 (tb q0 l.1 l.2)) (m6 (tb o0 u.1 u.2)),7
   exact hB _ _ #[5,_,_,_,_,7]
 .rintro δ M' ⟨rfl,I,o6,o7,o8,o9,rfl⟩;let s0:Bd 100 (xb:Int):=by show(xb:Int).natAbs<2^100;omega
  let t0:Bd 100 (yb:Int):=by show(yb:Int).natAbs<2^100;omega
  exact #[7,7,7,eR (s0.mono ⋯) (t0.mono ⋯),NG rfl,#[M,a0,k I _]]
theorem cI:NB ["plot","outers","inners","ring"] ["plot"] (ao cT):=⋯
inductive Nz:Prop
 |mk (t b X Y:Int)(ws:r8)(_:sy=.tup (ws.map (NF t b X Y)))(_:Np t b X Y)(_:ws.length<=40)(_:(∀w∈ws,NK w))(_:PF ws)(_:∀(M':MH)(lo li:pd)(ps qs:rp)(us vs:p_),SD.Sub M M'->(∀r∈us++vs,YB ws r)->us.length<=80->vs.length<=80->M' lo=MA (.lst (ps.map D.ref))->M' li=MA (.lst (qs.map D.ref))->RL M' ps us->RL M' qs vs->M lo=MB->M li=MB->(∀p∈ps++qs,M p=MB)->Q (.tup [.ref lo,.ref li]) M')
def jr(T:Tx K mg):Cal P w K mg base 8 "outer_and_inner" (Pp Nz):=by
 refine eQ (k:=7) T.f_ cI λf cdv A outer s H E N=>#[_,(aj (iD 1 2 rfl cI.nd (ae (bD af) (ae (bD af) af))) (aj (bJ Jx rfl (aP (au (tN T).m N (ae (dv 0) af))) (ay 3 cI.nd) (aq (br (aJ (gV N.units) (az (au (oK T).m N (ae (dv 0) (ae (dv 3) af))) ai) ai) (aq (cz (cj (dv 1) (ae (dv 3) af)))) (aq (cz (cj (dv 2) (ae (dv 3) af))))))) (aq (aB (aG (ae (dv 1) (ae (dv 2) af))))))),λ_ M Q h=>?_];let[t,b,X,Y,ws,5,S,G,hU,hF,k]:=h;refine #[NG rfl,λy O=>#[NG rfl,λn U=>?_]];let q:y≠n:=ax ag U;let I:M n=MB:=by let h:=U;rw[ak q.symm]at h;exact h
 exists _,7;refine #[7,t,b,X,Y,ws,5,S,G,hU,hF,λV lr pr rs W C b0 R c0 f0=>?_];let d0:V y=MA (.lst []):=W _ _ (by rw[ak q,ag]);let e0:V n=MA (.lst []):=W _ _ ag;let g0:SD.Sub M V:=SD.Sub.trans (.new U (.new O .refl)) W;let h0:lr≠y:=λz=>by subst z;rw[ak q,ag]at C;cases C
 let i0:lr≠n:=λz=>by subst z;rw[ag]at C;cases C
 let pn:∀p∈pr,p≠y/\p≠n/\M p=MB:=λp g=>by
  let h:=(f0 p g).2
  let a:p≠n:=λz=>by subst z;rw[ag]at h;cases h
  rw[ak a]at h
  let c:p≠y:=λz=>by subst z;rw[ag]at h;cases h
  rw[ak c]at h
  exact #[c,a,h]
 let k0:=tR R;let m0:=c0.len;let J:=pK hU hF (Je _) R;exists _,b0;exists λi δ F=>Zt λ(ps qs:rp) (us vs:p_) (o3:sk)=>Rf (δ=[MA (.tup (ws.map (NF t b X Y))),MA (.ref y),MA (.ref n),o3]) (∀c,c≠y->c≠n->F c=V c) (F y=MA (.lst (ps.map D.ref))) (F n=MA (.lst (qs.map D.ref))) (RL V ps us) (RL V qs vs) (∀r∈us++vs,r∈rs) (ps.length<=i) (qs.length<=i) (∀p∈ps++qs,p∈pr),#[[],[],[],[],7,λ_ _ _=>rfl,d0,e0,.nil,.nil,(λr N=>by cases N),Je _,Je _,λp g=>by cases g],λi δ F _ z=>by let[_,_,_,_,_,_,z,_]:=z;show F lr=_;rw[z lr h0 i0];exact b0,?_
 .rintro i d δ F hi hd ⟨ps,qs,us,vs,o3,rfl,l,u,v,R1,R2,L,l1,l2,j⟩;let hi:i<pr.length:=by have:i<(pr.map D.ref).length:=hi;simpa using this
  let hd:(pr.map D.ref)[i]?=MA d:=hd;rw[Jf,J7 hi]at hd;cases hd;let[r,er,Z]:=c0.get hi;let a0:pr[i]∈pr:=Kj hi;let[p1,p2,p3]:=pn _ a0;let A:=J r (Jg er);refine #[7,7,t,b,X,Y,ws,pr[i],r,5,5,(by rw[l _ p1 p2];exact Z),S,hU,G,by have:=A.len;omega,A.lt,λn0 B=>?_];exists 7,trivial,7;let mr:=Jg er;refine bF (λh=>?_) (λh=>?_)
  .refine #[7,y,7,u,7,_,7,u,(by rw[J4];omega),?_];refine #[ps++[pr[i]],qs,us++[r],vs,7,λc a c2=>by rw[ak a];exact l c a c2,by rw[ag,JE];rfl,by rw[ak q.symm];exact v,R1.snoc Z,R2,λx hx=>by simp only[Jv,Ku]at hx L;exact hx.elim (λh=>h.elim (λh=>L x (.inl h)) λh=>h▸mr) λh=>L x (.inr h),by simp;omega,(),λp g=>?_];rcases Jv.mp g with z|z
   .rcases Jv.mp z with z|z
    .exact j p (Jv.mpr (.inl z))
    .rw[show p=pr[i] by simpa using z];exact a0
   .exact j p (Jv.mpr (.inr z))
  .refine #[7,n,7,v,7,_,7,v,(by rw[J4];omega),?_];refine #[ps,qs++[pr[i]],us,vs++[r],7,λc a c2=>by rw[ak c2];exact l c a c2,by rw[ak q];exact u,by rw[ag,JE];rfl,R1,R2.snoc Z,λx hx=>by simp only[Jv,Ku]at hx L;exact hx.elim (λh=>L x (.inl h)) λh=>h.elim (λh=>L x (.inr h)) λh=>h▸mr,(),by simp;omega,λp g=>?_];rcases Jv.mp g with z|z
   .exact j p (Jv.mpr (.inl z))
   .rcases Jv.mp z with z|z
    .exact j p (Jv.mpr (.inr z))
    .rw[show p=pr[i] by simpa using z];exact a0
 .rintro δ F ⟨ps,qs,us,vs,o3,rfl,l,u,v,R1,R2,L,l1,l2,j⟩;let l1:ps.length<=(pr.map D.ref).length:=l1;rw[J4]at l1;let l2:qs.length<=(pr.map D.ref).length:=l2;rw[J4]at l2;let kp:∀p∈ps++qs,F p=V p:=λp g=>let z:=pn p (j p g);l p z.1 z.2.1
  refine #[7,7,NG rfl,NP (k F y n ps qs us vs (λa o h=>?_) (λr N=>J r (L r N)) (by have:=R1.len;omega) (by have:=R2.len;omega) u v (R1.mono λp g o e=>by rw[kp p (Jv.mpr (.inl g))];exact e) (R2.mono λp g o e=>by rw[kp p (Jv.mpr (.inr g))];exact e) O I λp g=>(pn p (j p g)).2.2)];rw[l a (λz=>by subst z;rw[O]at h;cases h) (λz=>by subst z;rw[I]at h;cases h)];exact g0 _ _ h
theorem mT:NB ["one","other"] ["one","other"] (ao f7):=⋯
inductive Od:Prop
 |mk (c d g h:Rat)(_:sy=Mx c d)(_:s_=Mx g h)(_:MZ 100000 c)(_:MZ 100000 d)(_:MZ 100000 g)(_:MZ 100000 h)(_:∀s:Rat×Rat,s=(if Mr c d g h then(c,d)else(g,h))->Q (Mx s.1 s.2) M)
def jf(T:Tx K mg):Cal P w K mg base 3 "earlier_of" (Ng Od):=by
 refine a9 (k:=2) T.f' mT λf _ _ _ s H _ b=>#[_,(aq (aB (j7 (eD (au (dk T).m b (ae (dv 0) (ae (dv 1) af)))) (dv 0) (dv 1)))),λ_ _ M Q h=>?_];let[c,d,g,a,5,5,h1,h2,e,i,k]:=h;exists 7,7,c,d,g,a,5,5,h1,h2,e,i,7;refine bF (λh=>?_) (λh=>?_)
 .have z:Mr c d g a:=by simpa[Mr]using h
  have:=k (c,d) (by rw[MF z]);exact #[7,NP this]
 .have z:¬Mr c d g a:=by simpa[Mr]using h
  have:=k (g,a) (by rw[ME z]);exact #[7,NP this]
theorem cF:NB ["plot","ring","first","face"] ["plot","ring"] (ao d6):=⋯
inductive OS:Prop
 |mk (t b X Y:Int)(ws:r8)(p:pd)(r:q7)(_:sy=.tup (ws.map (NF t b X Y)))(_:s_=.ref p)(_:M p=MA (.lst (r.map sq)))(_:Np t b X Y)(_:(∀w∈ws,NK w))(_:ws.length<=40)(_:0<r.length)(_:(∀g∈r,g<2*ws.length))(_:∀c,Nd c->Q (N4 t b X Y c) M)
def ml(T:Tx K mg):Cal P w K mg base 4 "first_corner" (Ng OS):=by
 refine a9 (k:=3) T.gi cF λf _ _ _ s H _ e=>#[_,(aj (aC 2 cF.nd (az (au (cx T).m e (ae (dv 0) (ae (az (dv 1) ai) af))) ai)) (aj (bJ Jx rfl (aP (dv 1)) (ay 3 cF.nd) (aq (aC 2 cF.nd (au (jf T).m e (ae (dv 2) (ae (az (au (cx T).m e (ae (dv 0) (ae (dv 3) af))) ai) af)))))) (aq (aB (dv 2))))),λ_ _ M Q h=>?_];let[t,b,X,Y,ws,p,r,5,5,v,S,C,F,j,e,k]:=h
 obtain⟨g0,G,x⟩:∃g0 G,r=g0::G:=by
  cases r with
  |nil=>simp at j
  |cons a l=>exact #[a,l,rfl]
 let o:∀{z:Vc},Nd z->MZ 100000 (MY t b X 1 z.1)/\MZ 100000 (MY t b Y 1 z.2):=λ{z} h=>by
  let one:(0:Int)<1/\(1:Int)<=10^6:=⋯
  exact #[(S.bx one (by have:=h.1;omega)).mono ⋯,(S.by' one (by have:=h.2;omega)).mono ⋯]
 exists 7,7,_,_,v,(show atI _ ((0:Nat):Int)=MA (.int (g0:Int))from bM (by rw[x];rfl)),t,b,X,Y,ws,g0,5,5,e g0 (by rw[x];simp),(),7;exists 7,_,v;exists λi δ q=>q=M/\RZ λ(c:Vc) (y:sk)=>Nd c/\δ=[MA (.tup (ws.map (NF t b X Y))),MA (.ref p),MA (N4 t b X Y c),y],#[5,fa ws g0,_,yL C (e g0 (by rw[x];simp)),rfl],λi δ q _ z=>by let[5,_]:=z;exact v,?_
 .rintro i d δ q u hd ⟨rfl,c,y,b1,rfl⟩;let u:i<r.length:=by have:i<(r.map sq).length:=u;simpa using this
  let hd:(r.map sq)[i]?=MA d:=hd;rw[Jf,J7 u]at hd;cases hd;let I:=e r[i] (Kj u);let B:=yL C I;exists 7,7,7,t,b,X,Y,ws,r[i],5,5,I,(),7;refine #[_,_,_,7,5,(o b1).1,(o b1).2,(o B).1,(o B).2,λs n=>?_];let n:s=if Mr (MY t b X 1 c.1) (MY t b Y 1 c.2) (MY t b X 1 (fa ws r[i]).1) (MY t b Y 1 (fa ws r[i]).2)then(MY t b X 1 c.1,MY t b Y 1 c.2)else(MY t b X 1 (fa ws r[i]).1,MY t b Y 1 (fa ws r[i]).2):=n;split at n
  .subst n;exact #[5,c,_,b1,rfl]
  .subst n;exact #[5,fa ws r[i],_,B,rfl]
 .rintro δ q ⟨rfl,c,y,b1,rfl⟩;exact #[7,NP (k c b1)]
theorem xX:NB ["wall","spot"] ["wall","spot"] (ao oT):=⋯
inductive RQ:Prop
 |mk (n:Nat)(a b c d x y:Rat)(_:sy=MX a b c d)(_:s_=Mx x y)(_:MZ n a)(_:MZ n b)(_:MZ n c)(_:MZ n d)(_:MZ n x)(_:MZ n y)(_:n<=100000)(_:Q (.bl (!decide (Mr x y a b)&&decide (Mr x y c d))) M)
def Bi(T:Tx K mg):Cal P w K mg base 3 "spans" (Ng RQ):=by
 refine a9 (k:=2) T.gw xX λf _ _ _ s H _ i=>#[_,(aq (aB (mL (yC (au (dk T).m i (ae (dv 1) (ae (az (dv 0) ai) af)))) (pJ (au (dk T).m i (ae (dv 1) (ae (az (dv 0) ai) af))))))),λ_ _ M Q h=>?_];let[n,a,b,c,d,x,y,5,5,l,o,p,hd,hx,j,r,k]:=h;let e:∀{q:Rat},MZ n q->MZ 100000 q:=λz=>z.mono r;walk_at "u"
 exact zH (!decide (Mr x y a b)) (decide (Mr x y c d)) (λK g=>#[7,7,7,x,y,a,b,5,5,e hx,e j,e l,e o,7,g]) (λ_ K g=>#[7,7,7,x,y,c,d,5,5,e hx,e j,e p,e hd,g]) (NP k)
theorem qz:NB ["one","other"] ["one","other"] (ao iR):=⋯
inductive Pe:Prop
 |mk (a b e f:Rat)(_:sy=Mx a b)(_:s_=Mx e f)(_:MZ 100000 a)(_:MZ 100000 b)(_:MZ 100000 e)(_:MZ 100000 f)(_:∀s:Rat×Rat,s=(if Mr e f a b then(a,b)else(e,f))->Q (Mx s.1 s.2) M)
def sZ(T:Tx K mg):Cal P w K mg base 3 "later_of" (Ng Pe):=by
 refine a9 (k:=2) T.gx qz λf _ _ _ s H _ c=>#[_,(aq (aB (j7 (eD (au (dk T).m c (ae (dv 1) (ae (dv 0) af)))) (dv 0) (dv 1)))),λ_ _ M Q h=>?_];let[a,b,e,f,5,5,h1,h2,d,g,k]:=h;exists 7,7,e,f,a,b,5,5,d,g,h1,h2,7;refine bF (λh=>?_) (λh=>?_)
 .have z:Mr e f a b:=by simpa[Mr]using h
  have:=k (a,b) (by rw[MF z]);exact #[7,NP this]
 .have z:¬Mr e f a b:=by simpa[Mr]using h
  have:=k (e,f) (by rw[ME z]);exact #[7,NP this]
theorem eV:NB ["one","other","start","end","place","deciding"] ["one","other"] (ao iV):=⋯
inductive Ph:Prop
 |mk (t b X Y:Int)(U V:Wl)(_:sy=NF t b X Y U)(_:s_=NF t b X Y V)(_:Np t b X Y)(_:NK U)(_:NK V)(_:Q (.bl (NQ U V)) M)
def mH(T:Tx K mg):Cal P w K mg base 4 "is_above" (Ng Ph):=by
 refine a9 (k:=3) T.gy eV λf _ _ _ s H _ x=>#[_,(aj (iD 2 3 rfl eV.nd (ae (au (sZ T).m x (ae (az (dv 0) ai) (ae (az (dv 1) ai) af))) (ae (au (jf T).m x (ae (az (dv 0) ai) (ae (az (dv 1) ai) af))) af))) (aj (br (yz (eD (au (dk T).m x (ae (dv 2) (ae (dv 3) af))))) (aq (aB kh)) aR) (aj (bO (j7 (aJ (bZ x.units) (az (dv 0) ai) (az (dv 1) ai)) (aG (ae ai (ae (dv 3) af))) (aG (ae ai (ae (dv 2) af)))) (bj rfl (aA (ay 4 eV.nd) (aA (ay 5 eV.nd) aS)))) (aj (br (aJ (bZ x.units) (dv 5) (az (dv 0) (dv 4))) (aq (aB (bV (bZ x.units) (au (dY T).m x (ae (dv 1) (ae (dv 5) af))) ai))) aR) (aq (aB (bV (bZ x.units) (au (dY T).m x (ae (dv 0) (ae (dv 5) af))) (nN g9 ai)))))))),λ_ _ M Q h=>?_];let[t,b,X,Y,U,V,5,5,S,g,i,k]:=h;let C:=S.t0;let F:=S.b0;let one:(0:Int)<1/\(1:Int)<=10^6:=⋯
 let W6:∀{z:Int},(0<=z/\z<=20)->(-(10^6)<=z/\z<=10^6):=λ{z} h=>()
 let bx:∀{z:Int},(0<=z/\z<=20)->MZ 200 (MY t b X 1 z):=λ{z} h=>S.bx one (W6 h);let by':∀{z:Int},(0<=z/\z<=20)->MZ 200 (MY t b Y 1 z):=λ{z} h=>S.by' one (W6 h)
 let n:∀{q:Rat},MZ 200 q->MZ 100000 q:=λz=>z.mono ⋯
 let W:∃r u:Int,(if Mr (MY t b X 1 V.1) (MY t b Y 1 V.2.1) (MY t b X 1 U.1) (MY t b Y 1 U.2.1)then(MY t b X 1 U.1,MY t b Y 1 U.2.1)else(MY t b X 1 V.1,MY t b Y 1 V.2.1))=(MY t b X 1 r,MY t b Y 1 u)/\(0<=r/\r<=20)/\(0<=u/\u<=20)/\la r u=max (l1 U) (l1 V)/\((l1 V<l1 U/\r=U.1/\u=U.2.1)\/(¬l1 V<l1 U/\r=V.1/\u=V.2.1)):=by
  let z:=n9 (X:=X) (Y:=Y) (p:=V.1) (q:=V.2.1) (e:=U.1) (f:=U.2.1) C F i.b g.b
  by_cases y:la V.1 V.2.1<la U.1 U.2.1
  .exact #[U.1,U.2.1,by rw[MF (z.mpr y)],g.a,g.b,by unfold l1;omega,.inl #[y,5,rfl]]
  .exact #[V.1,V.2.1,by rw[ME (λq=>y (z.mp q))],i.a,i.b,by unfold l1;omega,.inr #[y,5,rfl]]
 let G:∃ex v:Int,(if Mr (MY t b X 1 U.2.2.1) (MY t b Y 1 U.2.2.2) (MY t b X 1 V.2.2.1) (MY t b Y 1 V.2.2.2)then(MY t b X 1 U.2.2.1,MY t b Y 1 U.2.2.2)else(MY t b X 1 V.2.2.1,MY t b Y 1 V.2.2.2))=(MY t b X 1 ex,MY t b Y 1 v)/\(0<=ex/\ex<=20)/\(0<=v/\v<=20)/\la ex v=min (l2 U) (l2 V)/\((l2 U<l2 V/\ex=U.2.2.1/\v=U.2.2.2)\/(¬l2 U<l2 V/\ex=V.2.2.1/\v=V.2.2.2)):=by
  let z:=n9 (X:=X) (Y:=Y) (p:=U.2.2.1) (q:=U.2.2.2) (e:=V.2.2.1) (f:=V.2.2.2) C F g.d i.d
  by_cases y:la U.2.2.1 U.2.2.2<la V.2.2.1 V.2.2.2
  .exact #[U.2.2.1,U.2.2.2,by rw[MF (z.mpr y)],g.c,g.d,by unfold l2;omega,.inl #[y,5,rfl]]
  .exact #[V.2.2.1,V.2.2.2,by rw[ME (λq=>y (z.mp q))],i.c,i.d,by unfold l2;omega,.inr #[y,5,rfl]]
 let[r,u,es,Z,I,ls,cs]:=W;let[ex,v,ee,a0,J,le,ce]:=G;refine #[7,7,7,7,_,_,_,7,5,n (bx g.a),n (by' g.b),n (bx i.a),n (by' i.b),λs1 c0=>?_];rw[es]at c0;subst c0;refine #[7,7,7,7,_,_,_,7,5,n (bx g.c),n (by' g.d),n (bx i.c),n (by' i.d),λs2 d0=>?_];rw[ee]at d0;subst d0;exists _,7;exists 7,7,MY t b X 1 r,MY t b Y 1 u,MY t b X 1 ex,MY t b Y 1 v,5,5,n (bx Z),n (by' I),n (bx a0),n (by' J),7;let L:=n9 (X:=X) (Y:=Y) (p:=r) (q:=u) (e:=ex) (f:=v) C F I J;rw[ls,le]at L;refine bF (λh=>?_) (λh=>?_)
 .have N:¬(max (l1 U) (l1 V)<min (l2 U) (l2 V)):=λz=>by
   let z':=L.mpr z
   unfold Mr at z'
   simp[z']at h
  let e:NQ U V=MD:=by unfold NQ;rw[ME N]
  rw[e]at k;exact NP k
 let N:max (l1 U) (l1 V)<min (l2 U) (l2 V):=L.mp (Decidable.byContradiction λz=>h ((Bool.not_eq_true' _).mpr (MG z)));dsimp only[SD.dj];refine dA (λδ M'=>M'=M/\Zs λ(pl j l O B:Int) (o2 o3:sk)=>δ=[MA (NF t b X Y U),MA (NF t b X Y V),o2,o3,MA (.int pl),MA (Mx (MY t b X 1 j) (MY t b Y 1 l))]/\atI [Mx (MY t b X 1 U.1) (MY t b Y 1 U.2.1),Mx (MY t b X 1 U.2.2.1) (MY t b Y 1 U.2.2.2)] pl=MA (Mx (MY t b X 1 O) (MY t b Y 1 B))/\(0<=j/\j<=20)/\(0<=l/\l<=20)/\(0<=B/\B<=20)/\(la j l=la O B->decide (0<sd V j l)=NQ U V)/\(la j l≠la O B->decide (sd U j l<0)=NQ U V)) ?_ (λhu=>?_);rotate_left
 .exists 7,7,7,7,_,_,Pd.of rfl,Pd.of rfl,5,5;rw[Mw];exists 7;let q1:=ji (X:=X) (Y:=Y) (p:=U.1) (q:=U.2.1) (e:=V.1) (f:=V.2.1) C F g.b i.b;refine bF (λh=>?_) (λh=>?_)
  .have e1:l1 U=l1 V:=q1.mp ‹h›;exists 7,NG rfl;exists 7,5,_,7,_,7,5;refine hu _ _ #[5,1,ex,v,U.2.2.1,U.2.2.2,_,7,5,a0,J,g.d,λz=>?_,λz=>?_]
   .rcases ce with⟨o,rfl,rfl⟩|⟨o,rfl,rfl⟩
    .unfold NQ;rw[MF N,MF e1,MF o];rfl
    .have y1:NS U V=0:=nL g i z.symm;let y2:sd V V.2.2.1 V.2.2.2=0:=nL i i rfl;unfold NQ;rw[MF N,MF e1,ME o,y1,y2]
   .rcases ce with⟨o,rfl,rfl⟩|⟨o,rfl,rfl⟩
    .exact absurd rfl z
    .unfold NQ;rw[MF N,MF e1,ME o];rfl
  .have e1:¬l1 U=l1 V:=λz=>h ‹q1.mpr z›;exists 7,NG rfl;exists 7,5,_,7,_,7,5;refine hu _ _ #[5,0,r,u,U.1,U.2.1,_,7,5,Z,I,g.b,λz=>?_,λz=>?_]
   .rcases cs with⟨o,rfl,rfl⟩|⟨o,rfl,rfl⟩
    .unfold NQ;rw[MF N,ME e1,MF o];rfl
    .exact absurd z.symm e1
   .rcases cs with⟨o,rfl,rfl⟩|⟨o,rfl,rfl⟩
    .exact absurd rfl z
    .unfold NQ;rw[MF N,ME e1,ME o];rfl
 rintro δ M' ⟨rfl,pl,j,l,O,B,o2,o3,rfl,f0,e0,R,g0,c1,c2⟩;exists 7,7,7,_,f0,_,_,Pd.of rfl,Pd.of rfl,5,5;rw[Mw];let q2:=ji (X:=X) (Y:=Y) (p:=j) (q:=l) (e:=O) (f:=B) C F R g0;exists 7;refine bF (λh=>?_) (λh=>?_)
 .have z:la j l=la O B:=q2.mp ‹h›;exists 7,7,200,_,_,_,_,_,7,5,bx i.a,by' i.b,bx i.c,by' i.d,bx e0,by' R,⋯;rw[mi C F];let e:decide (JH (sd V j l)=1)=NQ U V:=by rw[<-c1 z,MK];exact sg1 _
  show Rx Q (.bl (decide _)) _;rw[e];exact NP k
 .have z:la j l≠la O B:=λq=>h ‹q2.mpr q›;exists 7,7,200,_,_,_,_,_,7,5,bx g.a,by' g.b,bx g.c,by' g.d,bx e0,by' R,⋯;rw[mi C F];let e:decide (JH (sd U j l)=-1)=NQ U V:=by rw[<-c2 z,MK];exact Iw _
  show Rx Q (.bl (decide _)) _;rw[e];exact NP k
theorem eU:NB ["walls","upper","wall"] ["walls"] (ao iE):=⋯
inductive PN:Prop
 |mk (a:pd)(t b X Y:Int)(us:r8)(_:sy=.ref a)(_:M a=MA (.lst (us.map (NF t b X Y))))(_:Np t b X Y)(_:(∀w∈us,NK w))(_:us≠[])(_:∀w∈us,Q (NF t b X Y w) M)
def rJ(T:Tx K mg):Cal P w K mg base 5 "upper_of" (Pp PN):=by
 refine eQ (k:=4) T.g_ eU λf _ _ _ s H _ q=>#[_,(aj (aC 1 eU.nd (az (dv 0) ai)) (aj (bJ Jx rfl (aP (dv 0)) (ay 2 eU.nd) (aq (br (eD (au (mH T).m q (ae (dv 2) (ae (dv 1) af)))) (aq (aC 1 eU.nd (dv 2))) aR))) (aq (aB (au (my T).m q (ae (dv 1) af)))))),λ_ M Q h=>?_];let[a,t,b,X,Y,us,5,n,S,o,ne,k]:=h;cases us with
 |nil=>exact absurd rfl ne
 |cons g us=>
  exists 7,_,_,n,bM (j:=0) (v:=NF t b X Y g) rfl
  exists 7,(g::us).map (NF t b X Y),n
  exists λi δ l=>l=M/\RZ λup p=>δ=[MA (.ref a),MA (NF t b X Y up),p]/\up∈g::us,#[5,g,7,by simp],λi δ l _ z=>by let[5,_]:=z;exact n,?_
  .rintro i d δ l y hd ⟨rfl,up,p,rfl,e⟩;let[w,x,5]:=jh hd;let r:w∈g::us:=Jg x;exists 7,7,t,b,X,Y,w,up,5,5,S,o w r,o up e,7;exact bF (λh=>#[7,5,w,7,r]) (λh=>#[5,up,7,e])
  .rintro δ l ⟨rfl,up,p,rfl,e⟩;let W:=o up e;let one:(0:Int)<1/\(1:Int)<=10^6:=⋯
   let u:∀{z:Int},(0<=z/\z<=20)->(-(10^6)<=z/\z<=10^6):=λ{z} h=>()
   let bx:∀{z:Int},(0<=z/\z<=20)->MZ 8000 (MY t b X 1 z):=λ{z} h=>(S.bx one (u h)).mono ⋯;let by':∀{z:Int},(0<=z/\z<=20)->MZ 8000 (MY t b Y 1 z):=λ{z} h=>(S.by' one (u h)).mono ⋯
   exact #[7,_,_,_,7,bx W.a,by' W.b,bx W.c,by' W.d,NP (k up e)]
theorem gQ:NB ["walls","spot","below"] ["walls","spot"] (ao ff):=⋯
inductive OY:Prop
 |mk (t b X Y p q:Int)(ws:r8)(_:sy=.tup (ws.map (NF t b X Y)))(_:s_=Mx (MY t b X 1 p) (MY t b Y 1 q))(_:Np t b X Y)(_:(∀w∈ws,NK w))(_:ws.length<=40)(_:(0<=p/\p<=20))(_:(0<=q/\q<=20))(_:Q .non M)(_:∀w∈ws,Q (NF t b X Y w) M)
def mY(T:Tx K mg):Cal P w K mg base 6 "upper_below" (Ng OY):=by
 refine a9 (k:=5) T.hH gQ λf _ _ _ s H _ o=>#[_,(aj (d4 2 gQ.nd (NC.of (xs:=["wall"]) (js:=[1]) rfl) rfl (aP (dv 0)) (λ_ _ _ _=>(ip (oS (jS (eD (au (Bi T).m o (ae (dv 0) (ae (dv 1) af)))) (ib (aJ (bZ o.units) (au (dY T).m o (ae (dv 0) (ae (dv 1) af))) ai)))))) (λ_ _ _ _=>(dv 0))) (aq (aB (j7 (C6 (dv 2)) (au (rJ T).m o (ae (dv 2) af)) oP)))),λ_ _ M Q h=>?_];let[t,b,X,Y,p,q,ws,5,5,S,y,B,C,D,J,L]:=h;let g:(ws.map (NF t b X Y)).length=ws.length:=by simp
 let one:(0:Int)<1/\(1:Int)<=10^6:=⋯
 let F:∀{z:Int},(0<=z/\z<=20)->(-(10^6)<=z/\z<=10^6):=λ{z} h=>()
 let bx:∀{z:Int},(0<=z/\z<=20)->MZ 200 (MY t b X 1 z):=λ{z} h=>S.bx one (F h);let by':∀{z:Int},(0<=z/\z<=20)->MZ 200 (MY t b Y 1 z):=λ{z} h=>S.by' one (F h)
 obtain⟨T,N⟩:∃T:Wl->Bool,∀w,T w=((!decide (Mr (MY t b X 1 p) (MY t b Y 1 q) (MY t b X 1 w.1) (MY t b Y 1 w.2.1))&&decide (Mr (MY t b X 1 p) (MY t b Y 1 q) (MY t b X 1 w.2.2.1) (MY t b Y 1 w.2.2.2)))&&decide (Mu (Mt (MY t b X 1 w.1) (MY t b Y 1 w.2.1) (MY t b X 1 w.2.2.1) (MY t b Y 1 w.2.2.2) (MY t b X 1 p) (MY t b Y 1 q))=1)):=#[_,λ_=>rfl];refine #[7,ws.map (NF t b X Y),5,lh (λj=>(ws[j]?).bind λw=>if T w=MC then MA (NF t b X Y w)else MB) (by show(ws.map (NF t b X Y)).length<=1000000;rw[g];omega) (λ_ _ _=>rfl) ?_ (λG i=>?_)]
 .intro a d O V hd Z;let[w,I,5]:=jh hd;let W:=y _ (Jg I);let R:((ws[a]?).bind λw=>if T w=MC then MA (NF t b X Y w)else MB)=if T w=MC then MA (NF t b X Y w)else MB:=by rw[I];rfl
  rw[R];refine #[7,λK r=>?_,λv hv K r=>?_]
  .have n:K (T w) O:=by cases z:T w<;>rw[z]at r<;>exact r
   rw[N]at n;exact yr _ _ (λU e=>#[7,7,200,_,_,_,_,_,7,5,bx W.a,by' W.b,bx W.c,by' W.d,bx C,by' D,⋯,7,e]) (λ_ U e=>#[7,7,200,_,_,_,_,_,7,5,bx W.a,by' W.b,bx W.c,by' W.d,bx C,by' D,⋯,7,e]) n
  .cases z:T w with
   |false=>rw[z]at hv;cases hv
   |true=>
    rw[z]at hv
    cases hv
    exact #[7,r _ .refl]
 dsimp only;rw[g,qZ,hZ];exists 7,G,7,ag;by_cases u:ws.filter T=[]
 .rw[u];exact pI rfl #[_,.new i .refl,J]
 .refine zD (by
   cases z:ws.filter T with
   |nil=>exact absurd z u
   |cons a l=>rfl) ?_
  exact #[7,G,t,b,X,Y,ws.filter T,5,ag,S,λw x=>y w (K1.mp x).1,u,λw x=>#[_,.new i .refl,L w (K1.mp x).1]]
theorem iz:NB ["plot","lands","corner","wall"] ["plot","lands","corner"] (ao fN):=⋯
inductive Oc:Prop
 |mk (t b X Y:Int)(ws:r8)(l:pd)(L:q_)(c:Vc)(_:sy=.tup (ws.map (NF t b X Y)))(_:s_=.ref l)(_:ti=N4 t b X Y c)(_:M l=MA (.lst (L.map D.int)))(_:L.length=2*ws.length)(_:Np t b X Y)(_:(∀w∈ws,NK w))(_:PF ws)(_:ws.length<=40)(_:Nd c)(_:∀n:Int,Q (.int n) M)
def ot(T:Tx K mg):Cal P w K mg base 7 "land_about" (SA Oc):=by
 refine n4 (k:=6) T.hJ iz λf _ _ _ s H _ o=>#[_,(aj (aC 3 iz.nd (au (mY T).m o (ae (dv 0) (ae (dv 2) af)))) (aq (aB (j7 (aJ Ge (dv 3) oP) ai (az (dv 1) (aw aI ai (sC (gA o) (dv 0) (ae (dv 3) af)))))))),λ_ _ _ M Q h=>?_];let[t,b,X,Y,ws,l,L,c,5,5,5,r,x,S,g,hF,a,p,k]:=h;refine #[7,7,t,b,X,Y,c.1,c.2,ws,5,5,S,g,a,p.1,p.2,?_,λw q=>?_]
 .exact #[7,7,7,zD rfl (NP (k 0))]
 .obtain⟨n,j⟩:=List.getElem?_of_mem q;let tn:=(J8.mp j).1;let h2:2*n<L.length:=()
  refine #[7,7,7,pI rfl ?_];refine #[7,7,7,7,_,Rh t b X Y w,n,5,(by simp;omega),Pd.of rfl,5,λi y z u=>?_,?_]
  .obtain⟨U,d,rfl⟩:=jh u;exists Rh t b X Y U,Pd.of rfl,5;by_cases e:i=n
   .subst e;rw[j]at d;cases d;rw[xm,MI rfl]
   .rw[MG e];exact EZ S.t0 S.b0 (g _ (Jg d)) (g _ q) (hF i n _ _ e d j).ne
  .refine #[aK (bN ⋯),_,_,r,(by rw[show(2:Int)*((n:Nat):Int)=((2*n:Nat):Int) by omega];exact bM (v:=D.int L[2*n]) (by rw[Jf,J7 h2];rfl)),NP (k _)]
theorem aN:NB ["plot","outers","inners","lands","number","ring","face","ring_at","corner","land"] ["plot"] (ao dq):=⋯
inductive OH:Prop
 |mk (t b X Y:Int)(ws:r8)(_:sy=.tup (ws.map (NF t b X Y)))(_:Np t b X Y)(_:ws.length<=40)(_:(∀w∈ws,NK w))(_:PF ws)(_:∀(M':MH)(z:pd)(L:q_),SD.Sub M M'->M z=MB->M' z=MA (.lst (L.map D.int))->L.length=2*ws.length->Q (.ref z) M')
def j0(T:Tx K mg):Cal P w K mg base 9 "lands_of_faces" (Pp OH):=by
 refine eQ (k:=8) T.hQ aN λf cdv A outer s H E U=>#[_,(aj (bO (au (jr T).m U (ae (dv 0) af)) (bj rfl (aA (ay 1 aN.nd) (aA (ay 2 aN.nd) aS)))) (aj (aC 3 aN.nd (aw BX (bD (ae ai af)) (aw aI ai (aO b7 rfl T.ma ck (ae (dv 0) af))))) (aj (bJ Jx rfl (yO rfl T.l4 (ae (dv 1) af)) (bj rfl (aA (ay 4 aN.nd) (aA (ay 5 aN.nd) aS))) (aq (bJ Jx rfl (aP (dv 5)) (ay 6 aN.nd) (aq (bO (dv 4) (oH (dv 3) (dv 6))))))) (aj (wg 7 aN.nd (gA U) (NC.of (xs:=["ring"]) (js:=[0]) rfl) rfl (aP (dv 2)) (λ_ _ _ _=>aY) (λ_ _ _ _=>(au (ml T).m U (ae (dv 1) (ae (dv 0) af)))) (λ_ _ _ _=>(dv 0))) (aj (bJ Jx rfl (aP (au (iy T).m U (ae (cL (mj rfl) rfl T.mu k7 (ae (dv 7) af)) af))) (ay 8 aN.nd) (aj (aC 9 aN.nd (au (ot T).m U (ae (dv 0) (ae (dv 3) (ae (dv 8) af))))) (aq (bJ Jx rfl (aP (jo (gA U) (dv 7) (dv 8) (by intro _ _;with_unfolding_all rfl))) (ay 6 aN.nd) (aq (bO (dv 9) (oH (dv 3) (dv 6)))))))) (aq (aB (dv 3)))))))),λ_ M Q h=>?_];let[t,b,X,Y,ws,5,S,N,hU,hF,k]:=h;let d0:(ws.map (NF t b X Y)).length=ws.length:=by simp
 refine #[7,t,b,X,Y,ws,5,S,N,hU,hF,λW lo li ps qs m0 ins n0 hA k1 m1 ho hi RO RI n1 o1 p1=>?_];exists 7,5,_,7,_,7,5;let o0:∀r∈m0,YB ws r:=λr U=>hA r (List.mem_append_left _ U);let c0:∀r∈ins,YB ws r:=λr U=>hA r (Jt _ U);let q1:=RO.len;let r1:=RI.len;refine #[NG rfl,λz0 q0=>#[7,aK (bN ⋯),.int 0,ag,by rw[d0];omega,by rw[d0];omega,λz hz=>?_]];let O:SD.Sub W (av (av W z0 (.lst [.int 0])) z (.lst (JJ ((2:Int)*((ws.map (NF t b X Y)).length:Nat)).toNat (.int 0)))):=.new hz (.new q0 .refl);let r0:(av (av W z0 (.lst [.int 0])) z (.lst (JJ ((2:Int)*((ws.map (NF t b X Y)).length:Nat)).toNat (.int 0)))) z=MA (.lst ((JJ (2*ws.length) (0:Int)).map D.int)):=by rw[ag,d0,show((2:Int)*(ws.length:Nat)).toNat=2*ws.length by omega,List.map_replicate]
 let nz:∀{a o},W a=MA o->a≠z:=λh e=>by
  subst e
  let h0:=SD.Sub.new (o:=.lst [.int 0]) q0 .refl _ _ h
  rw[hz]at h0;cases h0
 let fz:M z=MB:=by
  cases e:M z with
  |none=>rfl
  |some o=>exact absurd rfl (nz (n0 _ _ e))
 generalize av (av W z0 (.lst [.int 0])) z (.lst (JJ ((2:Int)*((ws.map (NF t b X Y)).length:Nat)).toNat (.int 0)))=M2 at O r0 ⊢;(try dsimp only[SD.aU])
 refine dA (λδ n=>∃o4 o5 I:sk,δ=[MA (.tup (ws.map (NF t b X Y))),MA (.ref lo),MA (.ref li),MA (.ref z),o4,o5,I,MB,MB,MB]/\(∀c,c≠z->n c=M2 c)/\∃L:q_,L.length=2*ws.length/\n z=MA (.lst (L.map D.int))) ?_ (λhu=>?_);rotate_left
 .exists 7,lo,ps.map D.ref,5,O _ _ ho,λi δ n=>∃o4 o5 I:sk,δ=[MA (.tup (ws.map (NF t b X Y))),MA (.ref lo),MA (.ref li),MA (.ref z),o4,o5,I,MB,MB,MB]/\(∀c,c≠z->n c=M2 c)/\∃L:q_,L.length=2*ws.length/\n z=MA (.lst (L.map D.int)),#[_,_,7,λ_ _=>rfl,_,List.length_replicate ..,r0],λi δ n _ q=>by let[_,_,_,_,q,_]:=q;show n lo=_;rw[q lo (nz ho)];exact O _ _ ho,?_
  .rintro i d δ n hi hd ⟨o4,o5,I,rfl,kM,L,hL,F⟩;let hi:i<ps.length:=by have:i<(ps.map D.ref).length:=hi;simpa using this
   let hd:((ps.map D.ref)[i]?).map (λd=>D.tup [.int ((i+1:Nat):Int),d])=MA d:=hd;rw[Jf,J7 hi]at hd;cases hd;let[r,er,e0]:=RO.get hi;let A:=o0 r (Jg er);let R:M2 ps[i]=MA (.lst (r.map sq)):=O _ _ e0;exists 7,5,_,7,_,7,5;(try dsimp only[SD.aU])
   refine Sh λB hB=>?_;exists 7,r.map sq,(by show n ps[i]=_;rw[kM _ (nz e0)];exact R),λj δ l=>∃I:sk,δ=[MA (.tup (ws.map (NF t b X Y))),MA (.ref lo),MA (.ref li),MA (.ref z),MA (.int ((i+1:Nat):Int)),MA (.ref ps[i]),I,MB,MB,MB]/\(∀c,c≠z->l c=M2 c)/\∃L:q_,L.length=2*ws.length/\l z=MA (.lst (L.map D.int)),#[7,kM,L,hL,F],λj δ l _ q=>by let[_,_,q,_]:=q;show l ps[i]=_;rw[q _ (nz e0)];exact R,?_
   .rintro j d δ l hj hd ⟨I,rfl,J,L',C,u⟩;let hj:j<r.length:=by have:j<(r.map sq).length:=hj;simpa using this
    let hd:(r.map sq)[j]?=MA d:=hd;rw[Jf,J7 hj]at hd;cases hd;refine #[7,7,7,_,r[j],u,uc (by rw[J4,C];exact A.lt _ (Kj hj)),?_];exact #[7,λc hc=>by rw[ak hc];exact J c hc,L'.set r[j] ((i+1:Nat):Int),by rw[List.length_set];exact C,by rw[ag,List.map_set]]
   .rintro δ l ⟨I,rfl,J,L',C,u⟩;exact hB _ _ #[_,_,7,J,L',C,u]
  .rintro δ n ⟨o4,o5,I,rfl,kM,L,hL,F⟩;exact hu _ _ #[_,_,7,kM,L,hL,F]
 rintro δ M3 ⟨o4,o5,I,rfl,a1,L3,b1,f0⟩;let G:∀{a o},W a=MA o->M3 a=MA o:=λ{a o} h=>by rw[a1 a (nz h)];exact O _ _ h
 refine #[7,qs.map D.ref,G hi,by show(qs.map D.ref).length<=900000;rw[J4];omega,λp hp=>?_];let np:∀{a o},M3 a=MA o->a≠p:=λh=>ax h hp;exists λi kvs n=>(∃cs,R8 t b X Y qs i kvs cs)/\n=av M3 p (OF kvs),#[#[_,R8.nil ..],rfl],λi kvs n _ q=>by let[_,5]:=q;show(av M3 p _) li=_;rw[ak (np (G hi))];exact G hi,?_
 .rintro i kvs d n y hd ⟨⟨cs,V⟩,rfl⟩;let y:i<qs.length:=by have:i<(qs.map D.ref).length:=y;simpa using this
  let hd:(qs.map D.ref)[i]?=MA d:=hd;rw[Jf,J7 y]at hd;cases hd;let[r,er,s0]:=RI.get y;let A:=c0 r (Jg er);exists 7;dsimp only[SD.b4];refine ju ?_;refine #[7,7,t,b,X,Y,ws,qs[i],r,5,5,(by rw[ak (np (G s0))];exact G s0),S,hU,N,A.pos,A.lt,λc hc=>?_];exact #[7,gk t b X Y c,rK ..,ag,by have:=V.len;have:=V.kl;omega,V.put S.t0 S.b0 hc (Kj y),by rw[bE]]
 rintro kvs M4 ⟨⟨ks,V⟩,rfl⟩;let Z:(av M3 p (OF kvs)) z=MA (.lst (L3.map D.int)):=by rw[ak (np f0)];exact f0
 let g0:∀{a o},W a=MA o->(av M3 p (OF kvs)) a=MA o:=λ{a o} h=>by rw[ak (np (G h))];exact G h
 let i0:(av M3 p (OF kvs)) p=MA (OF kvs):=ag
 let fp:W p=MB:=by
  cases e:W p with
  |none=>rfl
  |some o=>rw[G e]at hp;cases hp
 generalize av M3 p (OF kvs)=M4 at Z g0 i0 ⊢;refine #[7,.inr #[p,kvs,5,i0,λp2 R=>?_]]
 let ek:kvs.map (λx=>QA x.1)=ks.map (N4 t b X Y):=by
  have:=congrArg (Le QA) V.ks
  rw[KA,KA]at this
  exact this
 let kl:ks.length<=(qs.map D.ref).length:=V.len;rw[J4]at kl;let kl:ks.length<=80:=()
 refine #[p2,t,b,X,Y,ks,5,(by rw[ag,ek]),S,(),V.bd,V.nd,λM5 zc cs c1 k0 u0 pm up=>?_];let a0:∀{a o},M4 a=MA o->M5 a=MA o:=λ{a o} h=>c1 _ _ (by rw[ak (ax h R)];exact h);let d1:=a0 Z;let e1:=a0 i0;let f1:zc≠z:=λe=>by subst e;rw[ak (ax Z R)]at k0;rw[Z]at k0;cases k0
 let g1:p≠z:=λe=>by subst e;rw[f0]at hp;cases hp
 exists _,u0;exists λi δ n=>∃I o8 o9:sk,δ=[MA (.tup (ws.map (NF t b X Y))),MA (.ref lo),MA (.ref li),MA (.ref z),o4,o5,I,MA (.ref p),o8,o9]/\(∀c,c≠z->n c=M5 c)/\∃L:q_,L.length=2*ws.length/\n z=MA (.lst (L.map D.int)),#[_,_,7,λ_ _=>rfl,L3,b1,d1],λi δ n _ q=>by let[_,_,_,_,q,_]:=q;show n zc=_;rw[q zc f1];exact u0,?_
 .rintro i d δ n y hd ⟨i1,o8,o9,rfl,kM,L,hL,F⟩;let y:i<cs.length:=by have:i<(cs.map (N4 t b X Y)).length:=y;simpa using this
  let hd:(cs.map (N4 t b X Y))[i]?=MA d:=hd;rw[Jf,J7 y]at hd;cases hd;let v0:=pm.mem_iff.mp (Kj y);let[q,hq,ev]:=V.vs _ v0;let[j,ej]:=List.getElem?_of_mem hq;let[j1,ej]:=J8.mp ej;subst ej;let[r,er,w0]:=RI.get j1;let A:=c0 r (Jg er);let x0:M5 qs[j]=MA (.lst (r.map sq)):=a0 (g0 w0);let y0:=nz w0;(try dsimp only[SD.aU])
  refine Sh λB hB=>?_;refine #[7,7,7,t,b,X,Y,ws,z,L,cs[i],5,5,5,F,hL,S,hU,hF,N,V.bd _ v0,λv=>?_];refine #[7,7,p,kvs,gk t b X Y cs[i],.ref qs[j],5,rK ..,(by rw[kM p g1];exact e1),ev,r.map sq,(by show n qs[j]=_;rw[kM _ y0];exact x0),?_];exists λa δ l=>∃I:sk,δ=[MA (.tup (ws.map (NF t b X Y))),MA (.ref lo),MA (.ref li),MA (.ref z),o4,o5,I,MA (.ref p),MA (N4 t b X Y cs[i]),MA (.int v)]/\(∀c,c≠z->l c=M5 c)/\∃L:q_,L.length=2*ws.length/\l z=MA (.lst (L.map D.int)),#[7,kM,L,hL,F],λa δ l _ q=>by let[_,_,q,_]:=q;show l qs[j]=_;rw[q _ y0];exact x0,?_
  .rintro a d δ l ha hd ⟨I,rfl,J,L',C,u⟩;let ha:a<r.length:=by have:a<(r.map sq).length:=ha;simpa using this
   let hd:(r.map sq)[a]?=MA d:=hd;rw[Jf,J7 ha]at hd;cases hd;refine #[7,7,7,_,r[a],u,uc (by rw[J4,C];exact A.lt _ (Kj ha)),?_];exact #[7,λc hc=>by rw[ak hc];exact J c hc,L'.set r[a] v,by rw[List.length_set];exact C,by rw[ag,List.map_set]]
  .rintro δ l ⟨I,rfl,J,L',C,u⟩;exact hB _ _ #[_,_,7,J,L',C,u]
 .rintro δ n ⟨i1,o8,o9,rfl,kM,L,hL,F⟩;refine #[7,NP (k n _ _ (λa o h=>?_) fz F hL)];let h1:=n0 _ _ h;rw[kM a (nz h1)];exact a0 (g0 h1)
theorem eW:NB ["plot","corners","numbers"] ["plot","corners"] (ao dg):=⋯
inductive OJ:Prop
 |mk (t b X Y:Int)(ws:r8)(ps:List Vc)(_:sy=.tup (ws.map (NF t b X Y)))(_:s_=.tup (ps.map (N4 t b X Y)))(_:Np t b X Y)(_:ws.length<=40)(_:(∀sy,sy∈ps↔sy∈Nc ws ws.length))(_:ps.Nodup)(_:ps.length<=1000)(_:∀(M':MH)(z:pd),SD.Sub M M'->M z=MB->M' z=MA (.lst (ws.map (RU ps)))->Q (.ref z) M')
def jY(T:Tx K mg):Cal P w K mg base 1 "ends_by_number" (Ng OJ):=by
 refine a9 (k:=0) T.hV eW λf _ _ _ s H _ r=>#[_,(aj (aC 2 eW.nd (vA (gA r) (NC.of (xs:=["number","corner"]) (js:=[]) rfl) rfl (yZ rfl T.l4 (ae (dv 1) af)) (λ_ _ _ _=>aY) (λ_ _ _ _=>(dv 1)) (λ_ _ _ _=>(dv 0)))) (aq (aB (qa (NC.of (xs:=["first","second"]) (js:=[2]) rfl) rfl (aP (dv 0)) (λ_ _ _ _=>aY) (λ_ _ _ _=>(aG (ae (jo (gA r) (dv 2) (dv 0) (by intro _ _;with_unfolding_all rfl)) (ae (jo (gA r) (dv 2) (dv 1) (by intro _ _;with_unfolding_all rfl)) af)))))))),λ_ _ M Q h=>?_];let[t,b,X,Y,ws,ps,5,5,S,F,G,nd,L,k]:=h;let cl:(ps.map (N4 t b X Y)).length=ps.length:=J4 ..;refine #[7,ps.map (N4 t b X Y),5,by show(ps.map (N4 t b X Y)).length<=_;omega,λp u=>?_];exists λi kvs g=>SK t b X Y ps i kvs/\g=av M p (OF kvs),#[.nil t b X Y ps,rfl],λi kvs g _ q=>trivial,?_
 .rintro i kvs d g I hd ⟨c,rfl⟩;let hd:((ps.map (N4 t b X Y))[i]?).map (λd=>D.tup [.int (i:Int),d])=MA d:=hd;rw[Jf]at hd;cases n:ps[i]? with
  |none=>rw[n]at hd;cases hd
  |some v=>
   rw[n]at hd
   cases hd
   exists _,#[7,5,rfl]
   dsimp only[SD.b4]
   rw[MF rfl]
   let I:i<ps.length:=(J8.mp n).1
   exists 7,7,gk t b X Y v,5,ag,by have:=c.len;omega,c.put S.t0 S.b0 nd n
   rw[bE]
 .rintro kvs g ⟨c,rfl⟩;let c:SK t b X Y ps ps.length kvs:=by rw[<-cl];exact c
  let J:SD.Sub M (av M p (OF kvs)):=.new u .refl;refine #[7,ws.map (NF t b X Y),5,comp_map (λi=>((ws.map (RU ps))[i]?).getD .non) (by show(ws.map (NF t b X Y)).length<=1000000;rw[J4];omega) (λp W L=>rfl) ?_ (λq x=>?_)]
  .intro i e g I N y;let[w,j,5]:=jh N;refine #[_,#[7,5,rfl],λK O=>?_];let l:=O _ .refl;rw[getD_map j]at l;let m:=y _ _ ag;let B:ea w∈ps:=(G _).mpr ((dS _).mpr #[i,w,(J8.mp j).1,j,.inl rfl]);let C:eb w∈ps:=(G _).mpr ((dS _).mpr #[i,w,(J8.mp j).1,j,.inr rfl]);let[R,U]:=iW B;let[b1,V]:=iW C;exact #[7,7,p,kvs,gk t b X Y (ea w),7,5,m,c.vs _ _ U R,7,7,p,kvs,gk t b X Y (eb w),7,5,m,c.vs _ _ V b1,NG rfl,l]
  .dsimp only
   let e:(Jq (ws.map (NF t b X Y)).length).map (λi=>((ws.map (RU ps))[i]?).getD .non)=ws.map (RU ps):=by
    have:=SD.range_getD (ws.map (RU ps))
    rw[J4]at this ⊢
    exact this
   rw[e];refine NP (k _ q (λa o h=>?_) ?_ ag)
   .have:=J _ _ h;rw[ak (ax this x)];exact this
   .cases z:M q with
    |none=>rfl
    |some o=>rw[J _ _ z]at x;cases x
theorem lQ:NB ["plot"] ["plot"] (ao fm):=⋯
inductive O4:Prop
 |mk (t b X Y:Int)(ws:r8)(_:sy=.tup (ws.map (NF t b X Y)))(_:Np t b X Y)(_:ws.length<=40)(_:(∀w∈ws,NK w))(_:∀(M':MH)(z:pd)(as:rp),SD.Sub M M'->M' z=MA (.lst (as.map D.ref))->as.length=ws.length->(∀(i:Nat) a w,as[i]?=MA a->ws[i]?=MA w->M' a=MA (.lst (ws.map λv=>D.bl (NQ w v))))->Q (.ref z) M')
def mN(T:Tx K mg):Cal P w K mg base 5 "above_table" (Pp O4):=by
 refine eQ (k:=4) T.hW lQ λf _ _ _ s H _ W=>#[_,(aq (aB (bz (NC.of (xs:=["one"]) (js:=[0]) rfl) rfl (aP (dv 0)) (λ_ _ _ _=>aY) (λ_ _ _ _=>(bz (NC.of (xs:=["other"]) (js:=[0]) rfl) rfl (aP (dv 1)) (λ_ _ _ _=>aY) (λ_ _ _ _=>(au (mH T).m W (ae (dv 1) (ae (dv 0) af))))))))),λ_ M Q h=>?_];let[t,b,X,Y,ws,5,S,J,L,k]:=h;refine #[7,ws.map (NF t b X Y),5,by show(ws.map (NF t b X Y)).length<=1000000;rw[J4];omega,λz N=>?_];exists λi x n=>∃c:rp,c.length=i/\x=c.map D.ref/\SD.Sub M n/\n z=MA (.lst x)/\∀(j:Nat) a w,c[j]?=MA a->ws[j]?=MA w->n a=MA (.lst (ws.map λv=>D.bl (NQ w v)))/\a≠z,#[[],5,5,.new N .refl,ag,λj a w h=>by simp at h],λi x n _ q=>rfl,?_
 .rintro i x d n hi hd ⟨c,B,rfl,C,g,F⟩;let[w,O,5]:=jh hd;exists 7;dsimp only[SD.b4];refine ju ?_;refine #[7,ws.map (NF t b X Y),5,comp_map (λj=>((ws.map λv=>D.bl (NQ w v))[j]?).getD .non) (by show(ws.map (NF t b X Y)).length<=1000000;rw[J4];omega) (λp x hp=>rfl) ?_ (λq G=>?_)]
  .intro j e M6 hj Z a0;let[v,R,5]:=jh Z;refine #[7,λK hK=>?_];let y:=hK _ .refl;rw[getD_map R]at y;exact #[7,7,t,b,X,Y,w,v,5,5,S,L w (Jg O),L v (Jg R),y]
  .dsimp only
   let e:(Jq (ws.map (NF t b X Y)).length).map (λj=>((ws.map λv=>D.bl (NQ w v))[j]?).getD .non)=ws.map λv=>D.bl (NQ w v):=by
    have:=SD.range_getD (ws.map λv=>D.bl (NQ w v))
    rw[J4]at this ⊢
    exact this
   rw[e];let u:z≠q:=ax g G;let I:(av n q (.lst (ws.map λv=>D.bl (NQ w v)))) z=MA (.lst (c.map D.ref)):=by rw[ak u];exact g
   refine #[_,.refl,I,c++[q],by simp[B],by simp,λa o h=>?_,ag,λj a v r hv=>?_]
   .rw[ak (ax h N),ak (ax (C _ _ h) G)];exact C _ _ h
   .rcases Nat.lt_or_ge j c.length with l|l
    .rw[JW l]at r;let[U,V]:=F j a v r hv;exact #[by rw[ak V,ak (ax U G)];exact U,V]
    .rw[JR l]at r
     let ej:j=i:=by
      have:=(J8.mp r).1
      simp at this;omega
     subst ej;rw[B,Nat.sub_self]at r;cases r;rw[O]at hv;cases hv;exact #[by rw[ak u.symm];exact ag,u.symm]
 .rintro x n ⟨c,B,rfl,C,g,F⟩;exact NP (k n z c C g (by rw[B];exact J4 ..) λi a w r hw=>(F i a w r hw).1)
theorem kH:NB ["row","above"] ["row","above"] (ao bQ):=⋯
def lq:Str:=(Mg "lowest_first" (ao bQ) 0 0 .none).qual++"<lambda>"
abbrev Tb(M:MH):Prop:=cX lq 172 #[87,27,87,91] M
def Abt(M:MH)(ws:r8)(b:rp):Prop:=b.length=ws.length/\∀(i:Nat) a w,b[i]?=MA a->ws[i]?=MA w->M a=MA (.lst (ws.map λv=>D.bl (NQ w v)))
def cE:Nl:=λe M Q=>match e with
 |[u,v]=>∃(l b:pd) (ws:r8) (c:rp) (fs:q_),u=.ref l/\v=.ref b/\M l=MA (.lst (fs.map D.int))/\M b=MA (.lst (c.map D.ref))/\Abt M ws c/\Fs ws fs/\ws.length<=40/\Tb M/\
  ∀(a:MH)(p:pd)(d:q_),kZ 172 M a->M p=MB->a p=MA (.lst (d.map D.int))->RS (fs.map λk=>(c8 ws fs k:Int)) fs d->Tb a->Q (.ref p) a
 |_=>False
theorem kR:∀ds M Q,cE ds M Q->ds.length=2:=λds M Q h=>by
 unfold cE at h;split at h
 .rfl
 .exact h.elim
def pM(d e:D):Nl:=λf M Q=>match f with
 |[x]=>∃(l a:pd) (ws:r8) (b:rp) (fs:q_) (k:Int),d=.ref l/\e=.ref a/\x=.int k/\M l=MA (.lst (fs.map D.int))/\M a=MA (.lst (b.map D.ref))/\Abt M ws b/\Fs ws fs/\ws.length<=40/\k∈fs/\∀c,SD.Sub M c->Q (.int (c8 ws fs k:Int)) c
 |_=>False
theorem ES(d e:D):∀ds M Q,pM d e ds M Q->ds.length=1:=λds M Q h=>by
 unfold pM at h;split at h
 .rfl
 .exact h.elim
def mD(T:Tx K mg):Cal P w K mg base 4 "lowest_first" cE:=by
 refine Ih (k:=3) (N:=["row","above"]) (ps:=["row","above"]) T.fc_lowest_first kH (λ_ _ _ _ _ _ us m=>match us,m with|[_,_],_=>rfl) kR λf A outer s H E V=>#[_,(aq (aB (oA (k:=0) (lx:="wall") (y1:="row") (y2:="above") (Pt:=172) (spg:=pM) 0 1 rfl T.lm (by refine #[5,5,5,⋯,⋯,⋯,5,5,5,?_,?_,λ_ _=>rfl,λ_=>rfl]<;>decide) (λ_ _ _ _ _ _ _ _=>rfl) ES (λbase g c1 c2 c' d1 d2 A outer s H V=>#[_,(aO b7 rfl T.ma ck (ae (bz (NC.of (xs:=["other"]) (js:=[2,0]) rfl) rfl (aP (dv 1)) (λ_ _ _ _=>(ip (eD (az (az (dv 1) (dv 2)) (dv 0))))) (λ_ _ _ _=>(dv 0))) af)),λd M Q h=>?l]) V T.om (ae (dv 0) af)))),λds M Q h=>?r]
 case l=>
  unfold pM at h
  let[l,O,ws,L,fs,x,5,5,5,m,t,c,F,u,hk,k]:=h
  let fl:=F.len
  let W:∀(a:Int),(MA a).bind (λa=>if NQ (NH ws x) (NH ws a)=MC then MA (D.int a)else MB)=if NQ (NH ws x) (NH ws a)=MC then MA (D.int a)else MB:=λ_=>rfl
  refine #[7,fs.map D.int,m,lh (λj=>(fs[j]?).bind λa=>if NQ (NH ws x) (NH ws a)=MC then MA (.int a)else MB) (by show(fs.map D.int).length<=1000000;simp;omega) (λp ys hp=>by show(av M p _) l=_;rw[ak (ax m hp)];exact m) ?_ (λq hq=>?_)]
  .intro i d M9 hi hd y;let[one,v,5]:=jh hd;let R:=Jg v;let A:=F.b _ hk;let B:=F.b _ R;let[X,_,_]:=aW A.1 A.2;let[Y,_,_]:=aW B.1 B.2;obtain⟨j,rfl⟩:∃j:Nat,x=(j:Int):=#[x.toNat,()];obtain⟨Z,rfl⟩:∃j:Nat,one=(j:Int):=#[one.toNat,()];rw[Kl]at X Y;let hj:j<L.length:=by rw[c.1];omega
   let f1:=c.2 j _ _ (J7 hj) X;refine #[7,λK C=>?_,λe G K C=>?_]
   .rw[v,W]at C;exists 7,7,_,.ref L[j],y _ _ t,bM (by rw[Jf,J7 hj];rfl),7,_,_,y _ _ f1,bM (by rw[Jf,Y];rfl),7;cases z:NQ (NH ws (j:Int)) (NH ws (Z:Int))<;>rw[z]at C<;>exact C
   .rw[v,W]at G;cases z:NQ (NH ws (j:Int)) (NH ws (Z:Int))with
    |false=>rw[z]at G;cases G
    |true=>
     rw[z]at G
     cases G
     exact #[7,C _ .refl]
  .dsimp only;rw[Ez fs λo=>NQ (NH ws x) (NH ws o)];exists _,ag;rw[J4];exact k _ (.new hq .refl)
 case r=>
  unfold cE at h
  split at h
  case h_2=>exact h.elim
  let[l,O,ws,L,fs,5,5,m,t,c,F,u,I,k]:=h
  let fl:=F.len
  refine #[7,l,fs,fs.map (λk=>(c8 ws fs k:Int)),.ref l,.ref O,5,m,I.neL m,5,5,I,J4 ..,by rw[J4];omega,λi a n M6 Q' ha hn J q=>?_,λp sr M6 fp S hb U J=>NP (k M6 p sr J fp S hb U)]
  rw[Jf,ha]at hn
  cases hn
  exact #[l,O,ws,L,fs,a,5,5,5,J _ _ (I.neL m) m,J _ _ (I.neL t) t,#[c.1,λi a w h1 h2=>J _ _ (I.neL (c.2 i a w h1 h2)) (c.2 i a w h1 h2)],F,u,Jg ha,q]
theorem cJ:NB ["plot","corners","ends","above","rows","passed","row"] ["plot","corners"] (ao iM):=⋯
inductive PR:Prop
 |mk (t b X Y:Int)(ws:r8)(ps:List Vc)(_:sy=.tup (ws.map (NF t b X Y)))(_:s_=.tup (ps.map (N4 t b X Y)))(_:Np t b X Y)(_:ws.length<=40)(_:(∀w∈ws,NK w))(_:PF ws)(_:ps.Pairwise N5)(_:(∀sy,sy∈ps↔sy∈Nc ws ws.length))(_:ps.length<=80)(_:Tb M)(_:∀(M':MH)(z:pd)(as:rp),kZ 172 M M'->M' z=MA (.lst (as.map D.ref))->OW M' as (Na ws ps)->Tb M'->Q (.ref z) M')
def rT(T:Tx K mg):Cal P w K mg base 6 "steps_of" (Ng PR):=by
 refine a9 (k:=5) T.h5 cJ λf _ _ _ s H _ N=>#[_,(aj (aC 2 cJ.nd (au (jY T).m N (ae (dv 0) (ae (dv 1) af)))) (aj (aC 3 cJ.nd (au (mN T).m N (ae (dv 0) af))) (aj (aC 4 cJ.nd (bD af)) (aj (gZ Jx rfl rfl T.n7 (ae (aw aQ (aO b7 rfl T.ma ck (ae (dv 1) af)) ai) af) (ay 5 cJ.nd) (aj (yS 6 cJ.nd (NC.of (xs:=["wall","first","second"]) (js:=[5]) rfl) rfl (lB rfl T.l4 (ae (dv 2) af)) (λ_ _ _ _=>(ip (xO (cS N.units) (pC N.units) (dv 1) (dv 3) (dv 2)))) (λ_ _ _ _=>(dv 0))) (aq (cz (cj (dv 4) (ae (au (mD T).m N (ae (dv 6) (ae (dv 3) af))) af)))))) (aq (aB (dv 4))))))),λ_ _ M Q h=>?_];let[t,b,X,Y,ws,ps,5,5,S,u,hU,hF,up,pm,pl,hT,k]:=h;let nd:ps.Nodup:=up.imp λz e=>by subst e;exact k8 _ z
 let wk:∀w∈ws,ea w∈ps/\eb w∈ps:=λw hw=>by let[j,F]:=List.getElem?_of_mem hw;exact #[(pm _).mpr ((dS _).mpr #[j,w,(J8.mp F).1,F,.inl rfl]),(pm _).mpr ((dS _).mpr #[j,w,(J8.mp F).1,F,.inr rfl])]
 refine #[7,7,t,b,X,Y,ws,ps,5,5,S,u,pm,nd,(),λM1 ze s1 n0 d0=>?_];refine #[7,t,b,X,Y,ws,5,S,u,hU,λM2 tb ab s2 e0 f0 fe=>?_];let O:=s2 _ _ d0;let G:=SD.Sub.trans s1 s2;let I:=hT.sub G;refine #[NG rfl,λB v=>?_];let g0:=I.neN v;let o0:=jq G v;(try dsimp only[SD.aU])
 exists 7,ps.length+1,(_),(),λi δ n=>RY λ(x:rp) (o5 o6:sk)=>Xs (δ=[MA (.tup (ws.map (NF t b X Y))),MA (.tup (ps.map (N4 t b X Y))),MA (.ref ze),MA (.ref tb),MA (.ref B),o5,o6]) (∀c o,c≠172->M2 c=MA o->n c=MA o) (n B=MA (.lst (x.map D.ref))) (B∉x) (OW n x ((Na ws ps).take i)) (x.length=i) (Tb n),#[[],_,7,λc o _ h=>by rw[ak (ax h v)];exact h,ag,by simp,.nil,5,I.new v],?_;rotate_left
 .rintro δ n ⟨x,o5,o6,rfl,kM,R,J,hR,al,C⟩;let e:(Na ws ps).take (ps.length+1)=Na ws ps:=KR (by simp[Na]);rw[e]at hR;exact #[7,NP (k n B x (λc o nc h=>kM c o nc (G _ _ h)) R hR C)]
 rintro i δ n hi ⟨x,o5,o6,rfl,kM,R,J,hR,al,C⟩;let kL:∀c (l:sg),M2 c=MA (.lst l)->n c=MA (.lst l):=λc l h=>kM c _ (I.neL h) h;let y:=kL _ _ O;let U:=kL _ _ e0;let el:(ws.map (RU ps)).length=ws.length:=J4 ..;(try dsimp only[SD.aU])
 refine #[7,ze,7,y,by show(ws.map (RU ps)).length<=1000000;omega,λr V=>?_];exists λj W M6=>W=(fG ps ws i j).map D.int/\M6=av n r (.lst W),#[5,rfl],λj W M6 _ q=>by let[_,5]:=q;show(av n r _) ze=_;rw[ak (ax y V)];exact y,?_
 .rintro j W d M6 F hd ⟨rfl,rfl⟩;let F:j<ws.length:=by have:j<(ws.map (RU ps)).length:=F;omega
  let hd:((ws.map (RU ps))[j]?).map (λd=>D.tup [.int (j:Int),d])=MA d:=hd;let[w1,_,_]:=aW (ws:=ws) (k:=(j:Int)) () ();rw[Kl]at w1;rw[Jf,w1]at hd;cases hd;exists _,#[_,_,7,rfl];let L:=vt ps ws i j;exists 7,7,trivial,7;refine bF (λh1=>?_) (λh1=>?_)
  .have h1:NV ps (ea (NH ws (j:Int)))<i:=by have:=MJ h1;omega
   exists 7,trivial,7;refine bF (λh2=>?_) (λh2=>?_)
   .have h2:i<=NV ps (eb (NH ws (j:Int))):=by have:=MJ h2;omega
    let e:gO ps ws i j=MC:=by unfold gO;rw[MI h1,MI h2];rfl
    rw[e,MF rfl]at L;exact #[7,_,.refl,ag,by rw[L,JE];rfl,by rw[bE]]
   .have h2:¬i<=NV ps (eb (NH ws (j:Int))):=by have:=of_decide_eq_false (eq_false_of_ne_true h2);omega
    let e:gO ps ws i j=MD:=by unfold gO;rw[MG h2,Bool.and_false]
    rw[e,ME ⋯,KD]at L;exact #[_,.refl,by rw[L],rfl]
  .have h1:¬NV ps (ea (NH ws (j:Int)))<i:=by have:=of_decide_eq_false (eq_false_of_ne_true h1);omega
   let e:gO ps ws i j=MD:=by unfold gO;rw[MG h1,Bool.false_and]
   rw[e,ME ⋯,KD]at L;exact #[7,#[_,.refl,by rw[L],rfl]]
 rintro W M6 ⟨rfl,rfl⟩;let e:fG ps ws i (ws.map (RU ps)).length=fG ps ws i ws.length:=by rw[el]
 let g:SD.Sub n (av n r (.lst ((fG ps ws i ws.length).map D.int))):=.new V .refl;let Z:(av n r (.lst ((fG ps ws i ws.length).map D.int))) r=MA (.lst ((fG ps ws i ws.length).map D.int)):=ag;dsimp only;rw[e];generalize av n r (.lst ((fG ps ws i ws.length).map D.int))=M7 at g Z ⊢;let h0:=C.sub g;exists 7,B,x.map D.ref,5,g _ _ R;refine #[7,7,r,tb,ws,ab,fG ps ws i ws.length,5,5,Z,g _ _ U,#[f0,λi a w h1 h2=>g _ _ (kL _ _ (fe i a w h1 h2))],uQ ps ws i,u,h0,λM8 p sr s8 fp i0 bk k0=>?_];let m0:=Cc hU hF up wk hi bk;let a0:M8 B=MA (.lst (x.map D.ref)):=s8 _ _ g0 (g _ _ R);let b0:p≠B:=λe=>by rw[e,g _ _ R]at fp;cases fp
 refine #[_,7,a0,by rw[J4];omega,?_];let c0:∀c o,c≠172->c≠B->n c=MA o->(av M8 B (.lst (x.map D.ref++[.ref p]))) c=MA o:=λc o h1 h2 h=>by rw[ak h2];exact s8 _ _ h1 (g _ _ h)
 refine #[x++[p],_,7,λc o nc h=>c0 c o nc (λe=>by rw[e,v]at h;cases h) (kM c o nc h),by rw[ag,JE];rfl,?_,?_,by simp[al],k0.upd a0]
 .simp only[Jv,Ku,not_or];exact #[J,λe=>b0 e.symm]
 .obtain⟨l9,e9⟩:=J8.mp m0;rw[List.take_succ_eq_append_getElem l9,e9];exact(hR.to λc l hc h=>c0 c _ (C.neL h) (λz=>J (z▸hc)) h).more (by rw[ak b0];exact i0)
theorem bf:NB ["things","guides","low","high","middle","word","number","before","past"] ["things","guides","low","high"] (ao dM):=⋯
def nC(n:Nat):Nl:=λf M Q=>match f with
 |[x,y,l,h]=>∃(p q:pd) (a e:sg) (c b:Nat),x=.ref p/\y=.ref q/\l=.int (c:Int)/\h=.int (b:Int)/\M p=MA (.lst a)/\M q=MA (.lst e)/\(∀d∈a,∃(x:Str) (k:Nat),d=.tup [.str x,.int (k:Int)])/\e.length=a.length+1/\a.length<=100/\c<=b/\b<=a.length/\b-c<2^n/\∀d,Q d M
 |_=>False
theorem CQ(n:Nat):∀ds M Q,nC n ds M Q->ds.length=4:=λds M Q h=>by
 unfold nC at h;split at h
 .rfl
 .exact h.elim
def j3:Nl:=nC 7
theorem Hd(T:Tx K mg):∀n:Nat,Cal P w K mg base (n+1) "guide_between" (nC n)
 |0=>by
  refine wC (k:=0) T.h7 bf (λ_ _ _ _ _ _ us t=>match us,t with|[_,_,_,_],_=>rfl) (CQ 0) λf cdv A outer s H E j=>#[_,(aj (br (aJ (bZ j.units) (dv 2) (dv 3)) (aq (aB (az (dv 1) (dv 2)))) aR) vK),λF M Q h=>?r]
  case r=>
   unfold nC at h
   split at h
   case h_2=>exact h.elim
   let[p,q,i,g,a,d,5,5,5,5,m,l,o,u,b,le,lt,y,k]:=h
   let e:a=d:=by simp at y;omega
   subst e
   refine #[7,7,7,zD (MI rfl) ?_]
   let v:g[a]?=MA g[a]:=J7 ()
   exact #[7,7,_,_,l,bM v,NP (k _)]
 |n+1=>by
  let z:=Hd T n
  refine wC (k:=n+1) (N:=["things","guides","low","high","middle","word","number","before","past"]) (ps:=["things","guides","low","high"]) T.h7 bf (λ_ _ _ _ _ _ us t=>match us,t with|[_,_,_,_],_=>rfl) (CQ (n+1)) λf cdv A outer s H E j=>#[_,(aj (br (aJ (bZ j.units) (dv 2) (dv 3)) (aq (aB (az (dv 1) (dv 2)))) aR)
   (aj (aC 4 bf.nd (aw gn (aw aQ (dv 2) (dv 3)) ai))
   (aj (bO (az (dv 0) (dv 4)) (bj rfl (aA (ay 5 bf.nd) (aA (ay 6 bf.nd) aS))))
   (aj (aC 7 bf.nd (au z j (ae (dv 0) (ae (dv 1) (ae (dv 2) (ae (dv 4) af))))))
   (aj (aC 8 bf.nd (au z j (ae (dv 0) (ae (dv 1) (ae (aw aQ (dv 4) ai) (ae (dv 3) af))))))
   (aq (aB (aG (ae j5 (ae (dv 5) (ae (dv 6) (ae (dv 7) (ae (dv 8) af))))))))))))),λF M Q h=>?r]
  case r=>
   unfold nC at h
   split at h
   case h_2=>exact h.elim
   let[p,q,i,g,a,d,5,5,5,5,m,l,o,u,b,le,lt,y,k]:=h
   exists 7,7,7
   refine bF (λe=>?_) (λe=>?_)
   .have e:a=d:=by have:(a:Int)=(d:Int):=‹e›;omega
    subst e
    let v:g[a]?=MA g[a]:=J7 ()
    exact #[7,7,_,_,l,bM v,NP (k _)]
   let e:a<d:=by have:¬(a:Int)=(d:Int):=‹e›;omega
   (try dsimp only[SD.aU])
   let B:((a:Int)+(d:Int)).fdiv 2=(((a+d)/2:Nat):Int):=by rw[K4 _ ⋯];omega
   generalize C:(a+d)/2=c at B
   let D:i[c]?=MA i[c]:=J7 ()
   let[x,I,G]:=o _ (Kj (():c<i.length))
   exists 7,7,#[⋯,bN ⋯]
   dsimp only
   rw[B]
   rw[G]at D
   let J:2^(n+1)=2^n*2:=Nat.pow_succ ..
   exists 7,7,_,_,m,bM D,7,5,_,7,_,7,5
   refine #[7,7,7,7,p,q,i,g,a,c,5,5,5,5,m,l,o,u,b,(),(),(),λL=>?_]
   refine #[7,7,7,7,p,q,i,g,c+1,d,5,5,5,5,m,l,o,u,b,(),(),(),λO=>?_]
   exact #[7,7,7,7,NG rfl,NP (k _)]
theorem kO(T:Tx K mg):Cal P w K mg base 8 "guide_between" j3:=Hd T 7
theorem ix:NB ["things","guides"] ["things","guides"] (ao cG):=⋯
inductive Nr(x y:D)(M:MH)(Q:DK):Prop
 |mk (p q:pd)(ts gs:sg)(_:x=.ref p)(_:y=.ref q)(_:M p=MA (.lst ts))(_:M q=MA (.lst gs))(_:(∀d∈ts,∃(x:Str) (k:Nat),d=.tup [.str x,.int (k:Int)]))(_:gs.length=ts.length+1)(_:ts.length<=100)(_:∀d,Q d M)
def eC(T:Tx K mg):Cal P w K mg base 9 "guide_by_halving" (Ng Nr):=by refine a9 (k:=8) T.h_ ix λf _ _ _ s H _ e=>#[_,(aq (aB (au (kO T).m e (ae (dv 0) (ae (dv 1) (ae ai (ae (aO b7 rfl T.ma ck (ae (dv 0) af)) af))))))),λ_ _ M Q h=>?_];let[p,q,b,g,5,5,c,i,j,l,a,k]:=h;exact #[7,7,7,_,c,p,q,b,g,0,b.length,5,5,5,5,c,i,j,l,a,K3 _,Je _,(),λd=>NP (k d)]
theorem fy:NB ["row","lands","answers"] ["row","lands"] (ao dH):=⋯
inductive OP:Prop
 |mk (r q:pd)(ks L:q_)(_:sy=.ref r)(_:s_=.ref q)(_:M r=MA (.lst (ks.map D.int)))(_:M q=MA (.lst (L.map D.int)))(_:ks.length<=40)(_:(∀k∈ks,0<=k/\2*k.toNat<L.length))(_:∀d' M',SD.Sub M M'->Q d' M')
def kT(T:Tx K mg):Cal P w K mg base 10 "guide_of_step" (Ng OP):=by
 refine a9 (k:=9) T.ia fy λf cdv A outer s H E hr=>#[_,(aj (aC 2 fy.nd (aw aQ (bD (ae (aG (ae j5 (ae ai af))) af)) (bz (NC.of (xs:=["wall"]) (js:=[1]) rfl) rfl (aP (dv 0)) (λ_ _ _ _=>aY) (λ_ _ _ _=>(aG (ae j5 (ae (az (dv 1) (aw aI ai (dv 0))) af))))))) (aq (aB (au (eC T).m hr (ae (bz (NC.of (xs:=["wall"]) (js:=[]) rfl) rfl (aP (dv 0)) (λ_ _ _ _=>aY) (λ_ _ _ _=>(aG (ae j5 (ae (dv 0) af))))) (ae (bz (NC.of (xs:=["answer"]) (js:=[]) rfl) rfl (aP (dv 2)) (λ_ _ _ _=>aY) (λ_ _ _ _=>(aG (ae j5 (ae (dv 0) af))))) af)))))),λ_ _ M Q h=>?_];let[r,q,ks,L,5,5,c,hq,hl,W,k]:=h;let X:(ks.map D.int).length=ks.length:=J4 ..
 let Y:∀(f:Int->D),(Jq (ks.map D.int).length).map (λi=>((ks.map f)[i]?).getD .non)=ks.map f:=λf=>by
  have:=SD.range_getD (ks.map f)
  rw[J4]at this ⊢
  exact this
 refine #[NG rfl,NG rfl,λa ha=>?_];let v:SD.Sub M (av M a (.lst [.tup [.str "land",.int 0]])):=.new ha .refl;let o:(av M a (.lst [.tup [.str "land",.int 0]])) a=MA (.lst [.tup [.str "land",.int 0]]):=ag;generalize av M a (.lst [.tup [.str "land",.int 0]])=N at v o ⊢;refine #[7,_,v _ _ c,comp_map (λi=>((ks.map λk=>D.tup [.str "land",((L.map D.int)[2*k.toNat]?).getD .non])[i]?).getD .non) (by show(ks.map D.int).length<=1000000;omega) (λz Z g=>Xg (v _ _ c) g) ?_ (λz g=>?_)]
 .intro i e M' hi hd O;let[p,G,5]:=jh hd;refine #[7,λK x=>?_];let b:=x _ .refl;rw[getD_map G]at b;let[k0,k1]:=W p (Jg G);obtain⟨n,rfl⟩:∃n:Nat,p=(n:Int):=#[p.toNat,()];rw[Kl]at k1 b;let ev:(L.map D.int)[2*n]?=MA (.int L[2*n]):=by rw[Jf,J7 k1];rfl
  rw[ev]at b;exact #[7,7,aK (bN ⋯),_,_,O _ _ (v _ _ hq),(by rw[show 2*(n:Int)=((2*n:Nat):Int) by omega];exact bM ev),NG rfl,b]
 dsimp only;rw[Y];refine #[_,_,Xg o g,ag,(by have:1000<=Jo:=NG rfl;show 1+(ks.map _).length<=_;rw[J4];omega),λl t=>?_];let s2:SD.Sub N (av N z (.lst (ks.map λk=>D.tup [.str "land",((L.map D.int)[2*k.toNat]?).getD .non]))):=.new g .refl;let u:=SD.Sub.trans v s2;generalize av N z (.lst (ks.map λk=>D.tup [.str "land",((L.map D.int)[2*k.toNat]?).getD .non]))=R at u t ⊢;generalize eA:[D.tup [.str "land",.int 0]]++ks.map (λk=>D.tup [.str "land",((L.map D.int)[2*k.toNat]?).getD .non])=A;let lA:A.length=ks.length+1:=by rw[<-eA];simp
 let I:SD.Sub M (av R l (.lst A)):=.new t u;let y:(av R l (.lst A)) l=MA (.lst A):=ag;generalize av R l (.lst A)=J at I y ⊢;clear v o g s2 u t eA;refine #[7,_,I _ _ c,comp_map (λi=>((ks.map λk=>D.tup [.str "wall",.int k])[i]?).getD .non) (by show(ks.map D.int).length<=1000000;omega) (λz Z g=>Xg (I _ _ c) g) ?_ (λB S=>?_)]
 .intro i e M' hi hd O;let[p,G,5]:=jh hd;refine #[7,λK x=>?_];let b:=x _ .refl;rw[getD_map G]at b;exact #[7,NG rfl,b]
 dsimp only;rw[Y];let U:SD.Sub J (av J B (.lst (ks.map λk=>D.tup [.str "wall",.int k]))):=.new S .refl;let j:(av J B (.lst (ks.map λk=>D.tup [.str "wall",.int k]))) B=MA (.lst (ks.map λk=>D.tup [.str "wall",.int k])):=ag;generalize av J B (.lst (ks.map λk=>D.tup [.str "wall",.int k]))=M4 at U j ⊢;let C:=U _ _ y;refine #[7,_,C,comp_map (λi=>((A.map λd=>D.tup [.str "told",d])[i]?).getD .non) (by show A.length<=1000000;omega) (λz Z g=>Xg C g) ?_ (λzg F=>?_)]
 .intro i e M' hi hd O;let hd:A[i]?=MA e:=hd;refine #[7,λK x=>?_];let b:=x _ .refl;rw[getD_map hd]at b;exact #[7,NG rfl,b]
 let rA:(Jq A.length).map (λi=>((A.map λd=>D.tup [.str "told",d])[i]?).getD .non)=A.map λd=>D.tup [.str "told",d]:=by
  have:=SD.range_getD (A.map λd=>D.tup [.str "told",d])
  rw[J4]at this
  exact this
 dsimp only;rw[rA];refine #[B,zg,ks.map (λk=>D.tup [.str "wall",.int k]),A.map (λd=>D.tup [.str "told",d]),5,5,Xg j F,ag,λd h=>?_,by simp[lA],by simp;omega,λd=>NP (k d _ (SD.Sub.trans I (SD.Sub.trans U (.new F .refl))))];let[p,V,5]:=JO.mp h;exact #["wall",p.toNat,by rw[Int.toNat_of_nonneg (W p V).1]]
theorem ij:NB ["n","many"] ["n"] (ao mJ):=⋯
def AF(n:Nat)(h:0<n):hv n=hv (n/2)+1:=by
 let key:∀f,f<hv n↔f<hv (n/2)+1:=λf=>by
  rw[<-Cf];cases f with
  |zero=>simp;omega
  |succ f=>
   rw[Nat.add_lt_add_iff_right,<-Cf,Nat.pow_succ]
   omega
 let a:=key (hv n);let b:=key (hv (n/2)+1);let c:=key (hv (n/2));omega
inductive QF:Prop
 |mk (n:Nat)(_:sy=.int (n:Int))(_:Q (.int (hv n:Int)) M)
def pT(T:Tx K mg):Cal P w K mg base 1 "halves" (Pp QF):=by
 refine eQ (k:=0) T.i7 ij λf _ _ _ s H _ c=>#[_,(aj (aC 1 ij.nd ai) (aj (gu Jx (aJ (gV c.units) (dv 0) ai) (aj (aC 0 ij.nd (aw gn (dv 0) ai)) (aq (tj 1 ij.nd xV ai)))) (aq (aB (dv 1))))),λ_ M Q h=>?_];let[n,5,k]:=h;walk_at "u"
 exists λm δ b=>b=M/\∃(y:Nat),δ=[MA (.int (m:Int)),MA (.int (y:Int))]/\y+hv m=hv n,#[n,5,0,5,()];rintro m δ b ⟨rfl,y,rfl,d⟩;exists 7,trivial,7;refine bF (λh=>?_) (λh=>?_)
 .have a:0<m:=‹h›
  walk_at "u"
  exists 7,#[⋯,bN ⋯],7,7;exists m/2,(),5,y+1,?_
  .dsimp only;rw[show((m:Int)).fdiv 2=((m/2:Nat):Int)from by rw[K4 _ ⋯];omega];rfl
  .have:=AF m a;omega
 .have a:m=0:=by
   have:¬0<(m:Int):=‹h›
   omega
  subst a;exists 7;rw[show y=hv n from by have:hv 0=0:=rfl;omega];exact NP k
theorem cP:NB ["self","plot","many","lands"] ["self","plot"] (ao dn):=⋯
def bY(K:J1):Nl:=λf M Q=>match f with
 |[s,u]=>∃(a:pd) (t b X Y:Int) (ws:r8),s=.ref a/\u=.tup (ws.map (NF t b X Y))/\M a=MA (dh (cl K "Steps") [])/\Np t b X Y/\ws.length<=40/\(∀w∈ws,NK w)/\PF ws/\Tb M/\
  ∀(d:MH)(ps:List Vc)(g m:D)(z:pd)(e:rp),(∀c o,c≠a->c≠172->M c=MA o->d c=MA o)->d a=MA (dh (cl K "Steps") (QG (.tup (ws.map (NF t b X Y))) (ps.map (N4 t b X Y)) g m (.ref z)))->d z=MA (.lst (e.map D.ref))->OW d e (Na ws ps)->ps.Perm (Nc ws ws.length)->ps.Pairwise N5->Tb d->Q .non d
 |_=>False
theorem ja(K:J1):∀ds M Q,(bY K) ds M Q->ds.length=2:=λds M Q h=>by
 unfold bY at h;split at h
 .rfl
 .exact h.elim
def jT(T:Tx K mg):wD P w K mg base 11 "Steps" (cl K "Steps") (bY K):=by
 refine HC (k:=10) (N:=["self","plot","many","lands"]) (ps:=["self","plot"]) T.pa cP (λ_ _ _ _ _ _ us hl=>by let[_,_,5]:=SD.rN hl;rfl) (ja K) λf _ _ _ s H _ R=>#[_,(aj (cz (BR ((lX T).mono ⋯) R (ae (dv 0) (ae (dv 1) af)))) (aj (aC 2 cP.nd (aO b7 rfl T.ma ck (ae (eZ (dv 0)) af))) (aj (aC 3 cP.nd (au (j0 T).m R (ae (eZ (dv 0)) af))) (aj (gb (au (rT T).m R (ae (eZ (dv 0)) (ae (eZ (dv 0)) af))) (dv 0)) (aj (gb (au (eC T).m R (ae (bz (NC.of (xs:=["corner"]) (js:=[]) rfl) rfl (fL rfl T.n7 (ae (dv 2) af)) (λ_ _ _ _=>aY) (λ_ _ _ _=>(aG (ae j5 (ae (dv 0) af))))) (ae (bz (NC.of (xs:=["row"]) (js:=[3]) rfl) rfl (aP (eZ (dv 0))) (λ_ _ _ _=>aY) (λ_ _ _ _=>(au (kT T).m R (ae (dv 0) (ae (dv 1) af))))) af))) (dv 0)) (aq (gb (aw aQ (au (pT T).m R (ae (dv 2) af)) (aO (oo rfl R.units) rfl T.m_ sH (ae (bz (NC.of (xs:=["row"]) (js:=[]) rfl) rfl (aP (eZ (dv 0))) (λ_ _ _ _=>aY) (λ_ _ _ _=>(au (pT T).m R (ae (aO b7 rfl T.ma ck (ae (dv 0) af)) af)))) af))) (dv 0)))))))),λds M Q h=>?r]
 case r=>
  unfold bY at h
  split at h
  case h_2=>exact h.elim
  let[a,t,b,X,Y,ws,5,5,ha,S,j,hU,hF,hT,k]:=h
  refine #[7,7,a,t,b,X,Y,ws,5,5,ha,S,j,hU,λM1 ps s1 G pm pw=>?_]
  let c0:Tb M1:=hT.ins K ha s1
  let pl:ps.length<=80:=by have:=pm.length_eq;have:=h8 ws ws.length;omega
  exists 7,a,_,_,7,G,T.cl_Steps,T.na_corners,5
  let e0:(ps.map (N4 t b X Y)).length=ps.length:=J4 ..
  refine #[7,a,_,_,7,G,T.cl_Steps,T.na_plot,5,t,b,X,Y,ws,5,S,j,hU,hF,λM2 zl L s2 d0 a0 il=>?_]
  let y:=s2 _ _ G
  let I:=c0.sub s2
  refine #[7,a,_,_,7,y,T.cl_Steps,T.na_plot,5,7,a,_,_,7,y,T.cl_Steps,T.na_corners,5,t,b,X,Y,ws,ps,5,5,S,j,hU,hF,pw,λu=>pm.mem_iff,pl,I,λU g x s3 hz hR o0=>?_]
  let B:=s3 _ _ (I.neI K y) y
  let V:=s3 _ _ (I.neL a0) a0
  let sc:∀c o,c≠a->c≠172->M c=MA o->U c=MA o:=λc o h1 h2 h=>s3 _ _ h2 (s2 _ _ (s1 _ _ h1 h))
  clear hT c0 I s1 s2 s3 G y a0 d0
  exists 7,a,_,7,B,T.cl_Steps,T.na_step_rows,(⋯:4<1000)
  let e1:Rv "step_rows" (D.ref g) (Zx (.tup (ws.map (NF t b X Y))) (ps.map (N4 t b X Y)) .non .non)=QG (.tup (ws.map (NF t b X Y))) (ps.map (N4 t b X Y)) .non .non (.ref g):=rfl
  rw[e1]
  let kM:∀(v:MH) fs,kZ a U v->v a=MA (dh (cl K "Steps") fs)->Tb v/\OW v x (Na ws ps)/\v g=MA (.lst (x.map D.ref))/\v zl=MA (.lst (L.map D.int)):=λv fs h y0=>#[o0.ins K B h,hR.to λc l _ e=>h _ _ (EJ B e) e,h _ _ (EJ B hz) hz,h _ _ (EJ B V) V]
  let Pn:kZ a U (av U a (dh (cl K "Steps") (QG (.tup (ws.map (NF t b X Y))) (ps.map (N4 t b X Y)) .non .non (.ref g)))):=λc u nc h=>by rw[ak nc];exact h
  let J:(av U a (dh (cl K "Steps") (QG (.tup (ws.map (NF t b X Y))) (ps.map (N4 t b X Y)) .non .non (.ref g)))) a=MA (dh (cl K "Steps") (QG (.tup (ws.map (NF t b X Y))) (ps.map (N4 t b X Y)) .non .non (.ref g))):=ag
  generalize av U a (dh (cl K "Steps") (QG (.tup (ws.map (NF t b X Y))) (ps.map (N4 t b X Y)) .non .non (.ref g)))=M4 at Pn J ⊢
  let[z0,f0,g0,h0]:=kM _ _ Pn J
  let sl:(Na ws ps).length=ps.length+1:=by simp[Na]
  let al:x.length=ps.length+1:=by rw[hR.1,sl]
  refine #[7,ps.length,by rw[e0],(),comp_map (λi=>D.tup [.str "corner",.int (i:Int)]) (by show ps.length<=1000000;omega) (λz F hz=>trivial) ?_ (λzt q0=>?_)]
  .intro i e v hi hd sb;cases hd;refine #[7,λK hK=>?_];exact #[7,NG rfl,hK _ .refl]
  dsimp only
  let s5:SD.Sub M4 (av M4 zt (.lst ((Jq ps.length).map λi:Nat=>D.tup [.str "corner",.int (i:Int)]))):=.new q0 .refl
  let W:(av M4 zt (.lst ((Jq ps.length).map λi:Nat=>D.tup [.str "corner",.int (i:Int)]))) zt=MA (.lst ((Jq ps.length).map λi:Nat=>D.tup [.str "corner",.int (i:Int)])):=ag
  generalize av M4 zt (.lst ((Jq ps.length).map λi:Nat=>D.tup [.str "corner",.int (i:Int)]))=M5 at s5 W ⊢
  let r0:(x.map D.ref).length=x.length:=J4 ..
  refine #[7,a,_,_,7,s5 _ _ J,T.cl_Steps,T.na_step_rows,5,x.map D.ref,s5 _ _ g0,by show(x.map D.ref).length<=1000000;omega,λzg i0=>?_]
  exists λi F v=>F.length=i/\SD.Sub M5 v/\v zg=MA (.lst F),#[5,.new i0 .refl,ag],λi F v _ q=>q.2.1 _ _ (s5 _ _ g0),?_
  .rintro i F d v hi hd ⟨yl,sb,hg⟩;let[ra,C,5]:=jh hd;let li:i<(Na ws ps).length:=by rw[<-f0.1];exact(J8.mp C).1
   let er:=J7 li;let s0:=sb _ _ (s5 _ _ (f0.2 i ra _ C er));let Fr:=sf hU hF (Jg er);exists 7;dsimp only[SD.b4];refine ju ?_;refine #[7,7,ra,zl,(Na ws ps)[i],L,5,5,s0,sb _ _ (s5 _ _ h0),JT Fr.len j,λk hk=>?_,λd' M6 s6=>?_]
   .have:=Fr.b k hk;rw[il];omega
   .refine #[_,.refl,s6 _ _ hg,by simp[yl],λc o h=>?_,ag];rw[ak (ax h i0)];exact s6 _ _ (sb _ _ h)
  rintro F M6 ⟨yl,s6,t0⟩
  let yl:F.length=ps.length+1:=by let h:F.length=(x.map D.ref).length:=yl;omega
  let k0:=SD.Sub.trans s5 s6
  let u0:=k0 _ _ J
  refine #[zt,zg,_,F,5,5,s6 _ _ W,t0,λd h=>?_,by simp[yl],by simp;omega,λgd=>?_]
  .obtain⟨k',_,rfl⟩:=JO.mp h;exact #["corner",k',rfl]
  exists 7,a,_,7,u0,T.cl_Steps,T.na_guide,(⋯:5<1000)
  let e2:Rv "guide" gd (QG (.tup (ws.map (NF t b X Y))) (ps.map (N4 t b X Y)) .non .non (.ref g))=QG (.tup (ws.map (NF t b X Y))) (ps.map (N4 t b X Y)) gd .non (.ref g):=rfl
  rw[e2]
  let O6:kZ a U (av M6 a (dh (cl K "Steps") (QG (.tup (ws.map (NF t b X Y))) (ps.map (N4 t b X Y)) gd .non (.ref g)))):=λc u nc h=>by rw[ak nc];exact k0 _ _ (Pn _ _ nc h)
  let O:(av M6 a (dh (cl K "Steps") (QG (.tup (ws.map (NF t b X Y))) (ps.map (N4 t b X Y)) gd .non (.ref g)))) a=MA (dh (cl K "Steps") (QG (.tup (ws.map (NF t b X Y))) (ps.map (N4 t b X Y)) gd .non (.ref g))):=ag
  generalize av M6 a (dh (cl K "Steps") (QG (.tup (ws.map (NF t b X Y))) (ps.map (N4 t b X Y)) gd .non (.ref g)))=M7 at O6 O ⊢
  let[a1,m0,b0,_]:=kM _ _ O6 O
  refine #[7,ps.length,by rw[e0],?_]
  refine #[7,a,_,_,7,O,T.cl_Steps,T.na_step_rows,5,x.map D.ref,b0,comp_map (λi=>((((Na ws ps).map λr=>(hv r.length:Int)).map D.int)[i]?).getD .non) (by show(x.map D.ref).length<=1000000;omega) (λp F hp=>by show(av M7 p _) g=_;rw[ak (ax b0 hp)];exact b0) ?_ (λp n0=>?_)]
  .intro i d M9 hi hd v0;let[ra,C,5]:=jh hd;let li:i<(Na ws ps).length:=by rw[<-m0.1];exact(J8.mp C).1
   let er:=J7 li;refine #[7,λK2 w0=>?_];let Z:=w0 _ .refl;rw[KA,getD_map er]at Z;exact #[7,_,v0 _ _ (m0.2 i ra _ C er),(Na ws ps)[i].length,by rw[J4],Z]
  dsimp only
  let e:(Jq (x.map D.ref).length).map (λi=>((((Na ws ps).map λr=>(hv r.length:Int)).map D.int)[i]?).getD .non)=((Na ws ps).map λr=>(hv r.length:Int)).map D.int:=by
   have:=SD.range_getD (((Na ws ps).map λr=>(hv r.length:Int)).map D.int)
   rw[J4,J4,sl]at this
   rw[r0,al]
   exact this
  rw[e]
  refine #[_,ag,by simp[Na],λn hn=>?_]
  let x0:=SD.Sub.new (o:=.lst (((Na ws ps).map λr=>(hv r.length:Int)).map D.int)) n0 .refl _ _ O
  let s8:=SD.Sub.new (o:=.lst (((Na ws ps).map λr=>(hv r.length:Int)).map D.int)) n0 .refl
  exists 7,a,_,7,x0,T.cl_Steps,T.na_most_looks,(⋯:5<1000)
  let Rg:∀o,kZ a U (av (av M7 p (.lst (((Na ws ps).map λr=>(hv r.length:Int)).map D.int))) a o):=λo c u nc h=>by rw[ak nc];exact s8 _ _ (O6 _ _ nc h)
  let[z1,z2,z3,_]:=kM _ _ (Rg _) ag
  exact NP (k _ ps gd _ g x (λc o h1 h2 h=>Rg _ _ _ h1 (sc c o h1 h2 h)) ag z3 z2 pm pw z1)
theorem eO:NB ["_law_top","_law_bottom","_law_one","_law_other"] ["_law_top","_law_bottom"] (ao iK):=⋯
inductive Pc:Prop
 |mk (t:_)(b:_)(_:sy=.int t)(_:s_=.int b)(_:0<b)(_:Bd 8000 t)(_:Bd 8000 b)(_:Q (My (Rat.divInt t b)) M)
def lW(T:Tx K mg):Cal P w K mg base 1 "_law_frac" (Ng Pc):=by
 refine a9 (k:=0) T.i_ eO λf _ _ _ s H _ j=>#[_,(aj (aC 2 eO.nd (aO tD rfl T.lg sW (ae (dv 0) af))) (aj (aC 3 eO.nd (dv 1)) (aj (gu Jx (aJ (gV j.units) (dv 3) ai) (aq (iD 2 3 rfl eO.nd (ae (dv 3) (ae (aw fV (dv 2) (dv 3)) af))))) (aq (aB (aG (ae (aw gn (dv 0) (dv 2)) (ae (aw gn (dv 1) (dv 2)) af)))))))),λ_ _ M Q h=>?_];let[t,b,5,5,l,p,d,q]:=h;obtain⟨n,rfl⟩:∃n:Nat,b=(n:Int):=#[b.toNat,()];let r:=Ma.fv (t:=t) (show(n:Int)≠0 by omega);let c:Bd 8000 ((LN t.natAbs (n:Int).natAbs:Nat):Int):=d.of_le ‹Nat.gcd_le_right t.natAbs (():0<(n:Int).natAbs)›;exists 7,7;exists λm δ i=>i=M/\∃x y:Nat,δ=[MA (.int t),MA (.int n),MA (.int x),MA (.int y)]/\LN x y=LN t.natAbs (n:Int).natAbs/\m=y,#[7,_,n,5,5,rfl];rintro m δ i ⟨rfl,x,y,rfl,a,o⟩;exists 7,trivial,7;refine bF (λh=>?_) (λh=>?_)
 .have e:0<y:=by
   have:(0:Int)<(y:Int):=‹h›
   omega
  let g:(y:Int)≠0:=()
  exists 7,7,7,g,_,7;refine #[x%y,by rw[o];exact Nat.mod_lt _ e,5,y,x%y,?_,?_,rfl]
  .rw[<-Ma.u9];rfl
  .rw[<-a,Nat.gcd_comm x y,Nat.gcd_rec y x,Nat.gcd_comm]
 .have g:y=0:=by
   have:¬(0:Int)<(y:Int):=‹h›
   omega
  subst g;rw[Nat.gcd_zero_right]at a;subst a;let[e1,e2]:=Ma.u7 (t:=t) l;exists 7,7,#[(),c],7,7,#[(),c],NG rfl;dsimp only;rw[e1,e2];exact NP q
theorem c9:NB ["_law_frame_here","_law_spot","_law_p","_law_q","_law_s","_law_t"] ["_law_frame_here","_law_spot"] (ao gr):=⋯
inductive Ol:Prop
 |mk (t b x y p q:Int)(_:sy=YF t b x y)(_:s_=.tup [.int p,.int q])(_:Np t b x y)(_:(-(10^6)<=p/\p<=10^6))(_:(-(10^6)<=q/\q<=10^6))(_:Q (Mx (MY t b x 1 p) (MY t b y 1 q)) M)
def ki(T:Tx K mg):Cal P w K mg base 2 "_law_given" (Ng Ol):=by
 refine a9 (k:=1) T.j_ c9 λf _ _ _ s H _ c=>#[_,(aj (bO (dv 0) (bj rfl (aA (ay 2 c9.nd) (aA (ay 3 c9.nd) (aA (ay 4 c9.nd) (aA (ay 5 c9.nd) aS)))))) (aq (aB (aG (ae (au (lW T).m c (ae (aw aQ (aw aI (az (dv 1) ai) (dv 2)) (dv 4)) (ae (dv 3) af))) (ae (au (lW T).m c (ae (aw aQ (aw aI (az (dv 1) ai) (dv 2)) (dv 5)) (ae (dv 3) af))) af)))))),λ_ _ M Q h=>?_];let[t,b,x,y,p,q,5,5,S,d,e,k]:=h;let i:Bd 100 t:=by have:=S.t0;have:=S.t1;show t.natAbs<2^100;omega
 let a:∀{z:Int},(-(10^6)<=z/\z<=10^6)->Bd 64 z:=λ{z} h=>by show z.natAbs<2^64;omega
 let g:Bd 8000 b:=by have:=S.b0;have:=S.b1;exact Bd.mono (m:=100) (by show b.natAbs<2^100;omega) ⋯
 let big:∀{z w:Int},(-(10^6)<=z/\z<=10^6)->(-(10^30)<=w/\w<=10^30)->Bd 8000 (z*t+w):=λ{z w} h1 h2=>by
  let e1:Bd 164 (z*t):=(a h1).mul i
  let e2:Bd 164 w:=by show w.natAbs<2^164;omega
  exact(e1.add e2).mono ⋯
 let j:b≠0:=by have:=S.b0;omega
 exists 7,7,5,_,7,_,7,_,7,_,7,5;exists 7,7,7,aK (a d),7,7,p*t+x,b,5,5,S.b0,big d #[S.x0,S.x1],g;exists 7,7,7,aK (a e),7,7,q*t+y,b,5,5,S.b0,big e #[S.y0,S.y1],g,NG rfl;rw[Ma.zP,Ma.zP];exact NP k
theorem qM:NB ["_law_frame_here","_law_shuts"] ["_law_frame_here","_law_shuts"] (ao iQ):=⋯
inductive Pa:Prop
 |mk (t b x y:Int)(l:pd)(ws:List (Int×Int×Int×Int))(_:sy=YF t b x y)(_:s_=.ref l)(_:M l=MA (.lst (ws.map uw)))(_:Np t b x y)(_:ws.length<=1000)(_:(∀w∈ws,Uok (10^6) w))(_:Q (.tup (ws.map (NF t b x y))) M)
def tL(T:Tx K mg):Cal P w K mg base 3 "_law_plot" (Ng Pa):=by
 refine a9 (k:=2) T.ka qM λf _ _ _ s H _ n=>#[_,(aq (aB (cL mz rfl T.ox mM (ae (qa (NC.of (xs:=["_law_first","_law_second"]) (js:=[0]) rfl) rfl (aP (dv 1)) (λ_ _ _ _=>aY) (λ_ _ _ _=>(aG (ae (au (ki T).m n (ae (dv 2) (ae (dv 0) af))) (ae (au (ki T).m n (ae (dv 2) (ae (dv 1) af))) af))))) af)))),λ_ _ M Q h=>?_];let[t,b,x,y,l,ws,5,5,g,S,C,o,k]:=h;refine #[7,ws.map uw,g,comp_map (λi=>((ws.map (NF t b x y))[i]?).getD .non) (by simp;omega) (λp D j=>?_) ?_ (λp j=>#[_,ag,?_])]
 .show(av M p _) l=_;rw[ak (ax g j)];exact g
 .intro i e q F a _;let a:(ws.map uw)[i]?=MA e:=a;rw[Jf]at a;cases d:ws[i]? with
  |none=>rw[d]at a;cases a
  |some w=>
   rw[d]at a
   cases a
   let[r,u,v,z]:=o w (Jg d)
   refine #[_,#[7,5,rfl],λK B=>?_]
   let c:=B q .refl
   rw[getD_map d]at c
   exists 7,7,t,b,x,y,w.1,w.2.1,5,5,S,r,u
   exact #[7,7,t,b,x,y,w.2.2.1,w.2.2.2,5,5,S,v,z,NG rfl,c]
 .exists _,.new j .refl
  let e:(Jq (ws.map uw).length).map (λi=>((ws.map (NF t b x y))[i]?).getD .non)=ws.map (NF t b x y):=by
   have:=SD.range_getD (ws.map (NF t b x y))
   rw[J4]at this ⊢
   exact this
  dsimp only;rw[e];exact k
theorem dR:NB ["_law_pot_here","_law_many","_law_kind","_law_far"] ["_law_pot_here","_law_many"] (ao gv):=⋯
inductive Om:Prop
 |mk (r:pd)(n:Nat)(m:Int)(_:sy=.ref r)(_:s_=.int m)(_:N0 M r n)(_:n<700000)(_:∀(t b x y:Int) M',Np t b x y->t<=10^20->b<=10^25->(-(10^27)<=x/\x<=10^27)->(-(10^27)<=y/\y<=10^27)->Kx [r] M M'->N0 M' r (n+5)->Q (YF t b x y) M')
def qw(T:Tx K mg):Cal P w K mg base 2 "_law_frame" (Ng Om):=by
 refine a9 (k:=1) T.ke dR λf _ _ _ s H _ U=>#[_,(aj (aC 2 dR.nd (au (aH T).m U (ae (dv 0) (ae ai af)))) (aj (br (aJ (cS U.units) (dv 2) ai) (aq (aB (aG (ae ai (ae ai (ae ai (ae ai af))))))) aR) (aj (br (oS (jS (aJ (bZ U.units) (dv 2) ai) (ib (aJ (cS U.units) (dv 1) ai)))) (aj (d4 3 dR.nd (NC.of (xs:=["_law_k"]) (js:=[0]) rfl) rfl (fL rfl T.n7 (ae ai af)) (λ_ _ _ _=>aY) (λ_ _ _ _=>(aw bg (au (aH T).m U (ae (dv 1) (ae (aw aQ (aw aI ai (aw gT ai ai)) ai) af))) (aw gT ai ai)))) (aq (aB (aG (ae (aw aQ ai (au (aH T).m U (ae (dv 0) (ae (aw gT ai ai) af)))) (ae (aw aQ ai (au (aH T).m U (ae (dv 0) (ae (aw gT ai ai) af)))) (ae (az (dv 3) ai) (ae (az (dv 3) ai) af)))))))) aR) (aj (d4 3 dR.nd (NC.of (xs:=["_law_k"]) (js:=[0]) rfl) rfl (fL rfl T.n7 (ae ai af)) (λ_ _ _ _=>aY) (λ_ _ _ _=>(aw bg (au (aH T).m U (ae (dv 1) (ae (aw aQ (aw aI ai (aw gT ai ai)) ai) af))) (aw gT ai ai)))) (aq (aB (aG (ae (aw aQ ai (au (aH T).m U (ae (dv 0) (ae (aw gT ai ai) af)))) (ae (aw aQ ai (au (aH T).m U (ae (dv 0) (ae (aw gT ai ai) af)))) (ae (az (dv 3) ai) (ae (az (dv 3) ai) af))))))))))),λ_ _ M Q h=>?_];let[r,n,m,5,5,P0,hn,k]:=h;refine #[7,r,16,n,5,5,P0,(),⋯,bN ⋯,λkd o h0 h1 V=>?_];let q:Kx [r] M (av M r o):=Kx.refl.upd (_);generalize av M r o=M1 at V q ⊢;exists 7,trivial,7;refine bF (λ_=>?_) (λ_=>?_)
 .exact #[NG rfl,NP (k 1 1 0 0 M1 #[⋯,⋯,⋯,⋯,⋯,⋯,⋯,⋯] ⋯ ⋯ ⋯ ⋯ q (V.le ()))]
 walk_at "u"
 exists 7,7;refine bF (λ_=>?_) (λ_=>?_)
 .exists 7,trivial,7;refine bF (λ_=>?_) (λ_=>?_)
  .exists 2,5,⋯;refine #[by show 2<=1000000;omega,λp G=>?_];let b:r≠p:=V.ne G;exists λj I c=>∃us:q_,I=us.map D.int/\us.length=j/\(∀u∈us,-(10^27)<=u/\u<=10^27)/\Kx [r] M c/\c p=MA (.lst I)/\N0 c r (n+1+j),#[[],5,5,λu hu=>absurd hu (_),q.new G,ag,V.new G],λ_ _ _ _ _=>trivial,?_
   .rintro j I d c W hd ⟨us,rfl,N,J,e,g,t⟩;let W:j<2:=W;exists 7;dsimp only[SD.b4];refine ju ?_;refine #[7,#[⋯,⋯,⋯],aK (bN ⋯),r,2*10^27+1,n+1+j,5,5,t,(),⋯,Bd.mono (m:=100) (by show(2*10^27+1:Int).natAbs<2^100;decide) ⋯,λv l a0 a1 L=>?_];let B:(av c r l) p=MA (.lst (us.map D.int)):=by rw[ak b.symm];exact g
    let C:Kx [r] M (av c r l):=e.upd (_);generalize av c r l=M5 at B C L ⊢;refine #[#[⋯,⋯,⋯],trivial,M5,.refl,B,us++[v-10^27],by simp,by simp[N],λx hx=>?_,?_,ag,L.upd b]
    .rcases Jv.mp hx with z|z
     .exact J x z
     .have:x=v-10^27:=‹z›
      subst this;omega
    .intro a X Y ea
     let O:a≠p:=λz=>by
      subst z
      have:=q a X Y ea
      rw[G]at this;cases this
     rw[ak O];exact C a X Y ea
   rintro I R ⟨us,rfl,i,J,e,g,t⟩;let i:us.length=2:=i;let t:N0 R r (n+3):=t
   obtain⟨x,y,rfl⟩:∃x y,us=[x,y]:=by
    match us,i with
    |[x,y],_=>exact #[x,y,rfl]
   let hx:=J x (_);let hy:=J y (_);refine #[7,#[⋯,⋯,⋯],r,10^20,n+3,5,5,t,(),⋯,Bd.mono (m:=100) (by show(10^20:Int).natAbs<2^100;decide) ⋯,λv l a0 a1 L=>?_];refine #[7,#[⋯,⋯,⋯],r,10^25,n+4,5,5,L,(),⋯,Bd.mono (m:=100) (by show(10^25:Int).natAbs<2^100;decide) ⋯,λv2 Z b0 b1 P6=>?_];let F:(av (av R r l) r Z) p=MA (.lst ([x,y].map D.int)):=by rw[ak b.symm,ak b.symm];exact g
   let S:Kx [r] M (av (av R r l) r Z):=(e.upd (_)).upd (_);exists 7,_,_,F,5,7,_,_,F,5,NG rfl;exact NP (k (1+v) (1+v2) x y _ #[(),(),(),(),(),(),(),()] () () () () S P6)
  .exists 2,5,⋯;refine #[by show 2<=1000000;omega,λp G=>?_];let b:r≠p:=V.ne G;exists λj I c=>∃us:q_,I=us.map D.int/\us.length=j/\(∀u∈us,-(10^6)<=u/\u<=10^6)/\Kx [r] M c/\c p=MA (.lst I)/\N0 c r (n+1+j),#[[],5,5,λu hu=>absurd hu (_),q.new G,ag,V.new G],λ_ _ _ _ _=>trivial,?_
   .rintro j I d c W hd ⟨us,rfl,N,J,e,g,t⟩;let W:j<2:=W;exists 7;dsimp only[SD.b4];refine ju ?_;refine #[7,#[⋯,⋯,⋯],aK (bN ⋯),r,2*10^6+1,n+1+j,5,5,t,(),⋯,Bd.mono (m:=100) (by show(2*10^6+1:Int).natAbs<2^100;decide) ⋯,λv l a0 a1 L=>?_];let B:(av c r l) p=MA (.lst (us.map D.int)):=by rw[ak b.symm];exact g
    let C:Kx [r] M (av c r l):=e.upd (_);generalize av c r l=M5 at B C L ⊢;refine #[#[⋯,⋯,⋯],trivial,M5,.refl,B,us++[v-10^6],by simp,by simp[N],λx hx=>?_,?_,ag,L.upd b]
    .rcases Jv.mp hx with z|z
     .exact J x z
     .have:x=v-10^6:=‹z›
      subst this;omega
    .intro a X Y ea
     let O:a≠p:=λz=>by
      subst z
      have:=q a X Y ea
      rw[G]at this;cases this
     rw[ak O];exact C a X Y ea
   rintro I R ⟨us,rfl,i,J,e,g,t⟩;let i:us.length=2:=i;let t:N0 R r (n+3):=t
   obtain⟨x,y,rfl⟩:∃x y,us=[x,y]:=by
    match us,i with
    |[x,y],_=>exact #[x,y,rfl]
   let hx:=J x (_);let hy:=J y (_);refine #[7,#[⋯,⋯,⋯],r,10^4,n+3,5,5,t,(),⋯,Bd.mono (m:=100) (by show(10^4:Int).natAbs<2^100;decide) ⋯,λv l a0 a1 L=>?_];refine #[7,#[⋯,⋯,⋯],r,10^4,n+4,5,5,L,(),⋯,Bd.mono (m:=100) (by show(10^4:Int).natAbs<2^100;decide) ⋯,λv2 Z b0 b1 P6=>?_];let F:(av (av R r l) r Z) p=MA (.lst ([x,y].map D.int)):=by rw[ak b.symm,ak b.symm];exact g
   let S:Kx [r] M (av (av R r l) r Z):=(e.upd (_)).upd (_);exists 7,_,_,F,5,7,_,_,F,5,NG rfl;exact NP (k (1+v) (1+v2) x y _ #[(),(),(),(),(),(),(),()] () () () () S P6)
 .exists 2,5,⋯;refine #[by show 2<=1000000;omega,λp G=>?_];let b:r≠p:=V.ne G;exists λj I c=>∃us:q_,I=us.map D.int/\us.length=j/\(∀u∈us,-(10^6)<=u/\u<=10^6)/\Kx [r] M c/\c p=MA (.lst I)/\N0 c r (n+1+j),#[[],5,5,λu hu=>absurd hu (_),q.new G,ag,V.new G],λ_ _ _ _ _=>trivial,?_
  .rintro j I d c W hd ⟨us,rfl,N,J,e,g,t⟩;let W:j<2:=W;exists 7;dsimp only[SD.b4];refine ju ?_;refine #[7,#[⋯,⋯,⋯],aK (bN ⋯),r,2*10^6+1,n+1+j,5,5,t,(),⋯,Bd.mono (m:=100) (by show(2*10^6+1:Int).natAbs<2^100;decide) ⋯,λv l a0 a1 L=>?_];let B:(av c r l) p=MA (.lst (us.map D.int)):=by rw[ak b.symm];exact g
   let C:Kx [r] M (av c r l):=e.upd (_);generalize av c r l=M5 at B C L ⊢;refine #[#[⋯,⋯,⋯],trivial,M5,.refl,B,us++[v-10^6],by simp,by simp[N],λx hx=>?_,?_,ag,L.upd b]
   .rcases Jv.mp hx with z|z
    .exact J x z
    .have:x=v-10^6:=‹z›
     subst this;omega
   .intro a X Y ea
    let O:a≠p:=λz=>by
     subst z
     have:=q a X Y ea
     rw[G]at this;cases this
    rw[ak O];exact C a X Y ea
  rintro I R ⟨us,rfl,i,J,e,g,t⟩;let i:us.length=2:=i;let t:N0 R r (n+3):=t
  obtain⟨x,y,rfl⟩:∃x y,us=[x,y]:=by
   match us,i with
   |[x,y],_=>exact #[x,y,rfl]
  let hx:=J x (_);let hy:=J y (_);refine #[7,#[⋯,⋯,⋯],r,10^4,n+3,5,5,t,(),⋯,Bd.mono (m:=100) (by show(10^4:Int).natAbs<2^100;decide) ⋯,λv l a0 a1 L=>?_];refine #[7,#[⋯,⋯,⋯],r,10^4,n+4,5,5,L,(),⋯,Bd.mono (m:=100) (by show(10^4:Int).natAbs<2^100;decide) ⋯,λv2 Z b0 b1 P6=>?_];let F:(av (av R r l) r Z) p=MA (.lst ([x,y].map D.int)):=by rw[ak b.symm,ak b.symm];exact g
  let S:Kx [r] M (av (av R r l) r Z):=(e.upd (_)).upd (_);exists 7,_,_,F,5,7,_,_,F,5,NG rfl;exact NP (k (1+v) (1+v2) x y _ #[(),(),(),(),(),(),(),()] () () () () S P6)
theorem cA:NB ["_law_shut","_law_x","_law_a","_law_b","_law_c","_law_d"] ["_law_shut","_law_x"] (ao fZ):=⋯
inductive Ob:Prop
 |mk (g h:Int)(w:Wl)(x:Int)(_:sy=NI g h w)(_:s_=.int (g*x-h))(_:Gs g h)(_:NK w)(_:(0<=x/\x<=20))(_:Q (.tup [.int (Nb (raw g h w) (g*x-h)),.int (N9 (raw g h w))]) M)
def jg(T:Tx K mg):Cal P w K mg base 1 "_law_height" (Ng Ob):=by
 refine a9 (k:=0) T.km cA λf _ _ _ s H _ j=>#[_,(aj (bO (az (dv 0) ai) (bj rfl (aA (ay 2 cA.nd) (aA (ay 3 cA.nd) aS)))) (aj (bO (az (dv 0) ai) (bj rfl (aA (ay 4 cA.nd) (aA (ay 5 cA.nd) aS)))) (aj (br (aJ (bZ j.units) (dv 2) (dv 4)) (aq (aB (aG (ae (dv 3) (ae ai af))))) aR) (aq (aB (aG (ae (aw aQ (aw aI (dv 3) (aw bg (dv 4) (dv 2))) (aw aI (aw bg (dv 5) (dv 3)) (aw bg (dv 1) (dv 2)))) (ae (aw bg (dv 4) (dv 2)) af)))))))),λ_ _ M Q h=>?_];let[g,h,w,x,5,5,G,W,hx,k]:=h;let l:=ir G W.a;let i:=ir G W.b;let m:=ir G W.c;let bd:=ir G W.d;let bx:=ir G hx;exists 7,7,7,5,_,7,_,7,5;exists 7,7,7,5,_,7,_,7,5;exists 7,7,7;refine bF (λe=>?_) (λe=>?_)
 .have e:g*(ea w).1-h=g*(eb w).1-h:=‹e›
  let e:g*w.1-h=g*w.2.2.1-h:=e;let e1:Nb (raw g h w) (g*x-h)=g*w.2.1-h:=by unfold Nb raw;rw[MF e]
  let e2:N9 (raw g h w)=1:=by unfold N9 raw;rw[MF e]
  rw[e1,e2]at k;exact #[7,NG rfl,NP k]
 .have e:¬g*(ea w).1-h=g*(eb w).1-h:=‹e›
  let e:¬g*w.1-h=g*w.2.2.1-h:=e;let e1:Nb (raw g h w) (g*x-h)=(g*w.2.1-h)*(g*w.2.2.1-h-(g*w.1-h))+(g*w.2.2.2-h-(g*w.2.1-h))*(g*x-h-(g*w.1-h)):=by unfold Nb raw;rw[ME e]
  let e2:N9 (raw g h w)=g*w.2.2.1-h-(g*w.1-h):=by unfold N9 raw;rw[ME e]
  rw[e1,e2]at k;exact #[7,7,7,trivial,aK (i.mono ⋯),7,7,trivial,7,7,trivial,aK ((bd.sub i).mono ⋯),7,7,trivial,NG rfl,NP k]
theorem bK:NB ["_law_one","_law_other","_law_x","_law_top","_law_bottom","_law_last","_law_under","_law_ways","_law_steeper"] ["_law_one","_law_other","_law_x"] (ao fM):=⋯
inductive Oa:Prop
 |mk (g h:Int)(U V:Wl)(x:Int)(_:sy=NI g h U)(_:s_=NI g h V)(_:ti=.int (g*x-h))(_:Gs g h)(_:NK U)(_:NK V)(_:(0<=x/\x<=20))(_:∀M',SD.Sub M M'->Q (.bl (Pk U V x)) M')
def oI(T:Tx K mg):Cal P w K mg base 2 "_law_higher" (SA Oa):=by
 refine n4 (k:=1) T.kz bK λf _ _ _ s H _ c=>#[_,(aj (bO (au (jg T).m c (ae (dv 0) (ae (dv 2) af))) (bj rfl (aA (ay 3 bK.nd) (aA (ay 4 bK.nd) aS)))) (aj (bO (au (jg T).m c (ae (dv 1) (ae (dv 2) af))) (bj rfl (aA (ay 5 bK.nd) (aA (ay 6 bK.nd) aS)))) (aj (br (aJ (jv c.units) (aw aI (dv 3) (dv 6)) (aw aI (dv 5) (dv 4))) (aq (aB (bV (gV c.units) (aw aI (dv 3) (dv 6)) (aw aI (dv 5) (dv 4))))) aR) (aj (d4 7 bK.nd (NC.of (xs:=["_law_shut"]) (js:=[]) rfl) rfl (aP (aG (ae (dv 0) (ae (dv 1) af)))) (λ_ _ _ _=>aY) (λ_ _ _ _=>(aG (ae (aw bg (az (az (dv 0) ai) ai) (az (az (dv 0) ai) ai)) (ae (aw bg (az (az (dv 0) ai) ai) (az (az (dv 0) ai) ai)) af))))) (aj (aC 8 bK.nd (bV (gV c.units) (aw aI (az (az (dv 7) ai) ai) (az (az (dv 7) ai) ai)) (aw aI (az (az (dv 7) ai) ai) (az (az (dv 7) ai) ai)))) (aq (aB (bV (bZ c.units) (dv 8) (bV (bZ c.units) (az (az (dv 0) ai) ai) (dv 2)))))))))),λ_ _ _ M Q h=>?_];let[g,h,U,V,x,5,5,5,G,l,n,hx,k]:=h;exists 7,7,g,h,U,x,5,5,G,l,hx,7,5,_,7,_,7,5;exists 7,7,g,h,V,x,5,5,G,n,hx,7,5,_,7,_,7,5;let o:∀{w:Wl},NK w->Bd 30 (Nb (raw g h w) (g*x-h)):=λ{w} W=>D7 G W hx;exists 7,7,aK ((o l).mono ⋯),7,7,aK ((o n).mono ⋯),7;rw[<-CZ (h:=h) G.g0]at k;refine bF (λe=>?_) (λe=>?_)
 .have e:¬Nb (raw g h U) (g*x-h)*N9 (raw g h V)=Nb (raw g h V) (g*x-h)*N9 (raw g h U):=‹e›
  let e1:Pk (raw g h U) (raw g h V) (g*x-h)=decide (Nb (raw g h V) (g*x-h)*N9 (raw g h U)<Nb (raw g h U) (g*x-h)*N9 (raw g h V)):=by unfold Pk;rw[ME e]
  rw[e1]at k;exact #[7,7,aK ((o l).mono ⋯),7,7,aK ((o n).mono ⋯),trivial,NP (k _ .refl)]
 let e:Nb (raw g h U) (g*x-h)*N9 (raw g h V)=Nb (raw g h V) (g*x-h)*N9 (raw g h U):=‹e›
 let e1:Pk (raw g h U) (raw g h V) (g*x-h)=(R0 (raw g h U) (raw g h V)==decide ((raw g h U).1=g*x-h)):=by unfold Pk;rw[MF e]
 rw[e1]at k;refine #[7,7,NG rfl,[NI g h U,NI g h V],5,comp_map (λi=>if i=0 then SO g h U else SO g h V) (NG rfl) (λ_ _ _=>rfl) ?_ (λp t=>?_)]
 .intro i d v q hd _;let q:i<2:=q;let hd:[NI g h U,NI g h V][i]?=MA d:=hd;refine #[7,λK u=>?_];let j:=u _ .refl;rcases(():i=0\/i=1)with rfl|rfl
  .cases hd;exact #[7,7,7,7,7,7,trivial,7,7,7,7,7,7,trivial,NG rfl,j]
  .cases hd;exact #[7,7,7,7,7,7,trivial,7,7,7,7,7,7,trivial,NG rfl,j]
 let r:∀{w:Wl},NK w->Bd 13 (g*w.2.2.2-h-(g*w.2.1-h)):=λ{w} W=>(ir G W.d).sub (ir G W.b);dsimp only;let a:(av M p (.lst [SO g h U,SO g h V])) p=MA (.lst [SO g h U,SO g h V]):=ag;exists 7,_,_,a,5,7,7,_,_,a,5,7,aK ((r l).mono ⋯),7,_,_,a,5,7,7,_,_,a,5,7,aK ((r n).mono ⋯),trivial;exact #[7,7,7,7,7,NP (k _ (.new t .refl))]
theorem cV:NB ["_law_shuts","_law_spot","_law_found","_law_number","_law_shut","_law_at"] ["_law_shuts","_law_spot"] (ao gK):=⋯
inductive Oj:Prop
 |mk (l:pd)(g h:Int)(ws:r8)(c:Vc)(_:sy=.ref l)(_:s_=gp g h c)(_:Gs g h)(_:M l=MA (.lst (ws.map (NI g h))))(_:(∀w∈ws,NK w))(_:PF ws)(_:ws.length<=40)(_:Nd c)(_:c∈Nc ws ws.length)(_:∀(M':MH)(z:pd),SD.Sub M M'->M z=MB->M' z=MA (.lst ((stk ws c ws.length).map D.int))->Q (.ref z) M')
def qC(T:Tx K mg):Cal P w K mg base 3 "_law_stack" (Ng Oj):=by
 refine a9 (k:=2) T.kS cV λf _ _ _ s H _ V=>#[_,(aj (aC 2 cV.nd (bD af)) (aj (bJ Jx rfl (lB rfl T.l4 (ae (dv 0) af)) (bj rfl (aA (ay 3 cV.nd) (aA (ay 4 cV.nd) aS))) (aq (br (oS (jS (aJ (pC V.units) (az (dv 4) ai) (dv 1)) (ib (aJ (cS V.units) (dv 1) (az (dv 4) ai))))) (aj (aC 5 cV.nd (aO b7 rfl T.ma ck (ae (bz (NC.of (xs:=["_law_other"]) (js:=[4,0,1]) rfl) rfl (aP (dv 2)) (λ_ _ _ _=>(ip (eD (au (oI T).m V (ae (dv 1) (ae (az (dv 2) (dv 0)) (ae (az (dv 3) ai) af))))))) (λ_ _ _ _=>(dv 0))) af))) (aq (cz (e7 (dv 2) (ae (dv 5) (ae (dv 3) af)))))) aR))) (aq (aB (dv 2))))),λ_ _ M Q h=>?_];let[l,g,h,ws,c,5,5,G,L,X,hF,a0,N,b0,k]:=h;refine #[NG rfl,λv r=>?_];let Y:(av M v (.lst [])) l=MA (.lst (ws.map (NI g h))):=by rw[ak (ax L r)];exact L
 let el:(ws.map (NI g h)).length=ws.length:=J4 ..;(try dsimp only[SD.aU])
 exists 7,l,7,Y,λi δ t=>RY λ(Z o4 o5:sk)=>δ=[MA (.ref l),MA (gp g h c),MA (.ref v),Z,o4,o5]/\SD.Sub M t/\t v=MA (.lst ((stk ws c i).map D.int)),#[_,_,7,.new r .refl,ag],λi δ t _ q=>let⟨_,_,_,_,s,_⟩:=q;s _ _ L,?_;rotate_left
 .rintro δ t ⟨Z,o4,o5,rfl,x,p⟩;let p:t v=MA (.lst ((stk ws c (ws.map (NI g h)).length).map D.int)):=p;rw[el]at p;exact #[7,NP (k t v x r p)]
 rintro i d δ t hi hd ⟨Z,o4,o5,rfl,x,p⟩;let hi:i<(ws.map (NI g h)).length:=hi;rw[el]at hi;let hd:((ws.map (NI g h))[i]?).map (λd=>D.tup [.int (i:Int),d])=MA d:=hd;let[w1,_,w3]:=aW (ws:=ws) (k:=(i:Int)) () ();rw[Kl]at w1;rw[Jf,w1]at hd;cases hd;let W:=X _ w3;let[S,hm]:=jP (c:=c) X hF i ();let es:stk ws c (i+1)=if OK (NH ws (i:Int)) c=MC then f6 (stk ws c i) (c8 ws (stk ws c i) (i:Int)) (i:Int)else stk ws c i:=rfl;rw[es];exists 7,5,_,7,_,7,5;exists 7,7,7,[g*(NH ws (i:Int)).1-h,g*(NH ws (i:Int)).2.1-h],[g*c.1-h,g*c.2-h],5,5,7;rw[oN G.g0,xk W.b N.2];refine bF (λh1=>?_) (λh1=>?_);rotate_left
 .have e:OK (NH ws (i:Int)) c=MD:=by unfold OK;exact MG λz=>h1 (MI z.1)
  rw[e];exact #[_,_,7,x,p]
 exists 7,7,7,[g*c.1-h,g*c.2-h],[g*(NH ws (i:Int)).2.2.1-h,g*(NH ws (i:Int)).2.2.2-h],5,5,7;rw[ue G.g0,ua N.2 W.d];refine bF (λh2=>?_) (λh2=>?_);rotate_left
 .have e:OK (NH ws (i:Int)) c=MD:=by unfold OK;exact MG λz=>h2 (MI z.2)
  rw[e];exact #[_,_,7,x,p]
 let e:OK (NH ws (i:Int)) c=MC:=by unfold OK;exact MI #[MJ h1,MJ h2]
 rw[e,MF rfl];let fl:=S.fs.len;refine #[7,(stk ws c i).map D.int,p,by show((stk ws c i).map D.int).length<=1000000;simp;omega,λq hq=>?_];exists λj y u=>y=(((stk ws c i).take j).filter λo=>NQ (NH ws (i:Int)) (NH ws o)).map D.int/\SD.Sub t u/\u q=MA (.lst y),#[5,.new hq .refl,ag],λj y u _ z=>z.2.1 _ _ p,?_
 .rintro j y d u hj hd ⟨rfl,B,n⟩;let[one,C,5]:=jh hd;let R:=(hm one).mp (Jg C);let O:=X _ (aW (ws:=ws) (k:=one) R.1.1 ()).2.2;let ne:one≠(i:Int):=()
  let hh:Pk (NH ws (i:Int)) (NH ws one) c.1=NQ (NH ws (i:Int)) (NH ws one):=FL W O (hF i one.toNat _ _ () w1 (aW R.1.1 ()).1) N e R.2
  let U:((stk ws c i).take (j+1)).filter (λo=>NQ (NH ws (i:Int)) (NH ws o))=((stk ws c i).take j).filter (λo=>NQ (NH ws (i:Int)) (NH ws o))++if NQ (NH ws (i:Int)) (NH ws one)=MC then[one]else[]:=by
   rw[Ml,C,List.filter_append]
   congr 1
   cases z:NQ (NH ws (i:Int)) (NH ws one)<;>simp[z]
  let sm:∀{M9:MH},SD.Sub u M9->SD.Sub t M9:=λs=>B.trans s;exists 7;refine #[7,7,7,_,_,(B _ _ (x _ _ L)),atG R.1.1 (),7,7,g,h,NH ws (i:Int),NH ws one,c.1,5,5,5,G,W,O,N.1,λM9 s9=>?_];rw[hh];let F:=s9 _ _ n;cases z:NQ (NH ws (i:Int)) (NH ws one)with
  |true=>
   rw[z,MF rfl]at U
   exists 7
   rw[MF rfl]
   refine #[7,_,.refl,F,by rw[U,JE];rfl,λa o I=>?_,ag]
   rw[ak (ax I hq)]
   exact sm s9 _ _ I
  |false=>
   rw[z,ME ⋯,KD]at U
   exists 7
   rw[ME ⋯]
   exact #[_,.refl,by rw[U],sm s9,F]
 .rintro y u ⟨rfl,B,n⟩;let n:u q=MA (.lst ((((stk ws c i).take ((stk ws c i).map D.int).length).filter λo=>NQ (NH ws (i:Int)) (NH ws o)).map D.int)):=n;rw[J4,List.take_length]at n;let J:=B _ _ p;exists _,n;rw[J4];let cl:c8 ws (stk ws c i) (i:Int)<=(stk ws c i).length:=List.length_filter_le ..;refine #[7,v,7,J,7,7,_,_,c8 ws (stk ws c i) (i:Int),5,J,by rw[J4];exact cl,by rw[J4];omega,?_];refine #[_,_,7,λa o I=>?_,by rw[ag,jn]];rw[ak (ax I r)];exact B _ _ (x _ _ I)
theorem pV:NB ["_law_found","_law_due"] ["_law_found","_law_due"] (ao iY):=⋯
inductive P9:Prop
 |mk (P:_)(_:Pd M sy P)(_:Pd M s_ P)(_:wX P=MC)(_:Zp P)(_:Q (.bl MC) M)
def sO(T:Tx K mg):Cal P w K mg base 1 "_law_same" (Ng P9):=by refine a9 (k:=0) T.k_ pV λf _ _ _ s H _ a=>#[_,(aq (aB (bV Df (aO (uk a.gd a.units) rfl T.n_ uL (ae (dv 0) af)) (aO (uk a.gd a.units) rfl T.n_ uL (ae (dv 1) af))))),λ_ _ M Q h=>?_];let[P,b,c,di,S,k]:=h;exact #[7,P,b,di,S,7,P,c,di,S,5,NP k]
theorem d9:NB ["_law_script","_law_k","_law_pot_here","_law_shuts","_law_corners_here","_law_found","_law_due","_law_number","_law_shut","_law_there"] ["_law_script"] (ao xE):=⋯
inductive RR(x:D)(M:MH)(Q:DK):Prop
 |mk (ns:_)(hh0:x=.rol (Le D.int ns))(hh1:ns.length<=63)(hh2:Tb M)(hh3:∀M',Q (.bl MC) M'):RR x M Q
def jB:Nl:=λa M Q=>match a with
 |[x]=>RR x M Q
 |_=>False
theorem ER:∀ds M Q,jB ds M Q->ds.length=1:=λds M Q h=>by
 unfold jB at h;split at h
 .rfl
 .exact h.elim
def Hn{P:Ju}{w:JV}{K:J1}{mg:Str->Option J3}{fa:pd}(T:Tx K mg)(g3:mg "law"=MA (.ref fa)):∃fd,(∀(s:J5)(u:J3),BindsTo s fd #[[u],[]] [("_law_script",u)])/\∀base:pq,Ni P w K mg base OT 13 fa fd ["_law_script"] (dN K jB):=by
 refine HY (k:=12) (N:=["_law_script","_law_k","_law_pot_here","_law_shuts","_law_corners_here","_law_found","_law_due","_law_number","_law_shut","_law_there"]) T.lb g3 d9 (λ_ _ _ _ _ _ us hl=>by let[_,5]:=SD.yt hl;rfl) ER λbase f cdv A outer s H E C=>#[_,(aj (gZ Jx rfl rfl T.n7 (ae (aw aQ ai (aO (t7 rfl C.units) rfl T.nk yY (ae ai (ae (aO b7 rfl T.ma ck (ae (dv 0) af)) af)))) af) (ay 1 d9.nd) (aj (aC 2 d9.nd (au (vb T).m C (ae (dv 0) (ae (dv 1) af)))) (aj (aC 3 d9.nd (au (jN T).m C (ae (dv 2) (ae ai af)))) (aj (br (aJ (bZ C.units) (au (aH T).m C (ae (dv 2) (ae ai af))) ai) (aq (aC 3 d9.nd (au (mV T).m C (ae (dv 2) (ae ai af))))) aR) (aj (aC 4 d9.nd (au (m4 T).m C (ae (dv 3) af))) (aj (aC 5 d9.nd (ym T.cl_Steps ((mX T).mono ⋯) C (Az ((jT T).mono ⋯) C (ae (au (tL T).m C (ae (au (qw T).m C (ae (dv 2) (ae (aO b7 rfl T.ma ck (ae (dv 3) af)) af))) (ae (dv 3) af))) af)))) (aj (aC 6 d9.nd (aw aQ (bD (ae (bD af) af)) (bz (NC.of (xs:=["_law_corner"]) (js:=[3]) rfl) rfl (aP (dv 4)) (λ_ _ _ _=>aY) (λ_ _ _ _=>(au (qC T).m C (ae (dv 1) (ae (dv 0) af))))))) (aj (br (oS (xl (yz (eD (au (sO T).m C (ae (dv 5) (ae (dv 6) af))))) (rV (aJ (jv C.units) (az (dv 6) (nN g9 ai)) (bD af))))) (aq (aB kh)) aR) (aq (bJ Jx rfl (lB rfl T.l4 (ae (dv 3) af)) (bj rfl (aA (ay 7 d9.nd) (aA (ay 8 d9.nd) aS))) (aj (zk 9 d9.nd (NC.of (xs:=["_law_place","_law_row"]) (js:=[7]) rfl) rfl (lB rfl T.l4 (ae (dv 5) af)) (λ_ _ _ _=>(ip (aJ (Hy (gA C)) (dv 2) (dv 1) (by with_unfolding_all rfl)))) (λ_ _ _ _=>(dv 0))) (aq (br (aJ (jv C.units) (dv 9) (vU rfl T.mu T.n7 (ae (aw aQ (lZ (gA C) (dv 4) (ae (az (dv 8) ai) af)) ai) (ae (aw aQ (lZ (gA C) (dv 4) (ae (az (dv 8) ai) af)) ai) af)))) (aq (aB kh)) aR))))))))))))) (aq (aB kh))),λds M Q h=>?r]
 case r=>
  unfold jB at h
  split at h
  case h_2=>exact h.elim
  let[ns,5,w3,n1,k]:=h
  obtain⟨m,hm,x3⟩:∃m:Nat,1+min (3:Int) ((Le D.int ns).length:Nat)=(m:Int)/\m<=4:=#[(1+min (3:Int) ((Le D.int ns).length:Nat)).toNat,(),()]
  refine #[7,m,(by rw[hm]),(),λi δ M=>Tb M/\∃T:r_,δ=MA (.rol (Le D.int ns))::T/\T.length=9,#[n1,7,rfl],?_,λδ M q=>?_]
  rotate_left
  .obtain⟨hT,T',rfl,_⟩:=q;exact NP (k _)
  rintro i δ M hi ⟨hT,T',rfl,hL⟩
  refine R4 hL λo1 T' hL=>?_
  refine R4 hL λo2 T' hL=>?_
  refine Ij hL λo3 o4 o5 o6 o7 o8 o9=>?_
  (try dsimp only[SD.aU])
  refine Sh λB hB=>?_
  refine #[7,7,ns,(i:Int),5,5,(),λr ob C P0=>?_]
  let z0:Tb (av M r ob):=hT.new C
  generalize av M r ob=Ma at P0 z0 ⊢
  clear hT n1
  refine #[7,r,0,9,5,5,⋯,P0,⋯,λl ws Mb Y fl kx hl W hF F P1=>?_]
  let p1:Tb Mb:=z0.pot P0 kx
  clear z0
  (try dsimp only[SD.aU])
  refine dA (λδ I=>Xr λ(g h:Int) (l:pd) (ws:r8)=>Rf (Gs g h) (δ=[MA (.rol (Le D.int ns)),MA (.int (i:Int)),MA (.ref r),MA (.ref l),o4,o5,o6,o7,o8,o9]) (r≠l) (I l=MA (.lst (ws.map (NI g h)))) (∀w∈ws,NK w) (PF ws) (ws.length<=40) ((Nc ws ws.length).length<64) (N0 I r 500) (Tb I)) ?_ (λhu=>?_)
  rotate_left
  .refine #[7,r,10,0+400,5,5,P1,(),⋯,bN ⋯,λv o h0 h1 P2=>#[7,?_]];let q1:Tb (av Mb r o):=p1.pot P1 (Kx.refl.upd (_));let cl:=h8 ws ws.length;refine bF (λ_=>?_) (λ_=>hu _ _ #[6,24,l,ws,#[⋯,⋯,⋯,⋯],5,Y,by rw[ak Y.symm];exact hl,W,hF,(),(),P2.le (),q1]);exact #[7,r,0+400+1,5,5,P2,(),λl2 h3 M4 n2 f2 i3 k3 U2 F2 r1 c2 P3=>hu _ _ #[12,0,l2,h3,#[⋯,⋯,⋯,⋯],5,n2,k3,U2,F2,r1,c2,P3.le (),q1.pot P2 i3]]
  clear hl Y fl kx W hF F P1 p1 P0
  rintro δ M3 ⟨g,h,l,ws,G,rfl,Y,hl,W,hF,F,n3,P3,s1⟩
  refine #[7,l,g,h,ws,5,G,hl,W,F,n3,λM4 zc ps s4 fc hc pm pw=>?_]
  let c1:=s4 _ _ hl
  let p3:zc≠r:=(P3.ne fc).symm
  let P4:N0 M4 r 500:=let⟨a,b,c,h1,h2⟩:=P3;#[a,b,c,s4 _ _ h1,h2]
  let t1:Tb M4:=s1.sub s4
  let he:∀w∈ws,ea w∈ps/\eb w∈ps:=λw hw=>by let[j,hj]:=List.getElem?_of_mem hw;exact #[pm.mem_iff.mpr ((dS _).mpr #[j,w,(J8.mp hj).1,hj,.inl rfl]),pm.mem_iff.mpr ((dS _).mpr #[j,w,(J8.mp hj).1,hj,.inr rfl])]
  let pl:ps.length<64:=by have:=pm.length_eq;omega
  clear hl P3 s1 s4 fc M3
  refine #[7,7,_,c1,r,500,7,5,P4,(),λt b x y M5 S ht hb hx hy f0 P5=>?_]
  let d1:=f0 l _ ‹Y.symm› c1
  let u1:=f0 zc _ ‹p3› hc
  let f1:Tb M5:=t1.pot P4 f0
  clear c1 hc f0 P4 t1 M4
  refine #[7,t,b,x,y,l,ws.map (raw g h),5,5,(by rw[yI];exact d1),S,by rw[J4];omega,λw hw=>?_,?_]
  .obtain⟨w0,q3,rfl⟩:=JO.mp hw;let[a1,a2,a3,a4]:=Fl G (W w0 q3);exact #[(),(),(),()]
  rw[yw]
  let S':=Bx S G ht hb hx hy
  refine λa ha=>?_
  refine #[a,_,_,_,_,ws,5,5,ag,S',F,W,hF,f1.new ha,λM6 n gd md z as kp g1 v1 w1 y1 z1 d2=>#[5,?_]]
  let e6:=BL (λk=>by rw[y1.mem_iff,pm.mem_iff]) z1 pw
  subst e6
  let kl:∀c (o:sg),M5 c=MA (.lst o)->M6 c=MA (.lst o):=λc o e=>kp c _ (ax e ha) (f1.neL e) (by rw[ak (ax e ha)];exact e)
  let e2:=kl _ _ d1
  let L:=kl _ _ u1
  clear kp kl f1 d1 u1 P5 ha S S' ht hb hx hy y1 z1
  let sl:(Na ws n).length=n.length+1:=by simp[Na]
  let g2:∀r∈Na ws n,r.length<=40:=λr C=>JT (sf W hF C).len F
  refine #[a,7,g1,5,a,z,_,as,7,g1,5,v1,w1,(),g2,λM7 p bs s7 i2 j2=>?_]
  let i1:=s7 _ _ e2
  let i0:=s7 _ _ L
  let m2:Tb M7:=d2.sub s7
  clear s7 g1 v1 w1 e2 L d2 gd md M6
  refine #[NG rfl,λJ p2=>#[NG rfl,λe1 k0=>?_]]
  let q2:J≠e1:=λz=>by subst z;rw[ag]at k0;cases k0
  let X:SD.Sub M7 (av (av M7 J (.lst [])) e1 (.lst [.ref J])):=.new k0 (.new p2 .refl)
  let m0:(av (av M7 J (.lst [])) e1 (.lst [.ref J])) J=MA (.lst []):=by rw[ak q2,ag]
  let j1:(av (av M7 J (.lst [])) e1 (.lst [.ref J])) e1=MA (.lst [.ref J]):=ag
  generalize av (av M7 J (.lst [])) e1 (.lst [.ref J])=M8 at X m0 j1 ⊢
  let gl:(n.map (gp g h)).length=n.length:=J4 ..
  refine #[7,n.map (gp g h),X _ _ i0,by show(n.map (gp g h)).length<=1000000;omega,λq hq=>?_]
  exists λj ys I=>∃cs:rp,cs.length=j/\ys=cs.map D.ref/\SD.Sub M8 I/\I q=MA (.lst ys)/\q∉cs/\OW I cs ((n.take j).map λc=>stk ws c ws.length),#[[],5,5,.new hq .refl,ag,by simp,.nil],λj ys I _ z=>?_,?_
  .obtain⟨cs,_,_,Z,_⟩:=z;exact Z _ _ (X _ _ i0)
  .rintro j ys d I hj hd ⟨cs,cl,rfl,Z,r2,nq,hC⟩;let hd:(n.map (gp g h))[j]?=MA d:=hd;rw[Jf]at hd;cases ec:n[j]? with
   |none=>rw[ec]at hd;cases hd
   |some c=>
    rw[ec]at hd
    cases hd
    let cm:=pm.mem_iff.mp (Jg ec)
    exists 7
    dsimp only[SD.b4]
    refine ju ?_
    refine #[7,7,l,g,h,ws,c,5,5,G,Z _ _ (X _ _ i1),W,hF,F,zW W c cm,cm,λM9 z9 s9 f9 r3=>?_]
    let nz:q≠z9:=ax r2 f9
    exists _,.refl,s9 _ _ r2,cs++[z9],by simp[cl],by simp,λa o e=>?_,ag,?_
    .rw[ak (ax e hq)];exact s9 _ _ (Z _ _ e)
    .simp only[Jv,Ku,not_or];exact #[nq,nz]
    .rw[Ml,ec,Option.toList_some,JE];exact(hC.to λa l' ha e=>by rw[ak (show a≠q from λz=>nq (z▸ha))];exact s9 _ _ e).more (by rw[ak nz.symm];exact r3)
  rintro ys M9 ⟨cs,cl,rfl,s9,s2,nq,hC⟩
  let cl:cs.length=n.length:=by let h:cs.length=(n.map (gp g h)).length:=cl;omega
  let hC:OW M9 cs ((n.take (n.map (gp g h)).length).map λc=>stk ws c ws.length):=hC
  rw[gl,List.take_length]at hC
  let sz:1000000<=Jo:=NG rfl
  refine #[_,_,s9 _ _ j1,s2,by rw[J4];show 1+cs.length<=Jo;omega,λzd n0=>?_]
  let O:SD.Sub M7 (av M9 zd (.lst ([.ref J]++cs.map D.ref))):=.new n0 (X.trans s9)
  let U:(av M9 zd (.lst ([.ref J]++cs.map D.ref))) zd=MA (.lst ((J::cs).map D.ref)):=ag
  let hD:OW (av M9 zd (.lst ([.ref J]++cs.map D.ref))) (J::cs) (Na ws n):=by
   refine #[by rw[sl,Jz,cl],λi a r' ha C=>?_];cases i with
   |zero=>
    cases ha
    cases C
    rw[ak (ax (s9 _ _ m0) n0)]
    exact s9 _ _ m0
   |succ i=>
    rw[LA]at ha
    have:=hC.2 i a r' ha (by unfold Na at C;rw[LA]at C;exact C)
    rw[ak (ax this n0)]
    exact this
  generalize av M9 zd (.lst ([.ref J]++cs.map D.ref))=a0 at O U hD ⊢
  clear hC s2 nq s9 X m0 j1 q2 n0 k0 hq p2
  let b0:=O _ _ i2
  let c0:OW a0 bs (Na ws n):=j2.to λc l' _ e=>O _ _ e
  let u0:=O _ _ i1
  let v0:=O _ _ i0
  let x0:Tb a0:=m2.sub O
  let ld:∀r∈Na ws n,∀k∈r,Ld k:=λr C k hk=>by have:=(sf W hF C).b k hk;exact #[(),()]
  exists 7,7,tU (Na ws n),ui b0 c0,ui U hD,5,wY ld () g2,7
  clear i2 j2 i1 i0 m2 O
  refine pI rfl ?_
  obtain⟨ra,t2⟩:∃ra,(J::cs)[n.length]?=MA ra:=#[_,J7 (by rw[Jz,cl];omega)]
  let k1:=hD.2 _ ra _ t2 (Ac W hF pw he)
  let s3:atI ((J::cs).map D.ref) (-1)=MA (.ref ra):=by rw[yW (by rw[J4,Jz];omega),J4,Jz,cl,Jf,Nat.add_sub_cancel,t2];rfl
  exists 7,_,_,U,s3
  refine #[NG rfl,λen u2=>?_]
  exists _,_,.lst (by rw[ak (ax k1 u2)];exact k1) .nil,.lst ag .nil,5,5,7
  refine pI rfl ?_
  let R:SD.Sub a0 (av a0 en (.lst [])):=.new u2 .refl
  generalize av a0 en (.lst [])=o0 at R ⊢
  let v2:=R _ _ b0
  let V:OW o0 bs (Na ws n):=c0.to λc l' _ e=>R _ _ e
  let y0:=R _ _ u0
  let w2:=R _ _ v0
  let y2:Tb o0:=x0.sub R
  clear R b0 c0 u0 v0 x0 hD U k1
  let el:(ws.map (NI g h)).length=ws.length:=J4 ..
  exists 7,l,7,y0,λj δ I=>SD.Sub o0 I/\RY λo7 o8 o9=>δ=[MA (.rol (Le D.int ns)),MA (.int (i:Int)),MA (.ref r),MA (.ref l),MA (.ref zc),MA (.ref p),MA (.ref zd),o7,o8,o9],#[.refl,_,_,7],λj δ I _ q=>q.1 _ _ y0,?_
  rotate_left
  .rintro δ I ⟨Z,o7,o8,o9,rfl⟩;exact hB _ _ #[y2.sub Z,7,rfl]
  rintro j d δ I hj hd ⟨Z,o7,o8,o9,rfl⟩
  let hj:j<(ws.map (NI g h)).length:=hj
  rw[el]at hj
  let hd:((ws.map (NI g h))[j]?).map (λd=>D.tup [.int (j:Int),d])=MA d:=hd
  obtain⟨w,ew⟩:∃w,ws[j]?=MA w:=#[_,J7 hj]
  rw[Jf,ew]at hd
  cases hd
  let wm:=Jg ew
  let[a1,a2]:=iW (he w wm).1
  let[b1,b2]:=iW (he w wm).2
  let lt:NV n (ea w)<NV n (eb w):=((pQ pw (he w wm).2 a1).2).mpr (W w wm).lt
  exists 7,5,_,7,_,7,5
  let m1:=Z _ _ v2
  refine #[7,p,7,m1,lh (λk=>if(j:Int)∈((Na ws n)[k]?).getD []then MA (.int (k:Int))else MB) (by show(bs.map D.ref).length<=1000000;rw[J4,V.1];omega) (λq ys hq=>by show(av I q _) p=_;rw[ak (ax m1 hq)];exact m1) ?_ (λq hq=>?_)]
  .intro k2 d M9 y3 hd t3;let hd:((bs.map D.ref)[k2]?).map (λd=>D.tup [.int (k2:Int),d])=MA d:=hd;cases q0:bs[k2]? with
   |none=>rw[Jf,q0]at hd;cases hd
   |some rb=>
    rw[Jf,q0]at hd
    cases hd
    let li:k2<(Na ws n).length:=by rw[<-V.1];exact(J8.mp q0).1
    let er:=J7 li
    let b3:=t3 _ _ (Z _ _ (V.2 k2 rb _ q0 er))
    rw[er,Option.getD_some]
    generalize (Na ws n)[k2]=r0 at b3
    refine #[_,#[7,5,rfl],λK hK=>?_,λe s0 K hK=>?_]
    .refine #[7,7,B3 _ _ _ b3 #[7,?_]];let u3:r0.any (λz=>z==(j:Int))=decide ((j:Int)∈r0):=by rw[Bool.eq_iff_iff,List.any_eq_true,ML];exact #[λ⟨z,h1,h2⟩=>by have:=eq_of_beq h2;exact this▸h1,λz=>#[_,z,by simp]]
     rw[u3];by_cases z:(j:Int)∈r0
     .rw[MF z]at hK;rw[MI z];exact hK
     .rw[ME z]at hK;rw[MG z];exact hK
    .by_cases z:(j:Int)∈r0
     .rw[MF z]at s0;cases s0;exact #[7,hK _ .refl]
     .rw[ME z]at s0;cases s0
  let bl:(bs.map D.ref).length=n.length+1:=by rw[J4,V.1,sl]
  let ef:(Jq (bs.map D.ref).length).filterMap (λk:Nat=>if(j:Int)∈((Na ws n)[k]?).getD []then MA (D.int (k:Int))else MB)=(JN (NV n (ea w)+1) (NV n (eb w)-NV n (ea w))).map λk:Nat=>D.int (k:Int):=by
   rw[bl]
   refine BN (λk:Nat=>D.int (k:Int)) _ (LF lt) () λk hk=>?_
   let er:=J7 (l:=Na ws n) (i:=k) ()
   let hs:=AB W hF pw he ew er
   rw[er,Option.getD_some]
   by_cases z:NV n (ea w)<k/\k<=NV n (eb w)
   .rw[MF z,MF (hs.mpr z)]
   .rw[ME z,ME (λq=>z (hs.mp q))]
  dsimp only
  obtain⟨t0,v3⟩:∃t0:q_,(JN (NV n (ea w)+1) (NV n (eb w)-NV n (ea w))).map (λk:Nat=>D.int (k:Int))=t0.map D.int:=#[(JN (NV n (ea w)+1) (NV n (eb w)-NV n (ea w))).map λk:Nat=>(k:Int),by rw[KA];rfl]
  rw[ef,v3]
  let c3:=Z _ _ w2
  let gL:∀{M9:MH}{u:Vc},u∈n->NV n u<(n.map (gp g h)).length/\∀(i:Nat)(y:D),i<=NV n u->(n.map (gp g h))[i]?=MA y->∃q,Pd M9 y q/\Mj q=MC/\JS q (.tuple [.int (g*u.1-h),.int (g*u.2-h)])=decide (i=NV n u):=λ{M9 u} hu=>by
   let[x1,x2]:=iW hu;refine #[by rw[J4];exact x2,λi y hi hy=>?_];rw[Jf]at hy;cases ei:n[i]? with
   |none=>rw[ei]at hy;cases hy
   |some v=>
    rw[ei]at hy
    cases hy
    exact #[.tuple [.int (g*v.1-h),.int (g*v.2-h)],Pd.of rfl,5,Fy G.g0 pw x1 ei]
  let d0:(av I q (.lst (t0.map D.int))) q=MA (.lst (t0.map D.int)):=ag
  let L:(av I q (.lst (t0.map D.int))) zc=MA (.lst (n.map (gp g h))):=by rw[ak (ax c3 hq)];exact c3
  let e3:SD.Sub o0 (av I q (.lst (t0.map D.int))):=.new hq Z
  generalize av I q (.lst (t0.map D.int))=M6 at d0 L e3 ⊢
  exists 7,7,zc,7,L,7,7,_,_,.tuple [.int (g*(ea w).1-h),.int (g*(ea w).2-h)],NV n (ea w),5,L,(gL (M9:=M6) (he w wm).1).1,Pd.of rfl,5,(gL (he w wm).1).2
  exists 7,zc,7,L,7,7,_,_,.tuple [.int (g*(eb w).1-h),.int (g*(eb w).2-h)],NV n (eb w),5,L,(gL (M9:=M6) (he w wm).2).1,Pd.of rfl,5,(gL (he w wm).2).2
  let en:((NV n (ea w)+1+(NV n (eb w)-NV n (ea w)):Nat):Int)=(NV n (eb w):Int)+1:=()
  refine #[NV n (ea w)+1,NV n (eb w)-NV n (ea w),by rw[en];rfl,(),λz2 f3=>?_]
  rw[v3]
  exists _,_,.lst (by rw[ak (ax d0 f3)];exact d0) (gF t0),.lst ag (gF t0),shaped_ints t0,shaped_ints t0,7
  rw[vV]
  refine pI rfl ?_
  exact #[.new f3 e3,_,_,7]
theorem EM(ns:q_)(M:MH)(h:ns.length<=63)(a:M 172=MA (vZ #[])):jB [.rol (ns.map D.int)] M (λd _=>d=.bl MC):=#[ns,5,h,.inl a,λ_=>rfl]
def kE(P:Jw)(n:String)(k:Nat)(v:J3):Kk:={ hash:=PyData.keyHash P (Ks n),key:=.str (Ks n) k,val:=v }
def kF(i:Nat)(n m:String)(k c:Nat):Obj:={ cls:=.type "function",data:=.func { name:=Ks n,qualname:=Ks n,params:=aZ (top i),body:=.stmts (aL (top i)),scope:=ao (top i),globals:=!3,closure:=[],defaults:=.none,kwdefaults:=.none,pyModule:=.str (Ks m) k,code:=.ref c } }
def kD0(P:Jw):List Kk:=[kE P "__name__" ↑165 (.str "law_spotlook_k32_steps_rows" 751),kE P "__doc__" ↑166 (.none),kE P "__package__" ↑167 (.none),kE P "__loader__" ↑168 (.builtin "__main__.__loader__#opaque"),kE P "__spec__" ↑169 (.none),kE P "__annotations__" ↑170 (.ref !6),kE P "__builtins__" ↑171 (.ref !4),kE P "__file__" ↑173 (.str "/claim/cut.py" 172)]
def kD1(P:Jw):List Kk:=[kE P "__cached__" ↑174 (.none),kE P "_wall" ↑193 (.ref !21),kE P "SpotError" ↑213 (.ref !31),kE P "NoFraction" ↑229 (.ref !44),kE P "greatest_divisor" ↑239 (.ref !53),kE P "fraction" ↑248 (.ref !60),kE P "is_less" ↑256 (.ref !67),kE P "common_bottom" ↑265 (.ref !74)]
def kD2(P:Jw):List Kk:=[kE P "top_over" ↑273 (.ref !81),kE P "is_ahead" ↑283 (.ref !88),kE P "later_of" ↑291 (.ref !95),kE P "earlier_of" ↑299 (.ref !102),kE P "place_among" ↑310 (.ref !109),kE P "ahead_first" ↑319 (.ref !116),kE P "own_spot" ↑328 (.ref !123),kE P "own_wall" ↑335 (.ref !130)]
def kD3(P:Jw):List Kk:=[kE P "gap" ↑343 (.ref !137),kE P "lean" ↑361 (.ref !144),kE P "side_of" ↑370 (.ref !151),kE P "spans" ↑380 (.ref !158),kE P "is_above" ↑392 (.ref !165),kE P "above_table" ↑398 (.ref !170),kE P "lowest_first" ↑408 (.ref !177),kE P "upper_of" ↑417 (.ref !184)]
def kD4(P:Jw):List Kk:=[kE P "upper_below" ↑423 (.ref !189),kE P "face_ends" ↑435 (.ref !196),kE P "faces_by_start" ↑444 (.ref !203),kE P "is_met_sooner" ↑456 (.ref !210),kE P "face_behind" ↑470 (.ref !217),kE P "ring_from" ↑481 (.ref !224),kE P "rings_of" ↑494 (.ref !231),kE P "twice_area" ↑500 (.ref !236)]
def kD5(P:Jw):List Kk:=[kE P "outer_and_inner" ↑512 (.ref !243),kE P "first_corner" ↑522 (.ref !250),kE P "land_about" ↑532 (.ref !257),kE P "lands_of_faces" ↑538 (.ref !262),kE P "own_plot" ↑546 (.ref !267),kE P "corners_of" ↑556 (.ref !274),kE P "ends_by_number" ↑562 (.ref !279),kE P "halves" ↑572 (.ref !286)]
def kD6(P:Jw):List Kk:=[kE P "guide_by_halving" ↑580 (.ref !293),kE P "guide_between" ↑595 (.ref !300),kE P "guide_after" ↑607 (.ref !307),kE P "side_at_corner" ↑615 (.ref !314),kE P "Way" ↑705 (.ref !373),kE P "steps_of" ↑713 (.ref !382),kE P "guide_of_step" ↑719 (.ref !387),kE P "Steps" ↑750 (.ref !407)]
def kD7(P:Jw):List Kk:=[kE P "_law_pot" ↑761 (.ref !416),kE P "_law_take" ↑771 (.ref !423),kE P "_law_side" ↑784 (.ref !430),kE P "_law_on" ↑792 (.ref !437),kE P "_law_apart" ↑804 (.ref !444),kE P "_law_new_spot" ↑812 (.ref !451),kE P "_law_some_spot" ↑821 (.ref !458),kE P "_law_square" ↑832 (.ref !465)]
def kD8(P:Jw):List Kk:=[kE P "_law_laid" ↑838 (.ref !470),kE P "_law_shuts_here" ↑844 (.ref !475),kE P "_law_frac" ↑854 (.ref !482),kE P "_law_frame" ↑860 (.ref !487),kE P "_law_given" ↑872 (.ref !494),kE P "_law_plot" ↑878 (.ref !499),kE P "_law_corners" ↑884 (.ref !504),kE P "_law_height" ↑896 (.ref !511)]
def kD9(P:Jw):List Kk:=[kE P "_law_higher" ↑902 (.ref !516),kE P "_law_stack" ↑908 (.ref !521),kE P "_law_same" ↑916 (.ref !528),kE P "_law_squares" ↑922 (.ref !533),kE P "law" ↑928 (.ref !538)]
def kG(P:Jw):Obj:={ cls:=.type "dict",data:=.dict (JI (kD0 P++(kD1 P++(kD2 P++(kD3 P++(kD4 P++(kD5 P++(kD6 P++(kD7 P++(kD8 P++(kD9 P))))))))))) 77 }
def N6(n:String)(h:Nat)(i:Nat)(j:Nat)(k:Nat)(l:Nat)(m:Nat)(a:Nat)(b:Nat)(c:Nat)(d:Nat)(e:Nat)(f:Nat)(g:Nat):Obj:={ cls:=.type "code",data:=.fields (List.toArray [.str (Ks n) h,.str (Ks n) i,.str "/claim/cut.py" j,.int (Mm k) 0,.int (Mm l) 0,.int 0 0,.int 0 0,.int 3 0,.ref m,.bool MC,.int 181 0,.ref a,.none,.ref b,.ref c,.ref d,.int (Mm e) 0,.int (Mm f) 0,.str "/claim/cut.py" g]) }
def kM(i j:Nat)(n q m:String)(k c:Nat):Obj:={ cls:=.type "function",data:=.func { name:=Ks n,qualname:=Ks q,params:=aZ (SD.nV (top i) j),body:=.stmts (aL (SD.nV (top i) j)),scope:=ao (SD.nV (top i) j),globals:=!3,closure:=[],defaults:=.none,kwdefaults:=.none,pyModule:=.str (Ks m) k,code:=.ref c } }
def HN(P:Jw):Obj:={ cls:=.type "dict",data:=.dict (JI [kE P "__module__" ↑203 (.str "spotlook.errors" 194),kE P "__firstlineno__" ↑207 (.int 5 206),kE P "__static_attributes__" ↑208 (.ref !29),kE P "__weakref__" ↑210 (.ref !32),kE P "__doc__" ↑211 (.none)]) 3 }
def HS(P:Jw):Obj:={ cls:=.type "dict",data:=.dict (JI [kE P "__module__" ↑221 (.str "spotlook.errors" 194),kE P "__firstlineno__" ↑225 (.int 7 224),kE P "__static_attributes__" ↑226 (.ref !42),kE P "__doc__" ↑227 (.none)]) 2 }
def Gp(P:Jw):Obj:={ cls:=.type "dict",data:=.dict (JI [kE P "__module__" ↑623 (.str "spotlook.ways" 563),kE P "__firstlineno__" ↑627 (.int 218 626),kE P "__init__" ↑635 (.ref !328),kE P "after" ↑643 (.ref !335),kE P "side_at" ↑653 (.ref !342),kE P "looks" ↑666 (.ref !349),kE P "look" ↑674 (.ref !356),kE P "led" ↑686 (.ref !363),kE P "most" ↑693 (.ref !370),kE P "__static_attributes__" ↑698 (.ref !371),kE P "__dict__" ↑700 (.ref !374),kE P "__weakref__" ↑702 (.ref !375),kE P "__doc__" ↑703 (.none)]) 4 }
def GQ(P:Jw):Obj:={ cls:=.type "dict",data:=.dict (JI [kE P "__module__" ↑727 (.str "spotlook.steps" 706),kE P "__firstlineno__" ↑731 (.int 271 730),kE P "__init__" ↑737 (.ref !399),kE P "steps" ↑743 (.ref !404),kE P "__static_attributes__" ↑747 (.ref !405),kE P "__doc__" ↑748 (.none)]) 2 }
def kN(l:List Obj)(i:Nat):Obj:=l.getD i { cls:=.none,data:=.dict #[] }
def NY(n q:Str)(a b c l k f r:Nat)(t:Bool)(s:Nat)(x y z:J3)(d e:Nat):Obj:={ cls:=.type "code",data:=.fields (List.toArray [.str n a,.str q b,.str "/claim/cut.py" c,.int l 0,.int k 0,.int 0 0,.int 0 0,.int f 0,.ref r,.bool t,.int 181 0,.ref s,.none,x,y,z,.int d 0,.int l 0,.str "/claim/cut.py" e]) }
def zzK(n:Str)(s g a i j:Nat):Obj:={ cls:=.type "type",data:=.cls { name:=n,bases:=[.ref 24],mro:=[.ref s,.ref 24,.type "ValueError",.type "Exception",.type "BaseException",.type "object"],ns:=g,qualname:=n,hasDict:=MC,slotNames:=[],subclasses:=[],abstract:=MD,collection:=MB,hasDel:=MD },slots:=(List.toArray [MA (.ref a),MB,MA (.str n i),MA (.str n j),MA (.builtin "ValueError.__new__"),MA (.bool MC)]) }
def zzR(n:Str)(s g a i j:Nat):Obj:={ cls:=.type "type",data:=.cls { name:=n,bases:=[.ref !24],mro:=[.ref s,.ref !24,.type "ValueError",.type "Exception",.type "BaseException",.type "object"],ns:=g,qualname:=n,hasDict:=MC,slotNames:=[],subclasses:=[],abstract:=MD,collection:=MB,hasDel:=MD },slots:=(List.toArray [MA (.ref a),MB,MA (.str n i),MA (.str n j),MA (.builtin "ValueError.__new__"),MA (.bool MC)]) }
def OU:J3:=.str "law_spotlook_k32_steps_rows" 751
def O5(i:Nat)(n:String)(c:Nat):Obj:=kF i n "law_spotlook_k32_steps_rows" ↑751 c
def Rr:List Obj:=[{ cls:=.none,data:=.dict #[] 0 },{ cls:=.type "module",dict:=MA !0,data:=.plain },N6 "_wall" ↑187 ↑188 ↑189 ↑1 ↑1 ↑15 ↑16 ↑17 ↑18 ↑19 ↑191 ↑1 !192,kF ↑0 "_wall" "__main__" ↑164 !20,{ cls:=.type "type",data:=.cls { name:="SpotError",bases:=[(.type "ValueError")],mro:=[(.ref !31),(.type "ValueError"),(.type "Exception"),(.type "BaseException"),(.type "object")],ns:=30,qualname:="SpotError",hasDict:=MC,slotNames:=[],subclasses:=[(.ref !44)],abstract:=MD,collection:=MB,hasDel:=MD },slots:=(List.toArray [(MA (.ref !22)),MB,(MA (.str "SpotError" 196)),(MA (.str "SpotError" 204)),(MA (.builtin "ValueError.__new__")),(MA (.bool MC))]) },{ cls:=.type "type",data:=.cls { name:="NoFraction",bases:=[(.ref !31)],mro:=[(.ref !44),(.ref !31),(.type "ValueError"),(.type "Exception"),(.type "BaseException"),(.type "object")],ns:=43,qualname:="NoFraction",hasDict:=MC,slotNames:=[],subclasses:=[],abstract:=MD,collection:=MB,hasDel:=MD },slots:=(List.toArray [(MA (.ref !35)),MB,(MA (.str "NoFraction" 214)),(MA (.str "NoFraction" 222)),(MA (.builtin "ValueError.__new__")),(MA (.bool MC))]) },N6 "greatest_divisor" ↑232 ↑233 ↑234 ↑10 ↑2 ↑47 ↑48 ↑49 ↑50 ↑51 ↑237 ↑10 !238,kF ↑5 "greatest_divisor" "spotlook.fractions" ↑230 !52]
def Rq:List Obj:=[N6 "fraction" ↑240 ↑241 ↑242 ↑14 ↑2 ↑54 ↑55 ↑56 ↑57 ↑58 ↑246 ↑14 !247,kF ↑6 "fraction" "spotlook.fractions" ↑230 !59,N6 "is_less" ↑249 ↑250 ↑251 ↑21 ↑2 ↑61 ↑62 ↑63 ↑64 ↑65 ↑254 ↑21 !255,kF ↑7 "is_less" "spotlook.fractions" ↑230 !66,N6 "common_bottom" ↑257 ↑258 ↑259 ↑23 ↑1 ↑68 ↑69 ↑70 ↑71 ↑72 ↑263 ↑23 !264,kF ↑8 "common_bottom" "spotlook.fractions" ↑230 !73,N6 "top_over" ↑266 ↑267 ↑268 ↑28 ↑2 ↑75 ↑76 ↑77 ↑78 ↑79 ↑271 ↑28 !272,kF ↑9 "top_over" "spotlook.fractions" ↑230 !80]
def Rp:List Obj:=[N6 "is_ahead" ↑276 ↑277 ↑278 ↑31 ↑2 ↑82 ↑83 ↑84 ↑85 ↑86 ↑281 ↑31 !282,kF ↑11 "is_ahead" "spotlook.spots" ↑274 !87,N6 "later_of" ↑284 ↑285 ↑286 ↑35 ↑2 ↑89 ↑90 ↑91 ↑92 ↑93 ↑289 ↑35 !290,kF ↑12 "later_of" "spotlook.spots" ↑274 !94,N6 "earlier_of" ↑292 ↑293 ↑294 ↑37 ↑2 ↑96 ↑97 ↑98 ↑99 ↑100 ↑297 ↑37 !298,kF ↑13 "earlier_of" "spotlook.spots" ↑274 !101,N6 "place_among" ↑300 ↑301 ↑302 ↑39 ↑2 ↑103 ↑104 ↑105 ↑106 ↑107 ↑308 ↑39 !309,kF ↑14 "place_among" "spotlook.spots" ↑274 !108]
def Ro:List Obj:=[N6 "ahead_first" ↑311 ↑312 ↑313 ↑48 ↑1 ↑110 ↑111 ↑112 ↑113 ↑114 ↑317 ↑48 !318,kF ↑15 "ahead_first" "spotlook.spots" ↑274 !115,N6 "own_spot" ↑320 ↑321 ↑322 ↑53 ↑1 ↑117 ↑118 ↑119 ↑120 ↑121 ↑326 ↑53 !327,kF ↑16 "own_spot" "spotlook.spots" ↑274 !122,N6 "own_wall" ↑329 ↑330 ↑331 ↑56 ↑1 ↑124 ↑125 ↑126 ↑127 ↑128 ↑333 ↑56 !334,kF ↑17 "own_wall" "spotlook.spots" ↑274 !129,N6 "gap" ↑336 ↑337 ↑338 ↑58 ↑2 ↑131 ↑132 ↑133 ↑134 ↑135 ↑341 ↑58 !342,kF ↑18 "gap" "spotlook.spots" ↑274 !136]
def Rn:List Obj:=[N6 "lean" ↑344 ↑345 ↑346 ↑60 ↑2 ↑138 ↑139 ↑140 ↑141 ↑142 ↑359 ↑60 !360,kF ↑19 "lean" "spotlook.spots" ↑274 !143,N6 "side_of" ↑362 ↑363 ↑364 ↑66 ↑2 ↑145 ↑146 ↑147 ↑148 ↑149 ↑368 ↑66 !369,kF ↑20 "side_of" "spotlook.spots" ↑274 !150,N6 "spans" ↑373 ↑374 ↑375 ↑74 ↑2 ↑152 ↑153 ↑154 ↑155 ↑156 ↑378 ↑74 !379,kF ↑22 "spans" "spotlook.above" ↑371 !157,N6 "is_above" ↑381 ↑382 ↑383 ↑76 ↑2 ↑159 ↑160 ↑161 ↑162 ↑163 ↑390 ↑76 !391,kF ↑23 "is_above" "spotlook.above" ↑371 !164]
def Rm:List Obj:=[(NY "above_table" "above_table" 393 394 395 84 1 3 166 MC 167 .none .none (.ref 168) 396 397),kF ↑24 "above_table" "spotlook.above" ↑371 !169,N6 "lowest_first" ↑399 ↑400 ↑401 ↑86 ↑2 ↑171 ↑172 ↑173 ↑174 ↑175 ↑406 ↑86 !407,kF ↑25 "lowest_first" "spotlook.above" ↑371 !176,N6 "upper_of" ↑409 ↑410 ↑411 ↑88 ↑1 ↑178 ↑179 ↑180 ↑181 ↑182 ↑415 ↑88 !416,kF ↑26 "upper_of" "spotlook.above" ↑371 !183,(NY "upper_below" "upper_below" 418 419 420 94 2 3 185 MC 186 .none .none (.ref 187) 421 422),kF ↑27 "upper_below" "spotlook.above" ↑371 !188]
def Rl:List Obj:=[N6 "face_ends" ↑426 ↑427 ↑428 ↑98 ↑2 ↑190 ↑191 ↑192 ↑193 ↑194 ↑433 ↑98 !434,kF ↑29 "face_ends" "spotlook.rings" ↑424 !195,N6 "faces_by_start" ↑436 ↑437 ↑438 ↑101 ↑1 ↑197 ↑198 ↑199 ↑200 ↑201 ↑442 ↑101 !443,kF ↑30 "faces_by_start" "spotlook.rings" ↑424 !202,N6 "is_met_sooner" ↑445 ↑446 ↑447 ↑106 ↑4 ↑204 ↑205 ↑206 ↑207 ↑208 ↑454 ↑106 !455,kF ↑31 "is_met_sooner" "spotlook.rings" ↑424 !209,N6 "face_behind" ↑457 ↑458 ↑459 ↑112 ↑3 ↑211 ↑212 ↑213 ↑214 ↑215 ↑468 ↑112 !469,kF ↑32 "face_behind" "spotlook.rings" ↑424 !216]
def Rk:List Obj:=[N6 "ring_from" ↑471 ↑472 ↑473 ↑120 ↑3 ↑218 ↑219 ↑220 ↑221 ↑222 ↑479 ↑120 !480,kF ↑33 "ring_from" "spotlook.rings" ↑424 !223,N6 "rings_of" ↑482 ↑483 ↑484 ↑127 ↑1 ↑225 ↑226 ↑227 ↑228 ↑229 ↑492 ↑127 !493,kF ↑34 "rings_of" "spotlook.rings" ↑424 !230,(NY "twice_area" "twice_area" 495 496 497 138 2 3 232 MC 233 .none .none (.ref 234) 498 499),kF ↑35 "twice_area" "spotlook.rings" ↑424 !235,N6 "outer_and_inner" ↑503 ↑504 ↑505 ↑148 ↑1 ↑237 ↑238 ↑239 ↑240 ↑241 ↑510 ↑148 !511,kF ↑37 "outer_and_inner" "spotlook.lands" ↑501 !242]
def Rj:List Obj:=[N6 "first_corner" ↑513 ↑514 ↑515 ↑156 ↑2 ↑244 ↑245 ↑246 ↑247 ↑248 ↑520 ↑156 !521,kF ↑38 "first_corner" "spotlook.lands" ↑501 !249,N6 "land_about" ↑523 ↑524 ↑525 ↑161 ↑3 ↑251 ↑252 ↑253 ↑254 ↑255 ↑530 ↑161 !531,kF ↑39 "land_about" "spotlook.lands" ↑501 !256,(NY "lands_of_faces" "lands_of_faces" 533 534 535 164 1 3 258 MC 259 .none .none (.ref 260) 536 537),kF ↑40 "lands_of_faces" "spotlook.lands" ↑501 !261,(NY "own_plot" "own_plot" 541 542 543 177 1 3 263 MC 264 .none .none (.ref 265) 544 545),kF ↑42 "own_plot" "spotlook.plots" ↑539 !266]
def Ri:List Obj:=[N6 "corners_of" ↑547 ↑548 ↑549 ↑179 ↑1 ↑268 ↑269 ↑270 ↑271 ↑272 ↑554 ↑179 !555,kF ↑43 "corners_of" "spotlook.plots" ↑539 !273,(NY "ends_by_number" "ends_by_number" 557 558 559 185 2 3 275 MC 276 .none .none (.ref 277) 560 561),kF ↑44 "ends_by_number" "spotlook.plots" ↑539 !278,N6 "halves" ↑565 ↑566 ↑567 ↑189 ↑1 ↑280 ↑281 ↑282 ↑283 ↑284 ↑570 ↑189 !571,kF ↑46 "halves" "spotlook.ways" ↑563 !285,N6 "guide_by_halving" ↑573 ↑574 ↑575 ↑195 ↑2 ↑287 ↑288 ↑289 ↑290 ↑291 ↑578 ↑195 !579,kF ↑47 "guide_by_halving" "spotlook.ways" ↑563 !292]
def PK:List Obj:=[N6 "guide_between" ↑581 ↑582 ↑583 ↑197 ↑4 ↑294 ↑295 ↑296 ↑297 ↑298 ↑593 ↑197 !594,kF ↑48 "guide_between" "spotlook.ways" ↑563 !299,N6 "guide_after" ↑596 ↑597 ↑598 ↑205 ↑2 ↑301 ↑302 ↑303 ↑304 ↑305 ↑605 ↑205 !606,kF ↑49 "guide_after" "spotlook.ways" ↑563 !306,N6 "side_at_corner" ↑608 ↑609 ↑610 ↑214 ↑2 ↑308 ↑309 ↑310 ↑311 ↑312 ↑613 ↑214 !614,kF ↑50 "side_at_corner" "spotlook.ways" ↑563 !313,(NY "__init__" "Way.__init__" 628 629 630 220 2 3 322 MC 323 (.ref 324) (.ref 325) (.ref 326) 633 634),kM ↑51 ↑0 "__init__" "Way.__init__" "spotlook.ways" ↑563 !327]
def PJ:List Obj:=[(NY "after" "Way.after" 636 637 638 226 2 3 329 MC 330 (.ref 331) (.ref 332) (.ref 333) 641 642),kM ↑51 ↑1 "after" "Way.after" "spotlook.ways" ↑563 !334,(NY "side_at" "Way.side_at" 644 645 646 229 4 3 336 MC 337 (.ref 338) (.ref 339) (.ref 340) 651 652),kM ↑51 ↑2 "side_at" "Way.side_at" "spotlook.ways" ↑563 !341,(NY "looks" "Way.looks" 654 655 656 234 2 3 343 MC 344 (.ref 345) (.ref 346) (.ref 347) 664 665),kM ↑51 ↑3 "looks" "Way.looks" "spotlook.ways" ↑563 !348,(NY "look" "Way.look" 667 668 669 244 2 3 350 MC 351 (.ref 352) (.ref 353) (.ref 354) 672 673),kM ↑51 ↑4 "look" "Way.look" "spotlook.ways" ↑563 !355]
def PH:List Obj:=[(NY "led" "Way.led" 675 676 677 247 2 3 357 MC 358 (.ref 359) (.ref 360) (.ref 361) 684 685),kM ↑51 ↑5 "led" "Way.led" "spotlook.ways" ↑563 !362,(NY "most" "Way.most" 687 688 689 257 1 3 364 MC 365 (.ref 366) (.ref 367) (.ref 368) 691 692),kM ↑51 ↑6 "most" "Way.most" "spotlook.ways" ↑563 !369,{ cls:=.type "type",data:=.cls { name:="Way",bases:=[(.type "object")],mro:=[(.ref !373),(.type "object")],ns:=372,qualname:="Way",hasDict:=MC,slotNames:=[],subclasses:=[(.ref !407)],abstract:=MD,collection:=MB,hasDel:=MD },slots:=(List.toArray [MB,MB,(MA (.str "Way" 616)),(MA (.str "Way" 624)),(MA (.builtin "object.__new__")),(MA (.bool MC))]) },(NY "steps_of" "steps_of" 708 709 710 260 2 3 378 MC 379 .none .none (.ref 380) 711 712),kF ↑53 "steps_of" "spotlook.steps" ↑706 !381,(NY "guide_of_step" "guide_of_step" 714 715 716 268 2 3 383 MC 384 .none .none (.ref 385) 717 718)]
def PD:List Obj:=[kF ↑54 "guide_of_step" "spotlook.steps" ↑706 !386,(NY "__init__" "Steps.__init__" 732 733 734 273 2 3 395 MC 396 .none .none (.ref 397) 735 736),kM ↑55 ↑0 "__init__" "Steps.__init__" "spotlook.steps" ↑706 !398,(NY "steps" "Steps.steps" 738 739 740 281 1 3 400 MC 401 .none .none (.ref 402) 741 742),kM ↑55 ↑1 "steps" "Steps.steps" "spotlook.steps" ↑706 !403,{ cls:=.type "type",data:=.cls { name:="Steps",bases:=[(.ref !373)],mro:=[(.ref !407),(.ref !373),(.type "object")],ns:=406,qualname:="Steps",hasDict:=MC,slotNames:=[],subclasses:=[],abstract:=MD,collection:=MB,hasDel:=MD },slots:=(List.toArray [(MA (.ref !388)),MB,(MA (.str "Steps" 720)),(MA (.str "Steps" 728)),(MA (.builtin "object.__new__")),(MA (.bool MC))]) },N6 "_law_pot" ↑753 ↑754 ↑755 ↑284 ↑2 ↑410 ↑411 ↑412 ↑413 ↑414 ↑759 ↑284 !760,O5 ↑57 "_law_pot" !415]
def PB:List Obj:=[N6 "_law_take" ↑762 ↑763 ↑764 ↑289 ↑2 ↑417 ↑418 ↑419 ↑420 ↑421 ↑769 ↑289 !770,O5 ↑58 "_law_take" !422,N6 "_law_side" ↑772 ↑773 ↑774 ↑298 ↑2 ↑424 ↑425 ↑426 ↑427 ↑428 ↑782 ↑298 !783,O5 ↑59 "_law_side" !429,N6 "_law_on" ↑785 ↑786 ↑787 ↑303 ↑2 ↑431 ↑432 ↑433 ↑434 ↑435 ↑790 ↑303 !791,O5 ↑60 "_law_on" !436,N6 "_law_apart" ↑793 ↑794 ↑795 ↑305 ↑2 ↑438 ↑439 ↑440 ↑441 ↑442 ↑802 ↑305 !803,O5 ↑61 "_law_apart" !443]
def Oz:List Obj:=[N6 "_law_new_spot" ↑805 ↑806 ↑807 ↑312 ↑2 ↑445 ↑446 ↑447 ↑448 ↑449 ↑810 ↑312 !811,O5 ↑62 "_law_new_spot" !450,N6 "_law_some_spot" ↑813 ↑814 ↑815 ↑314 ↑3 ↑452 ↑453 ↑454 ↑455 ↑456 ↑819 ↑314 !820,O5 ↑63 "_law_some_spot" !457,N6 "_law_square" ↑822 ↑823 ↑824 ↑318 ↑2 ↑459 ↑460 ↑461 ↑462 ↑463 ↑830 ↑318 !831,O5 ↑64 "_law_square" !464,(NY "_law_laid" "_law_laid" 833 834 835 324 3 3 466 MC 467 .none .none (.ref 468) 836 837),O5 ↑65 "_law_laid" !469]
def Oy:List Obj:=[(NY "_law_shuts_here" "_law_shuts_here" 839 840 841 329 2 3 471 MC 472 .none .none (.ref 473) 842 843),O5 ↑66 "_law_shuts_here" !474,N6 "_law_frac" ↑845 ↑846 ↑847 ↑341 ↑2 ↑476 ↑477 ↑478 ↑479 ↑480 ↑852 ↑341 !853,O5 ↑67 "_law_frac" !481,(NY "_law_frame" "_law_frame" 855 856 857 347 2 3 483 MC 484 .none .none (.ref 485) 858 859),O5 ↑68 "_law_frame" !486,N6 "_law_given" ↑861 ↑862 ↑863 ↑356 ↑2 ↑488 ↑489 ↑490 ↑491 ↑492 ↑870 ↑356 !871,O5 ↑69 "_law_given" !493]
def Ox:List Obj:=[(NY "_law_plot" "_law_plot" 873 874 875 359 2 3 495 MC 496 .none .none (.ref 497) 876 877),O5 ↑70 "_law_plot" !498,(NY "_law_corners" "_law_corners" 879 880 881 361 1 3 500 MC 501 .none .none (.ref 502) 882 883),O5 ↑71 "_law_corners" !503,N6 "_law_height" ↑885 ↑886 ↑887 ↑366 ↑2 ↑505 ↑506 ↑507 ↑508 ↑509 ↑894 ↑366 !895,O5 ↑72 "_law_height" !510,(NY "_law_higher" "_law_higher" 897 898 899 372 3 3 512 MC 513 .none .none (.ref 514) 900 901),O5 ↑73 "_law_higher" !515]
def Ow:List Obj:=[(NY "_law_stack" "_law_stack" 903 904 905 380 2 3 517 MC 518 .none .none (.ref 519) 906 907),O5 ↑74 "_law_stack" !520,N6 "_law_same" ↑909 ↑910 ↑911 ↑387 ↑2 ↑522 ↑523 ↑524 ↑525 ↑526 ↑914 ↑387 !915,O5 ↑75 "_law_same" !527,(NY "_law_squares" "_law_squares" 917 918 919 389 2 3 529 MC 530 .none .none (.ref 531) 920 921),O5 ↑76 "_law_squares" !532,(NY "law" "law" 923 924 925 400 1 3 534 MC 535 .none .none (.ref 536) 926 927),O5 ↑77 "law" !537]
def kK:Jw->J1:=λP=>(!2,kN Rr !0)::(!3,kG P)::(!4,kN Rr !1)::(!20,kN Rr !2)::(!21,kN Rr !3)::(!30,HN P)::(!31,kN Rr !4)::(!43,HS P)::(!44,kN Rr !5)::(!52,kN Rr !6)::(!53,kN Rr !7)::(!59,kN Rq !0)::(!60,kN Rq !1)::(!66,kN Rq !2)::(!67,kN Rq !3)::(!73,kN Rq !4)::(!74,kN Rq !5)::(!80,kN Rq !6)::(!81,kN Rq !7)::(!87,kN Rp !0)::(!88,kN Rp !1)::(!94,kN Rp !2)::(!95,kN Rp !3)::(!101,kN Rp !4)::(!102,kN Rp !5)::(!108,kN Rp !6)::(!109,kN Rp !7)::(!115,kN Ro !0)::(!116,kN Ro !1)::(!122,kN Ro !2)::(!123,kN Ro !3)::(!129,kN Ro !4)::(!130,kN Ro !5)::(!136,kN Ro !6)::(!137,kN Ro !7)::(!143,kN Rn !0)::(!144,kN Rn !1)::(!150,kN Rn !2)::(!151,kN Rn !3)::(!157,kN Rn !4)::(!158,kN Rn !5)::(!164,kN Rn !6)::(!165,kN Rn !7)::(!169,kN Rm !0)::(!170,kN Rm !1)::(!176,kN Rm !2)::(!177,kN Rm !3)::(!183,kN Rm !4)::(!184,kN Rm !5)::(!188,kN Rm !6)::(!189,kN Rm !7)::(!195,kN Rl !0)::(!196,kN Rl !1)::(!202,kN Rl !2)::(!203,kN Rl !3)::(!209,kN Rl !4)::(!210,kN Rl !5)::(!216,kN Rl !6)::(!217,kN Rl !7)::(!223,kN Rk !0)::(!224,kN Rk !1)::(!230,kN Rk !2)::(!231,kN Rk !3)::(!235,kN Rk !4)::(!236,kN Rk !5)::(!242,kN Rk !6)::(!243,kN Rk !7)::(!249,kN Rj !0)::(!250,kN Rj !1)::(!256,kN Rj !2)::(!257,kN Rj !3)::(!261,kN Rj !4)::(!262,kN Rj !5)::(!266,kN Rj !6)::(!267,kN Rj !7)::(!273,kN Ri !0)::(!274,kN Ri !1)::(!278,kN Ri !2)::(!279,kN Ri !3)::(!285,kN Ri !4)::(!286,kN Ri !5)::(!292,kN Ri !6)::(!293,kN Ri !7)::(!299,kN PK !0)::(!300,kN PK !1)::(!306,kN PK !2)::(!307,kN PK !3)::(!313,kN PK !4)::(!314,kN PK !5)::(!327,kN PK !6)::(!328,kN PK !7)::(!334,kN PJ !0)::(!335,kN PJ !1)::(!341,kN PJ !2)::(!342,kN PJ !3)::(!348,kN PJ !4)::(!349,kN PJ !5)::(!355,kN PJ !6)::(!356,kN PJ !7)::(!362,kN PH !0)::(!363,kN PH !1)::(!369,kN PH !2)::(!370,kN PH !3)::(!372,Gp P)::(!373,kN PH !4)::(!381,kN PH !5)::(!382,kN PH !6)::(!386,kN PH !7)::(!387,kN PD !0)::(!398,kN PD !1)::(!399,kN PD !2)::(!403,kN PD !3)::(!404,kN PD !4)::(!406,GQ P)::(!407,kN PD !5)::(!415,kN PD !6)::(!416,kN PD !7)::(!422,kN PB !0)::(!423,kN PB !1)::(!429,kN PB !2)::(!430,kN PB !3)::(!436,kN PB !4)::(!437,kN PB !5)::(!443,kN PB !6)::(!444,kN PB !7)::(!450,kN Oz !0)::(!451,kN Oz !1)::(!457,kN Oz !2)::(!458,kN Oz !3)::(!464,kN Oz !4)::(!465,kN Oz !5)::(!469,kN Oz !6)::(!470,kN Oz !7)::(!474,kN Oy !0)::(!475,kN Oy !1)::(!481,kN Oy !2)::(!482,kN Oy !3)::(!486,kN Oy !4)::(!487,kN Oy !5)::(!493,kN Oy !6)::(!494,kN Oy !7)::(!498,kN Ox !0)::(!499,kN Ox !1)::(!503,kN Ox !2)::(!504,kN Ox !3)::(!510,kN Ox !4)::(!511,kN Ox !5)::(!515,kN Ox !6)::(!516,kN Ox !7)::(!520,kN Ow !0)::(!521,kN Ow !1)::(!527,kN Ow !2)::(!528,kN Ow !3)::(!532,kN Ow !4)::(!533,kN Ow !5)::(!537,kN Ow !6)::(!538,kN Ow !7)::[]
end QQ
section
namespace QQ
open PySem L2
inductive Tg{A:Type}(a:A):Type where|mk:Tg a
def pk{A:Type}{a:A}(_:Tg a):A:=a
def hE(P:Jw)(n:Str)(k:Nat)(v:J3):Kk:={ hash:=PyData.keyHash P n,key:=.str n k,val:=v }
def Ou(k:Nat)(l:List Kk):Obj:={ cls:=.type "dict",data:=.dict (JI l) k }
def Rz:J3:=.str "spotlook.errors" 194
def kU(s:pe)(n q:Str)(g:Nat)(m c:J3):FuncData:={ name:=n,qualname:=q,params:=aZ s,body:=.stmts (aL s),scope:=ao s,globals:=g,closure:=[],defaults:=.none,kwdefaults:=.none,pyModule:=m,code:=c }
def kC(s:pe)(i:Nat):pe:=match s with
 |.ClassDef (body:=b) ..=>b.getD i (.Pass #[0,0,0,0])
 |s=>s
def NU(l:List J3):Obj:={ cls:=.type "tuple",data:=.seq l.toArray 0 }
def kFd(l:List J3):Obj:={ cls:=.none,data:=.fields l.toArray }
local macro_rules | `(tactic| walk_at "st") => `(tactic| (intro t; (conv at t => (arg 1; whnf)); exact pk (.mk : type_of% t)))
local macro_rules | `(⇑$n:num) => `((by refine' (?_ : Tg (top $n) → pe) .mk; walk_at "st" : pe))
def Sa:pe:=⇑0
def Zz:pe:=⇑1
def S9:pe:=⇑2
def SQ:pe:=⇑3
def Pn:pe:=⇑4
def Ot:pe:=⇑5
def S1:pe:=⇑6
def O6:pe:=⇑7
def S0:pe:=⇑8
def Rg:pe:=⇑9
def RK:pe:=⇑10
def Ov:pe:=⇑11
def RJ:pe:=⇑12
def Of:pe:=⇑13
def RH:pe:=⇑14
def RG:pe:=⇑15
def RF:pe:=⇑16
def RE:pe:=⇑17
def RB:pe:=⇑18
def RA:pe:=⇑19
def Qz:pe:=⇑20
def S8:pe:=⇑21
def Qy:pe:=⇑22
def Qx:pe:=⇑23
def Qw:pe:=⇑24
def Qv:pe:=⇑25
def Qu:pe:=⇑26
def Qt:pe:=⇑27
def S7:pe:=⇑28
def Qs:pe:=⇑29
def Qr:pe:=⇑30
def Qq:pe:=⇑31
def Qp:pe:=⇑32
def Qo:pe:=⇑33
def Qn:pe:=⇑34
def Qm:pe:=⇑35
def S6:pe:=⇑36
def Ql:pe:=⇑37
def Qk:pe:=⇑38
def Qj:pe:=⇑39
def Qi:pe:=⇑40
def S5:pe:=⇑41
def Qh:pe:=⇑42
def Qg:pe:=⇑43
def Qf:pe:=⇑44
def S4:pe:=⇑45
def Qe:pe:=⇑46
def Qd:pe:=⇑47
def Qc:pe:=⇑48
def Qb:pe:=⇑49
def Qa:pe:=⇑50
def Nk:pe:=⇑51
def S3:pe:=⇑52
def Q9:pe:=⇑53
def Q8:pe:=⇑54
def Pm:pe:=⇑55
def S2:pe:=⇑56
def Q7:pe:=⇑57
def Q6:pe:=⇑58
def Q5:pe:=⇑59
def Q4:pe:=⇑60
def Q3:pe:=⇑61
def Q2:pe:=⇑62
def Q1:pe:=⇑63
def Q0:pe:=⇑64
def QZ:pe:=⇑65
def QY:pe:=⇑66
def QX:pe:=⇑67
def QW:pe:=⇑68
def QV:pe:=⇑69
def QU:pe:=⇑70
def QT:pe:=⇑71
def QS:pe:=⇑72
def QR:pe:=⇑73
def QP:pe:=⇑74
def QO:pe:=⇑75
def QN:pe:=⇑76
def QM:pe:=⇑77
def scp:L9:=(by refine'(?_:Tg (K5.main.scope)->L9) .mk;walk_at "st")
def fil:Str:=(by refine'(?_:Tg (K5.main.file)->Str) .mk;walk_at "st")
def giv:Given:=(by refine'(?_:Tg (K5.given)->Given) .mk;walk_at "st")
def pq4:ri:=Q0::QZ::QY::QX::QW::QV::QU::QT::QS::QR::QP::QO::QN::QM::[]
def pq3:ri:=Qc::Qb::Qa::Nk::S3::Q9::Q8::Pm::S2::Q7::Q6::Q5::Q4::Q3::Q2::Q1::pq4
def pq2:ri:=Qp::Qo::Qn::Qm::S6::Ql::Qk::Qj::Qi::S5::Qh::Qg::Qf::S4::Qe::Qd::pq3
def pq1:ri:=RF::RE::RB::RA::Qz::S8::Qy::Qx::Qw::Qv::Qu::Qt::S7::Qs::Qr::Qq::pq2
def pw2:Ju:={ main:={ body:=Sa::Zz::S9::SQ::Pn::Ot::S1::O6::S0::Rg::RK::Ov::RJ::Of::RH::RG::pq1,scope:=scp,futureAnnotations:=MD,file:=fil,more:=[] },modules:=[],parses:=[],absent:=[],harvested:=[],given:=giv }
def vq4:ri:=QP::QO::QN::QM::[]
def vq3:ri:=Q6::Q5::Q4::Q3::Q2::Q1::Q0::QZ::QY::QX::QW::QV::QU::QT::QS::QR::vq4
def vq2:ri:=Qk::Qj::Qi::Qh::Qg::Qf::Qe::Qd::Qc::Qb::Qa::Nk::Q9::Q8::Pm::Q7::vq3
def vq1:ri:=RA::Qz::Qy::Qx::Qw::Qv::Qu::Qt::Qs::Qr::Qq::Qp::Qo::Qn::Qm::Ql::vq2
def vw:Ju:={ pw2 with main:={ pw2.main with body:=Sa::S9::SQ::Ot::S1::O6::S0::Rg::Ov::RJ::Of::RH::RG::RF::RE::RB::vq1 } }
def sx0:ri:=[Sa,Zz,S9]
def sx1:ri:=[SQ,Pn,Ot,S1,O6,S0,Rg,RK]
def sx2:ri:=[Ov,RJ,Of,RH,RG,RF,RE,RB,RA,Qz,S8,Qy,Qx]
def sx3:ri:=[Qw,Qv,Qu,Qt,S7,Qs,Qr,Qq,Qp,Qo,Qn,Qm,S6,Ql]
def sx4:ri:=[Qk,Qj,Qi,S5,Qh,Qg,Qf,S4,Qe,Qd,Qc,Qb,Qa]
def sx5:ri:=[Nk]
def sx6:ri:=[S3,Q9,Q8,Pm,S2,Q7]
def sx7:ri:=[Q6,Q5,Q4,Q3,Q2,Q1,Q0,QZ,QY,QX,QW,QV,QU]
def sx8:ri:=[QT,QS,QR,QP,QO,QN,QM]
def Xf(P:Jw):List Kk:=[hE P "__doc__" 166 .none,hE P "__package__" 167 .none,hE P "__loader__" 168 (.builtin "__main__.__loader__#opaque"),hE P "__spec__" 169 .none,hE P "__annotations__" 170 (.ref 6),hE P "__builtins__" 171 (.ref 4),hE P "__file__" 173 (.str "/claim/cut.py" 172),hE P "__cached__" 174 .none]
def Xe(P:Jw):List Kk:=[hE P "_wall" 193 (.ref 21),hE P "SpotError" 213 (.ref 31),hE P "NoFraction" 229 (.ref 44),hE P "greatest_divisor" 239 (.ref 53),hE P "fraction" 248 (.ref 60),hE P "is_less" 256 (.ref 67),hE P "common_bottom" 265 (.ref 74),hE P "top_over" 273 (.ref 81)]
def Xd(P:Jw):List Kk:=[hE P "is_ahead" 283 (.ref 88),hE P "later_of" 291 (.ref 95),hE P "earlier_of" 299 (.ref 102),hE P "place_among" 310 (.ref 109),hE P "ahead_first" 319 (.ref 116),hE P "own_spot" 328 (.ref 123),hE P "own_wall" 335 (.ref 130),hE P "gap" 343 (.ref 137)]
def Xc(P:Jw):List Kk:=[hE P "lean" 361 (.ref 144),hE P "side_of" 370 (.ref 151),hE P "spans" 380 (.ref 158),hE P "is_above" 392 (.ref 165),hE P "above_table" 398 (.ref 170),hE P "lowest_first" 408 (.ref 177),hE P "upper_of" 417 (.ref 184),hE P "upper_below" 423 (.ref 189)]
def Xb(P:Jw):List Kk:=[hE P "face_ends" 435 (.ref 196),hE P "faces_by_start" 444 (.ref 203),hE P "is_met_sooner" 456 (.ref 210),hE P "face_behind" 470 (.ref 217),hE P "ring_from" 481 (.ref 224),hE P "rings_of" 494 (.ref 231),hE P "twice_area" 500 (.ref 236),hE P "outer_and_inner" 512 (.ref 243)]
def Xa(P:Jw):List Kk:=[hE P "first_corner" 522 (.ref 250),hE P "land_about" 532 (.ref 257),hE P "lands_of_faces" 538 (.ref 262),hE P "own_plot" 546 (.ref 267),hE P "corners_of" 556 (.ref 274),hE P "ends_by_number" 562 (.ref 279),hE P "halves" 572 (.ref 286),hE P "guide_by_halving" 580 (.ref 293)]
def X9(P:Jw):List Kk:=[hE P "guide_between" 595 (.ref 300),hE P "guide_after" 607 (.ref 307),hE P "side_at_corner" 615 (.ref 314),hE P "Way" 705 (.ref 373),hE P "steps_of" 713 (.ref 382),hE P "guide_of_step" 719 (.ref 387),hE P "Steps" 750 (.ref 407),hE P "_law_pot" 761 (.ref 416)]
def X8(P:Jw):List Kk:=[hE P "_law_take" 771 (.ref 423),hE P "_law_side" 784 (.ref 430),hE P "_law_on" 792 (.ref 437),hE P "_law_apart" 804 (.ref 444),hE P "_law_new_spot" 812 (.ref 451),hE P "_law_some_spot" 821 (.ref 458),hE P "_law_square" 832 (.ref 465),hE P "_law_laid" 838 (.ref 470)]
def X7(P:Jw):List Kk:=[hE P "_law_shuts_here" 844 (.ref 475),hE P "_law_frac" 854 (.ref 482),hE P "_law_frame" 860 (.ref 487),hE P "_law_given" 872 (.ref 494),hE P "_law_plot" 878 (.ref 499),hE P "_law_corners" 884 (.ref 504),hE P "_law_height" 896 (.ref 511),hE P "_law_higher" 902 (.ref 516)]
def X6(P:Jw):List Kk:=[hE P "_law_stack" 908 (.ref 521),hE P "_law_same" 916 (.ref 528),hE P "_law_squares" 922 (.ref 533),hE P "law" 928 (.ref 538)]
def R5(P:Jw):List Kk:=Xf P++(Xe P++(Xd P++(Xc P++(Xb P++(Xa P++(X9 P++(X8 P++(X7 P++(X6 P)))))))))
def O7:List J3:=[(.int 1 0),(.int 0 0),(.ref 20),(.int 5 0),(.int 0 0),(.ref 27),(.int 7 0),(.int 0 0),(.ref 40),(.int 10 0),(.int 0 0),(.ref 52),(.int 14 0),(.int 0 0),(.ref 59),(.int 21 0),(.int 0 0),(.ref 66),(.int 23 0),(.int 0 0),(.ref 73),(.int 28 0),(.int 0 0),(.ref 80),(.int 31 0),(.int 0 0),(.ref 87),(.int 35 0),(.int 0 0),(.ref 94),(.int 37 0),(.int 0 0),(.ref 101),(.int 39 0),(.int 0 0),(.ref 108),(.int 48 0),(.int 0 0),(.ref 115),(.int 53 0),(.int 0 0),(.ref 122),(.int 56 0),(.int 0 0),(.ref 129),(.int 58 0),(.int 0 0),(.ref 136),(.int 60 0),(.int 0 0),(.ref 143),(.int 66 0),(.int 0 0),(.ref 150),(.int 74 0),(.int 0 0),(.ref 157),(.int 76 0),(.int 0 0),(.ref 164),(.int 84 0),(.int 0 0),(.ref 169),(.int 86 0),(.int 0 0),(.ref 176),(.int 88 0),(.int 0 0),(.ref 183),(.int 94 0),(.int 0 0),(.ref 188),(.int 98 0),(.int 0 0),(.ref 195),(.int 101 0),(.int 0 0),(.ref 202),(.int 106 0),(.int 0 0),(.ref 209),(.int 112 0),(.int 0 0),(.ref 216),(.int 120 0),(.int 0 0),(.ref 223),(.int 127 0),(.int 0 0),(.ref 230),(.int 138 0),(.int 0 0),(.ref 235),(.int 148 0),(.int 0 0),(.ref 242),(.int 156 0),(.int 0 0),(.ref 249),(.int 161 0),(.int 0 0),(.ref 256),(.int 164 0),(.int 0 0),(.ref 261),(.int 177 0),(.int 0 0),(.ref 266),(.int 179 0),(.int 0 0),(.ref 273),(.int 185 0),(.int 0 0),(.ref 278),(.int 189 0),(.int 0 0),(.ref 285),(.int 195 0),(.int 0 0),(.ref 292),(.int 197 0),(.int 0 0),(.ref 299),(.int 205 0),(.int 0 0),(.ref 306),(.int 214 0),(.int 0 0),(.ref 313),(.int 218 0),(.int 0 0),(.ref 320),(.int 260 0),(.int 0 0),(.ref 381),(.int 268 0),(.int 0 0),(.ref 386),(.int 271 0),(.int 0 0),(.ref 393),(.int 284 0),(.int 0 0),(.ref 415),(.int 289 0),(.int 0 0),(.ref 422),(.int 298 0),(.int 0 0),(.ref 429),(.int 303 0),(.int 0 0),(.ref 436),(.int 305 0),(.int 0 0),(.ref 443),(.int 312 0),(.int 0 0),(.ref 450),(.int 314 0),(.int 0 0),(.ref 457),(.int 318 0),(.int 0 0),(.ref 464),(.int 324 0),(.int 0 0),(.ref 469),(.int 329 0),(.int 0 0),(.ref 474),(.int 341 0),(.int 0 0),(.ref 481),(.int 347 0),(.int 0 0),(.ref 486),(.int 356 0),(.int 0 0),(.ref 493),(.int 359 0),(.int 0 0),(.ref 498),(.int 361 0),(.int 0 0),(.ref 503),(.int 366 0),(.int 0 0),(.ref 510),(.int 372 0),(.int 0 0),(.ref 515),(.int 380 0),(.int 0 0),(.ref 520),(.int 387 0),(.int 0 0),(.ref 527),(.int 389 0),(.int 0 0),(.ref 532),(.int 400 0),(.int 0 0),(.ref 537)]
def hC(n:Str)(i j k a l b c d e m o p q r f g h:Nat)(s:Bool):Obj:={ cls:=.type "code",data:=.fields (List.toArray [.str n i,.str n j,.str "/claim/cut.py" k,.int (Mm m) 0,.int (Mm o) 0,.int (Mm p) 0,.int (Mm q) 0,.int (Mm r) 0,.ref l,.bool s,.int (Mm f) 0,.ref b,.none,.ref c,.ref d,.ref e,.int (Mm g) 0,.int (Mm h) 0,.str "/claim/cut.py" a]) }
def hF(t:J3)(s:pe)(n:Str)(g:Nat)(m c:J3):Obj:={ cls:=t,data:=.func (kU s n n g m c) }
def NT(s:pe)(n:Str)(m:J3)(r:Nat):Obj:=hF (.type "function") s n 3 m (.ref r)
def Zb:Obj:=NU []
def Za:Obj:={ cls:=.none,data:=.fields (JI (O7.take 0)) }
def Z9:Obj:=NY "<module>" "<module>" 182 183 184 1 0 0 11 MD 12 .none .none .none 185 186
def Z8:Obj:={ cls:=(.type "frame"),slots:=(List.toArray [(MA (.ref 13)),(MA (.ref 3)),(MA (.ref 3)),MB,(MA (.str "__main__" 164)),MB,(MA (.ref 0))]) }
def Z7(P:Jw):Obj:=Ou 11 (hE P "__name__" 165 Rz::(R5 P).take 10)
def Z6:Obj:={ cls:=.none,data:=.fields (JI (O7.take 6)) }
def Z5:Obj:=NU [(.str "k" 190)]
def Z4:Obj:=hF .none Sa "_wall" 0 .none .none
def Z3:Obj:=hC "_wall" 187 188 189 192 15 16 17 18 19 1 1 0 0 3 181 191 1 MC
def Z0:Obj:=NT Sa "_wall" (.str "__main__" 164) 20
def ZZ:Obj:=NU [(.type "ValueError")]
def ZY:Obj:={ cls:=(.type "builtin_function_or_method"),data:=(.fields (List.toArray [(.builtin "type.__prepare__"),(.type "type")])) }
def ZX(P:Jw):Obj:=Ou 4 [hE P "__module__" 203 Rz,hE P "__qualname__" 205 (.str "SpotError" 204),hE P "__firstlineno__" 207 (.int 5 206),hE P "__static_attributes__" 208 (.ref 29)]
def ZW:Obj:=NY "SpotError" "SpotError" 198 199 200 5 0 0 25 MD 26 .none .none .none 201 202
def ZV:Obj:={ cls:=(.type "frame"),slots:=(List.toArray [(MA (.ref 27)),(MA (.ref 3)),(MA (.ref 24)),MB,(MA Rz),MB,(MA (.ref 0))]) }
def ZU(P:Jw):Obj:=Ou 3 [hE P "__module__" 203 Rz,hE P "__firstlineno__" 207 (.int 5 206),hE P "__static_attributes__" 208 (.ref 29),hE P "__weakref__" 210 (.ref 32),hE P "__doc__" 211 .none]
def ZT:Obj:={ cls:=(.type "type"),data:=(.cls { name:="SpotError",bases:=[(.type "ValueError")],mro:=[(.ref 31),(.type "ValueError"),(.type "Exception"),(.type "BaseException"),(.type "object")],ns:=30,qualname:="SpotError",hasDict:=MC,slotNames:=[],subclasses:=[],abstract:=MD,collection:=MB,hasDel:=MD }),slots:=(List.toArray [(MA (.ref 22)),MB,(MA (.str "SpotError" 196)),(MA (.str "SpotError" 204)),(MA (.builtin "ValueError.__new__")),(MA (.bool MC))]) }
def ZS:Obj:={ cls:=(.type "getset_descriptor"),data:=(.fields (List.toArray [(.str "__weakref__" 209),(.ref 31),(.builtin "ExceptionGroup.__weakref__"),.none])) }
def ZR:Obj:={ cls:=(.type "super"),data:=(.fields (List.toArray [(.ref 31),(.ref 31),(.ref 31)])) }
def ZQ:Obj:={ cls:=(.type "builtin_function_or_method"),data:=(.fields (List.toArray [(.builtin "object.__init_subclass__"),(.ref 31)])) }
def ZP(P:Jw):Obj:=Ou 17 (hE P "__name__" 165 (.str "spotlook.spots" 274)::(R5 P).take 16)
def ZO:Obj:={ cls:=.none,data:=.fields (JI (O7.take 24)) }
def ZN:Obj:={ cls:=(.type "type"),data:=(.cls { name:="SpotError",bases:=[(.type "ValueError")],mro:=[(.ref 31),(.type "ValueError"),(.type "Exception"),(.type "BaseException"),(.type "object")],ns:=30,qualname:="SpotError",hasDict:=MC,slotNames:=[],subclasses:=[(.ref 44)],abstract:=MD,collection:=MB,hasDel:=MD }),slots:=(List.toArray [(MA (.ref 22)),MB,(MA (.str "SpotError" 196)),(MA (.str "SpotError" 204)),(MA (.builtin "ValueError.__new__")),(MA (.bool MC))]) }
def ZM:Obj:=NU [(.ref 31)]
def ZL(P:Jw):Obj:=Ou 4 [hE P "__module__" 221 Rz,hE P "__qualname__" 223 (.str "NoFraction" 222),hE P "__firstlineno__" 225 (.int 7 224),hE P "__static_attributes__" 226 (.ref 42)]
def ZK:Obj:=NY "NoFraction" "NoFraction" 216 217 218 7 0 0 38 MD 39 .none .none .none 219 220
def ZJ:Obj:={ cls:=(.type "frame"),slots:=(List.toArray [(MA (.ref 40)),(MA (.ref 3)),(MA (.ref 37)),MB,(MA Rz),MB,(MA (.ref 0))]) }
def ZI(P:Jw):Obj:=Ou 2 [hE P "__module__" 221 Rz,hE P "__firstlineno__" 225 (.int 7 224),hE P "__static_attributes__" 226 (.ref 42),hE P "__doc__" 227 .none]
def ZH:Obj:={ cls:=(.type "type"),data:=(.cls { name:="NoFraction",bases:=[(.ref 31)],mro:=[(.ref 44),(.ref 31),(.type "ValueError"),(.type "Exception"),(.type "BaseException"),(.type "object")],ns:=43,qualname:="NoFraction",hasDict:=MC,slotNames:=[],subclasses:=[],abstract:=MD,collection:=MB,hasDel:=MD }),slots:=(List.toArray [(MA (.ref 35)),MB,(MA (.str "NoFraction" 214)),(MA (.str "NoFraction" 222)),(MA (.builtin "ValueError.__new__")),(MA (.bool MC))]) }
def ZG:Obj:={ cls:=(.type "super"),data:=(.fields (List.toArray [(.ref 44),(.ref 44),(.ref 44)])) }
def ZF:Obj:={ cls:=(.type "builtin_function_or_method"),data:=(.fields (List.toArray [(.builtin "object.__init_subclass__"),(.ref 44)])) }
def ZE:Obj:=NU [(.str "one" 235),(.str "other" 236)]
def ZD:Obj:=hF .none Ot "greatest_divisor" 0 .none .none
def ZC:Obj:=hC "greatest_divisor" 232 233 234 238 47 48 49 50 51 10 2 0 0 3 181 237 10 MC
def ZA:Obj:=NT Ot "greatest_divisor" (.str "spotlook.fractions" 230) 52
def Yz:Obj:=NU [(.str "top" 243),(.str "bottom" 244),(.str "divisor" 245)]
def Yy:Obj:=hF .none S1 "fraction" 0 .none .none
def Yx:Obj:=hC "fraction" 240 241 242 247 54 55 56 57 58 14 2 0 0 3 181 246 14 MC
def Yw:Obj:=NT S1 "fraction" (.str "spotlook.fractions" 230) 59
def Yv:Obj:=NU [(.str "one" 252),(.str "other" 253)]
def Yu:Obj:=hF .none O6 "is_less" 0 .none .none
def Yt:Obj:=hC "is_less" 249 250 251 255 61 62 63 64 65 21 2 0 0 3 181 254 21 MC
def Ys:Obj:=NT O6 "is_less" (.str "spotlook.fractions" 230) 66
def Yr:Obj:=NU [(.str "parts" 260),(.str "common" 261),(.str "part" 262)]
def Yq:Obj:=hF .none S0 "common_bottom" 0 .none .none
def Yp:Obj:=hC "common_bottom" 257 258 259 264 68 69 70 71 72 23 1 0 0 3 181 263 23 MC
def Yo:Obj:=NT S0 "common_bottom" (.str "spotlook.fractions" 230) 73
def Yn:Obj:=NU [(.str "part" 269),(.str "bottom" 270)]
def Ym:Obj:=hF .none Rg "top_over" 0 .none .none
def Yl:Obj:=hC "top_over" 266 267 268 272 75 76 77 78 79 28 2 0 0 3 181 271 28 MC
def Yk:Obj:=NT Rg "top_over" (.str "spotlook.fractions" 230) 80
def Yj(P:Jw):Obj:=Ou 29 (hE P "__name__" 165 (.str "spotlook.above" 371)::(R5 P).take 28)
def Yi:Obj:={ cls:=.none,data:=.fields (JI (O7.take 60)) }
def Yh:Obj:=NU [(.str "one" 279),(.str "other" 280)]
def Yg:Obj:=hF .none Ov "is_ahead" 0 .none .none
def Yf:Obj:=hC "is_ahead" 276 277 278 282 82 83 84 85 86 31 2 0 0 3 181 281 31 MC
def Ye:Obj:=NT Ov "is_ahead" (.str "spotlook.spots" 274) 87
def Yd:Obj:=NU [(.str "one" 287),(.str "other" 288)]
def Yc:Obj:=hF .none RJ "later_of" 0 .none .none
def Yb:Obj:=hC "later_of" 284 285 286 290 89 90 91 92 93 35 2 0 0 3 181 289 35 MC
def Ya:Obj:=NT RJ "later_of" (.str "spotlook.spots" 274) 94
def Y9:Obj:=NU [(.str "one" 295),(.str "other" 296)]
def Y8:Obj:=hF .none Of "earlier_of" 0 .none .none
def Y7:Obj:=hC "earlier_of" 292 293 294 298 96 97 98 99 100 37 2 0 0 3 181 297 37 MC
def Y6:Obj:=NT Of "earlier_of" (.str "spotlook.spots" 274) 101
def Y5:Obj:=NU [(.str "row" 303),(.str "spot" 304),(.str "low" 305),(.str "high" 306),(.str "middle" 307)]
def Y4:Obj:=hF .none RH "place_among" 0 .none .none
def Y3:Obj:=hC "place_among" 300 301 302 309 103 104 105 106 107 39 2 0 0 3 181 308 39 MC
def Y2:Obj:=NT RH "place_among" (.str "spotlook.spots" 274) 108
def Y1:Obj:=NU [(.str "spots" 314),(.str "row" 315),(.str "spot" 316)]
def Y0:Obj:=hF .none RG "ahead_first" 0 .none .none
def YZ:Obj:=hC "ahead_first" 311 312 313 318 110 111 112 113 114 48 1 0 0 3 181 317 48 MC
def YY:Obj:=NT RG "ahead_first" (.str "spotlook.spots" 274) 115
def YX:Obj:=NU [(.str "spot" 323),(.str "x" 324),(.str "y" 325)]
def YW:Obj:=hF .none RF "own_spot" 0 .none .none
def YV:Obj:=hC "own_spot" 320 321 322 327 117 118 119 120 121 53 1 0 0 3 181 326 53 MC
def YU:Obj:=NT RF "own_spot" (.str "spotlook.spots" 274) 122
def YT:Obj:=NU [(.str "wall" 332)]
def YS:Obj:=hF .none RE "own_wall" 0 .none .none
def YR:Obj:=hC "own_wall" 329 330 331 334 124 125 126 127 128 56 1 0 0 3 181 333 56 MC
def YQ:Obj:=NT RE "own_wall" (.str "spotlook.spots" 274) 129
def YO:Obj:=NU [(.str "one" 339),(.str "other" 340)]
def YN:Obj:=hF .none RB "gap" 0 .none .none
def YM:Obj:=hC "gap" 336 337 338 342 131 132 133 134 135 58 2 0 0 3 181 341 58 MC
def YL:Obj:=NT RB "gap" (.str "spotlook.spots" 274) 136
def YK:Obj:=NU [(.str "wall" 347),(.str "spot" 348),(.str "a" 349),(.str "b" 350),(.str "c" 351),(.str "d" 352),(.str "x" 353),(.str "y" 354),(.str "across" 355),(.str "up" 356),(.str "along" 357),(.str "high" 358)]
def YJ:Obj:=hF .none RA "lean" 0 .none .none
def YI:Obj:=hC "lean" 344 345 346 360 138 139 140 141 142 60 2 0 0 3 181 359 60 MC
def YH:Obj:=NT RA "lean" (.str "spotlook.spots" 274) 143
def X3:Obj:=NU [(.str "wall" 365),(.str "spot" 366),(.str "top" 367)]
def X2:Obj:=hF .none Qz "side_of" 0 .none .none
def X1:Obj:=hC "side_of" 362 363 364 369 145 146 147 148 149 66 2 0 0 3 181 368 66 MC
def X0:Obj:=NT Qz "side_of" (.str "spotlook.spots" 274) 150
def XZ:Obj:=NU [(.str "wall" 376),(.str "spot" 377)]
def XY:Obj:=hF .none Qy "spans" 0 .none .none
def XX:Obj:=hC "spans" 373 374 375 379 152 153 154 155 156 74 2 0 0 3 181 378 74 MC
def XW:Obj:=NT Qy "spans" (.str "spotlook.above" 371) 157
def XU:Obj:=NU [(.str "one" 384),(.str "other" 385),(.str "start" 386),(.str "end" 387),(.str "place" 388),(.str "deciding" 389)]
def XT:Obj:=hF .none Qx "is_above" 0 .none .none
def XS:Obj:=hC "is_above" 381 382 383 391 159 160 161 162 163 76 2 0 0 3 181 390 76 MC
def XR:Obj:=NT Qx "is_above" (.str "spotlook.above" 371) 164
def XQ(P:Jw):Obj:=Ou 41 (hE P "__name__" 165 (.str "spotlook.lands" 501)::(R5 P).take 40)
def XO:Obj:={ cls:=.none,data:=.fields (JI (O7.take 96)) }
def XN:Obj:=hF .none Qw "above_table" 0 .none .none
def XM:Obj:=NY "above_table" "above_table" 393 394 395 84 1 3 166 MC 167 .none .none (.ref 168) 396 397
def XJ:Obj:=NT Qw "above_table" (.str "spotlook.above" 371) 169
def XI:Obj:=NU [(.str "row" 402),(.str "above" 403)]
def XH:Obj:=NU [(.str "row" 404),(.str "above" 405)]
def XG:Obj:=hF .none Qv "lowest_first" 0 .none .none
def XF:Obj:=hC "lowest_first" 399 400 401 407 171 172 173 174 175 86 2 0 0 3 181 406 86 MC
def XE:Obj:=NT Qv "lowest_first" (.str "spotlook.above" 371) 176
def XD:Obj:=NU [(.str "walls" 412),(.str "upper" 413),(.str "wall" 414)]
def XC:Obj:=hF .none Qu "upper_of" 0 .none .none
def XB:Obj:=hC "upper_of" 409 410 411 416 178 179 180 181 182 88 1 0 0 3 181 415 88 MC
def XA:Obj:=NT Qu "upper_of" (.str "spotlook.above" 371) 183
def Wz:Obj:=hF .none Qt "upper_below" 0 .none .none
def Wy:Obj:=NY "upper_below" "upper_below" 418 419 420 94 2 3 185 MC 186 .none .none (.ref 187) 421 422
def Wx:Obj:=NT Qt "upper_below" (.str "spotlook.above" 371) 188
def Ww:Obj:=NU [(.str "plot" 429),(.str "face" 430),(.str "first" 431),(.str "second" 432)]
def Wv:Obj:=hF .none Qs "face_ends" 0 .none .none
def Wu:Obj:=hC "face_ends" 426 427 428 434 190 191 192 193 194 98 2 0 0 3 181 433 98 MC
def Wt:Obj:=NT Qs "face_ends" (.str "spotlook.rings" 424) 195
def Ws:Obj:=NU [(.str "plot" 439),(.str "leaving" 440),(.str "face" 441)]
def Wr:Obj:=hF .none Qr "faces_by_start" 0 .none .none
def Wq:Obj:=hC "faces_by_start" 436 437 438 443 197 198 199 200 201 101 1 0 0 3 181 442 101 MC
def Wo:Obj:=NT Qr "faces_by_start" (.str "spotlook.rings" 424) 202
def Wn:Obj:=NU [(.str "corner" 448),(.str "came_from" 449),(.str "one" 450),(.str "other" 451),(.str "turn" 452),(.str "other_turn" 453)]
def Wm:Obj:=hF .none Qq "is_met_sooner" 0 .none .none
def Wk:Obj:=hC "is_met_sooner" 445 446 447 455 204 205 206 207 208 106 4 0 0 3 181 454 106 MC
def Wj:Obj:=NT Qq "is_met_sooner" (.str "spotlook.rings" 424) 209
def Wi:Obj:=NU [(.str "plot" 460),(.str "leaving" 461),(.str "face" 462),(.str "came_from" 463),(.str "corner" 464),(.str "back" 465),(.str "best" 466),(.str "rival" 467)]
def Wh:Obj:=hF .none Qp "face_behind" 0 .none .none
def Wg:Obj:=hC "face_behind" 457 458 459 469 211 212 213 214 215 112 3 0 0 3 181 468 112 MC
def Wf:Obj:=NT Qp "face_behind" (.str "spotlook.rings" 424) 216
def We:Obj:=NU [(.str "plot" 474),(.str "leaving" 475),(.str "face" 476),(.str "ring" 477),(.str "at" 478)]
def Wd:Obj:=hF .none Qo "ring_from" 0 .none .none
def Wc:Obj:=hC "ring_from" 471 472 473 480 218 219 220 221 222 120 3 0 0 3 181 479 120 MC
def Wb:Obj:=NT Qo "ring_from" (.str "spotlook.rings" 424) 223
def Wa:Obj:=NU [(.str "plot" 485),(.str "leaving" 486),(.str "rings" 487),(.str "gone_along" 488),(.str "face" 489),(.str "ring" 490),(.str "part" 491)]
def W9:Obj:=hF .none Qn "rings_of" 0 .none .none
def W8:Obj:=hC "rings_of" 482 483 484 493 225 226 227 228 229 127 1 0 0 3 181 492 127 MC
def W7:Obj:=NT Qn "rings_of" (.str "spotlook.rings" 424) 230
def W5:Obj:=hF .none Qm "twice_area" 0 .none .none
def W0:Obj:=NY "twice_area" "twice_area" 495 496 497 138 2 3 232 MC 233 .none .none (.ref 234) 498 499
def WZ:Obj:=NT Qm "twice_area" (.str "spotlook.rings" 424) 235
def WY:Obj:=NU [(.str "plot" 506),(.str "outers" 507),(.str "inners" 508),(.str "ring" 509)]
def WX:Obj:=hF .none Ql "outer_and_inner" 0 .none .none
def WW:Obj:=hC "outer_and_inner" 503 504 505 511 237 238 239 240 241 148 1 0 0 3 181 510 148 MC
def WV:Obj:=NT Ql "outer_and_inner" (.str "spotlook.lands" 501) 242
def WU(P:Jw):Obj:=Ou 52 (hE P "__name__" 165 (.str "spotlook.ways" 563)::(R5 P).take 51)
def WT:Obj:={ cls:=.none,data:=.fields (JI (O7.take 129)) }
def WS:Obj:=NU [(.str "plot" 516),(.str "ring" 517),(.str "first" 518),(.str "face" 519)]
def WR:Obj:=hF .none Qk "first_corner" 0 .none .none
def WQ:Obj:=hC "first_corner" 513 514 515 521 244 245 246 247 248 156 2 0 0 3 181 520 156 MC
def WO:Obj:=NT Qk "first_corner" (.str "spotlook.lands" 501) 249
def WN:Obj:=NU [(.str "plot" 526),(.str "lands" 527),(.str "corner" 528),(.str "wall" 529)]
def WM:Obj:=hF .none Qj "land_about" 0 .none .none
def WL:Obj:=hC "land_about" 523 524 525 531 251 252 253 254 255 161 3 0 0 3 181 530 161 MC
def WK:Obj:=NT Qj "land_about" (.str "spotlook.lands" 501) 256
def WJ:Obj:=hF .none Qi "lands_of_faces" 0 .none .none
def WI:Obj:=NY "lands_of_faces" "lands_of_faces" 533 534 535 164 1 3 258 MC 259 .none .none (.ref 260) 536 537
def WH:Obj:=NT Qi "lands_of_faces" (.str "spotlook.lands" 501) 261
def WG:Obj:=hF .none Qh "own_plot" 0 .none .none
def WE:Obj:=NY "own_plot" "own_plot" 541 542 543 177 1 3 263 MC 264 .none .none (.ref 265) 544 545
def WD:Obj:=NT Qh "own_plot" (.str "spotlook.plots" 539) 266
def WC:Obj:=NU [(.str "plot" 550),(.str "corners" 551),(.str "wall" 552),(.str "end" 553)]
def WB:Obj:=hF .none Qg "corners_of" 0 .none .none
def WA:Obj:=hC "corners_of" 547 548 549 555 268 269 270 271 272 179 1 0 0 3 181 554 179 MC
def Vz:Obj:=NT Qg "corners_of" (.str "spotlook.plots" 539) 273
def Vy:Obj:=hF .none Qf "ends_by_number" 0 .none .none
def Vx:Obj:=NY "ends_by_number" "ends_by_number" 557 558 559 185 2 3 275 MC 276 .none .none (.ref 277) 560 561
def Vw:Obj:=NT Qf "ends_by_number" (.str "spotlook.plots" 539) 278
def Vv:Obj:=NU [(.str "n" 568),(.str "many" 569)]
def Vu:Obj:=hF .none Qe "halves" 0 .none .none
def Vt:Obj:=hC "halves" 565 566 567 571 280 281 282 283 284 189 1 0 0 3 181 570 189 MC
def Vs:Obj:=NT Qe "halves" (.str "spotlook.ways" 563) 285
def Vr:Obj:=NU [(.str "things" 576),(.str "guides" 577)]
def Vq:Obj:=hF .none Qd "guide_by_halving" 0 .none .none
def Vp:Obj:=hC "guide_by_halving" 573 574 575 579 287 288 289 290 291 195 2 0 0 3 181 578 195 MC
def Vo:Obj:=NT Qd "guide_by_halving" (.str "spotlook.ways" 563) 292
def Vn:Obj:=NU [(.str "things" 584),(.str "guides" 585),(.str "low" 586),(.str "high" 587),(.str "middle" 588),(.str "word" 589),(.str "number" 590),(.str "before" 591),(.str "past" 592)]
def Vm:Obj:=hF .none Qc "guide_between" 0 .none .none
def Vl:Obj:=hC "guide_between" 581 582 583 594 294 295 296 297 298 197 4 0 0 3 181 593 197 MC
def Vk:Obj:=NT Qc "guide_between" (.str "spotlook.ways" 563) 299
def Vj:Obj:=NU [(.str "guide" 599),(.str "side" 600),(.str "word" 601),(.str "number" 602),(.str "before" 603),(.str "past" 604)]
def Vi:Obj:=hF .none Qb "guide_after" 0 .none .none
def Vh:Obj:=hC "guide_after" 596 597 598 606 301 302 303 304 305 205 2 0 0 3 181 605 205 MC
def Vg:Obj:=NT Qb "guide_after" (.str "spotlook.ways" 563) 306
def Vf:Obj:=NU [(.str "corner" 611),(.str "spot" 612)]
def Ve:Obj:=hF .none Qa "side_at_corner" 0 .none .none
def Vd:Obj:=hC "side_at_corner" 608 609 610 614 308 309 310 311 312 214 2 0 0 3 181 613 214 MC
def Vb:Obj:=NT Qa "side_at_corner" (.str "spotlook.ways" 563) 313
def Va(P:Jw):Obj:=Ou 53 (hE P "__name__" 165 (.str "spotlook.ways" 563)::(R5 P).take 52)
def V9:Obj:={ cls:=.none,data:=.fields (JI (O7.take 132)) }
def V8(P:Jw):Obj:=Ou 11 [hE P "__module__" 623 (.str "spotlook.ways" 563),hE P "__qualname__" 625 (.str "Way" 624),hE P "__firstlineno__" 627 (.int 218 626),hE P "__init__" 635 (.ref 328),hE P "after" 643 (.ref 335),hE P "side_at" 653 (.ref 342),hE P "looks" 666 (.ref 349),hE P "look" 674 (.ref 356),hE P "led" 686 (.ref 363),hE P "most" 693 (.ref 370),hE P "__static_attributes__" 698 (.ref 371)]
def V7:Obj:=kFd [(.int 220 0),(.int 4 0),(.ref 327),(.int 226 0),(.int 4 0),(.ref 334),(.int 229 0),(.int 4 0),(.ref 341),(.int 234 0),(.int 4 0),(.ref 348),(.int 244 0),(.int 4 0),(.ref 355),(.int 247 0),(.int 4 0),(.ref 362),(.int 257 0),(.int 4 0),(.ref 369)]
def V6:Obj:=NY "Way" "Way" 618 619 620 218 0 0 318 MD 319 .none .none .none 621 622
def V5:Obj:={ cls:=(.type "frame"),slots:=(List.toArray [(MA (.ref 320)),(MA (.ref 3)),(MA (.ref 317)),MB,(MA (.str "spotlook.ways" 563)),MB,(MA (.ref 0))]) }
def V4:Obj:=NU [(.str "self" 631),(.str "plot" 632)]
def V3:Obj:={ cls:=.none,data:=(.func (kU (kC Nk 0) "__init__" "Way.__init__" 0 .none .none)) }
def V2:Obj:=NY "__init__" "Way.__init__" 628 629 630 220 2 3 322 MC 323 (.ref 324) (.ref 325) (.ref 326) 633 634
def V1:Obj:={ cls:=(.type "function"),data:=(.func (kU (kC Nk 0) "__init__" "Way.__init__" 3 (.str "spotlook.ways" 563) (.ref 327))) }
def V0:Obj:=NU [(.str "self" 639),(.str "sides" 640)]
def VZ:Obj:={ cls:=.none,data:=(.func (kU (kC Nk 1) "after" "Way.after" 0 .none .none)) }
def VY:Obj:=NY "after" "Way.after" 636 637 638 226 2 3 329 MC 330 (.ref 331) (.ref 332) (.ref 333) 641 642
def VX:Obj:={ cls:=(.type "function"),data:=(.func (kU (kC Nk 1) "after" "Way.after" 3 (.str "spotlook.ways" 563) (.ref 334))) }
def VW:Obj:=NU [(.str "self" 647),(.str "word" 648),(.str "number" 649),(.str "spot" 650)]
def VU:Obj:={ cls:=.none,data:=(.func (kU (kC Nk 2) "side_at" "Way.side_at" 0 .none .none)) }
def VT:Obj:=NY "side_at" "Way.side_at" 644 645 646 229 4 3 336 MC 337 (.ref 338) (.ref 339) (.ref 340) 651 652
def VS:Obj:={ cls:=(.type "function"),data:=(.func (kU (kC Nk 2) "side_at" "Way.side_at" 3 (.str "spotlook.ways" 563) (.ref 341))) }
def VR:Obj:=NU [(.str "self" 657),(.str "spot" 658),(.str "made" 659),(.str "guide" 660),(.str "word" 661),(.str "number" 662),(.str "side" 663)]
def VQ:Obj:={ cls:=.none,data:=(.func (kU (kC Nk 3) "looks" "Way.looks" 0 .none .none)) }
def VP:Obj:=NY "looks" "Way.looks" 654 655 656 234 2 3 343 MC 344 (.ref 345) (.ref 346) (.ref 347) 664 665
def VO:Obj:={ cls:=(.type "function"),data:=(.func (kU (kC Nk 3) "looks" "Way.looks" 3 (.str "spotlook.ways" 563) (.ref 348))) }
def VN:Obj:=NU [(.str "self" 670),(.str "spot" 671)]
def VM:Obj:={ cls:=.none,data:=(.func (kU (kC Nk 4) "look" "Way.look" 0 .none .none)) }
def VL:Obj:=NY "look" "Way.look" 667 668 669 244 2 3 350 MC 351 (.ref 352) (.ref 353) (.ref 354) 672 673
def VJ:Obj:={ cls:=(.type "function"),data:=(.func (kU (kC Nk 4) "look" "Way.look" 3 (.str "spotlook.ways" 563) (.ref 355))) }
def VI:Obj:=NU [(.str "self" 678),(.str "looks" 679),(.str "guide" 680),(.str "word" 681),(.str "number" 682),(.str "side" 683)]
def VG:Obj:={ cls:=.none,data:=(.func (kU (kC Nk 5) "led" "Way.led" 0 .none .none)) }
def VF:Obj:=NY "led" "Way.led" 675 676 677 247 2 3 357 MC 358 (.ref 359) (.ref 360) (.ref 361) 684 685
def VE:Obj:={ cls:=(.type "function"),data:=(.func (kU (kC Nk 5) "led" "Way.led" 3 (.str "spotlook.ways" 563) (.ref 362))) }
def VD:Obj:=NU [(.str "self" 690)]
def VC:Obj:={ cls:=.none,data:=(.func (kU (kC Nk 6) "most" "Way.most" 0 .none .none)) }
def VB:Obj:=NY "most" "Way.most" 687 688 689 257 1 3 364 MC 365 (.ref 366) (.ref 367) (.ref 368) 691 692
def VA:Obj:={ cls:=(.type "function"),data:=(.func (kU (kC Nk 6) "most" "Way.most" 3 (.str "spotlook.ways" 563) (.ref 369))) }
def Uz:Obj:=NU [(.str "corners" 694),(.str "guide" 695),(.str "most_looks" 696),(.str "plot" 697)]
def Uy(P:Jw):Obj:=Ou 4 [hE P "__module__" 623 (.str "spotlook.ways" 563),hE P "__firstlineno__" 627 (.int 218 626),hE P "__init__" 635 (.ref 328),hE P "after" 643 (.ref 335),hE P "side_at" 653 (.ref 342),hE P "looks" 666 (.ref 349),hE P "look" 674 (.ref 356),hE P "led" 686 (.ref 363),hE P "most" 693 (.ref 370),hE P "__static_attributes__" 698 (.ref 371),hE P "__dict__" 700 (.ref 374),hE P "__weakref__" 702 (.ref 375),hE P "__doc__" 703 .none]
def Ux:Obj:={ cls:=(.type "type"),data:=(.cls { name:="Way",bases:=[(.type "object")],mro:=[(.ref 373),(.type "object")],ns:=372,qualname:="Way",hasDict:=MC,slotNames:=[],subclasses:=[],abstract:=MD,collection:=MB,hasDel:=MD }),slots:=(List.toArray [MB,MB,(MA (.str "Way" 616)),(MA (.str "Way" 624)),(MA (.builtin "object.__new__")),(MA (.bool MC))]) }
def Uw:Obj:={ cls:=(.type "getset_descriptor"),data:=(.fields (List.toArray [(.str "__dict__" 699),(.ref 373),(.builtin "function.__dict__"),(.builtin "function.__dict__#set")])) }
def Uv:Obj:={ cls:=(.type "getset_descriptor"),data:=(.fields (List.toArray [(.str "__weakref__" 701),(.ref 373),(.builtin "ExceptionGroup.__weakref__"),.none])) }
def Uu:Obj:={ cls:=(.type "super"),data:=(.fields (List.toArray [(.ref 373),(.ref 373),(.ref 373)])) }
def Ut:Obj:={ cls:=(.type "builtin_function_or_method"),data:=(.fields (List.toArray [(.builtin "object.__init_subclass__"),(.ref 373)])) }
def Us(P:Jw):Obj:=Ou 57 (hE P "__name__" 165 OU::(R5 P).take 56)
def Ur:Obj:={ cls:=.none,data:=.fields (JI (O7.take 144)) }
def Uq:Obj:={ cls:=(.type "type"),data:=(.cls { name:="Way",bases:=[(.type "object")],mro:=[(.ref 373),(.type "object")],ns:=372,qualname:="Way",hasDict:=MC,slotNames:=[],subclasses:=[(.ref 407)],abstract:=MD,collection:=MB,hasDel:=MD }),slots:=(List.toArray [MB,MB,(MA (.str "Way" 616)),(MA (.str "Way" 624)),(MA (.builtin "object.__new__")),(MA (.bool MC))]) }
def Uo:Obj:=hF .none Q9 "steps_of" 0 .none .none
def Um:Obj:=NY "steps_of" "steps_of" 708 709 710 260 2 3 378 MC 379 .none .none (.ref 380) 711 712
def Ul:Obj:=NT Q9 "steps_of" (.str "spotlook.steps" 706) 381
def Uk:Obj:=hF .none Q8 "guide_of_step" 0 .none .none
def Uj:Obj:=NY "guide_of_step" "guide_of_step" 714 715 716 268 2 3 383 MC 384 .none .none (.ref 385) 717 718
def Ui:Obj:=NT Q8 "guide_of_step" (.str "spotlook.steps" 706) 386
def Uh:Obj:=NU [(.ref 373)]
def Ug(P:Jw):Obj:=Ou 6 [hE P "__module__" 727 (.str "spotlook.steps" 706),hE P "__qualname__" 729 (.str "Steps" 728),hE P "__firstlineno__" 731 (.int 271 730),hE P "__init__" 737 (.ref 399),hE P "steps" 743 (.ref 404),hE P "__static_attributes__" 747 (.ref 405)]
def Ue:Obj:=kFd [(.int 273 0),(.int 4 0),(.ref 398),(.int 281 0),(.int 4 0),(.ref 403)]
def Ud:Obj:=NY "Steps" "Steps" 722 723 724 271 0 0 391 MD 392 .none .none .none 725 726
def Uc:Obj:={ cls:=(.type "frame"),slots:=(List.toArray [(MA (.ref 393)),(MA (.ref 3)),(MA (.ref 390)),MB,(MA (.str "spotlook.steps" 706)),MB,(MA (.ref 0))]) }
def Ub:Obj:={ cls:=.none,data:=(.func (kU (kC Pm 0) "__init__" "Steps.__init__" 0 .none .none)) }
def Ua:Obj:=NY "__init__" "Steps.__init__" 732 733 734 273 2 3 395 MC 396 .none .none (.ref 397) 735 736
def U9:Obj:={ cls:=(.type "function"),data:=(.func (kU (kC Pm 0) "__init__" "Steps.__init__" 3 (.str "spotlook.steps" 706) (.ref 398))) }
def U8:Obj:={ cls:=.none,data:=(.func (kU (kC Pm 1) "steps" "Steps.steps" 0 .none .none)) }
def U7:Obj:=NY "steps" "Steps.steps" 738 739 740 281 1 3 400 MC 401 .none .none (.ref 402) 741 742
def U6:Obj:={ cls:=(.type "function"),data:=(.func (kU (kC Pm 1) "steps" "Steps.steps" 3 (.str "spotlook.steps" 706) (.ref 403))) }
def U5:Obj:=NU [(.str "guide" 744),(.str "most_looks" 745),(.str "step_rows" 746)]
def U4(P:Jw):Obj:=Ou 2 [hE P "__module__" 727 (.str "spotlook.steps" 706),hE P "__firstlineno__" 731 (.int 271 730),hE P "__init__" 737 (.ref 399),hE P "steps" 743 (.ref 404),hE P "__static_attributes__" 747 (.ref 405),hE P "__doc__" 748 .none]
def U3:Obj:={ cls:=(.type "type"),data:=(.cls { name:="Steps",bases:=[(.ref 373)],mro:=[(.ref 407),(.ref 373),(.type "object")],ns:=406,qualname:="Steps",hasDict:=MC,slotNames:=[],subclasses:=[],abstract:=MD,collection:=MB,hasDel:=MD }),slots:=(List.toArray [(MA (.ref 388)),MB,(MA (.str "Steps" 720)),(MA (.str "Steps" 728)),(MA (.builtin "object.__new__")),(MA (.bool MC))]) }
def U1:Obj:={ cls:=(.type "super"),data:=(.fields (List.toArray [(.ref 407),(.ref 407),(.ref 407)])) }
def U0:Obj:={ cls:=(.type "builtin_function_or_method"),data:=(.fields (List.toArray [(.builtin "object.__init_subclass__"),(.ref 407)])) }
def UW:Obj:=NU [(.str "_law_script" 756),(.str "_law_k" 757),(.str "_law_cell" 758)]
def UU:Obj:=hF .none Q7 "_law_pot" 0 .none .none
def UT:Obj:=hC "_law_pot" 753 754 755 760 410 411 412 413 414 284 2 0 0 3 181 759 284 MC
def US:Obj:=NT Q7 "_law_pot" OU 415
def UR(P:Jw):Obj:=Ou 70 (hE P "__name__" 165 OU::(R5 P).take 69)
def UQ:Obj:={ cls:=.none,data:=.fields (JI (O7.take 183)) }
def UP:Obj:=NU [(.str "_law_pot_here" 765),(.str "_law_size" 766),(.str "_law_digit" 767),(.str "_law_mixed" 768)]
def UO:Obj:=hF .none Q6 "_law_take" 0 .none .none
def UN:Obj:=hC "_law_take" 762 763 764 770 417 418 419 420 421 289 2 0 0 3 181 769 289 MC
def UM:Obj:=NT Q6 "_law_take" OU 422
def UL:Obj:=NU [(.str "_law_shut" 775),(.str "_law_spot" 776),(.str "_law_a" 777),(.str "_law_b" 778),(.str "_law_c" 779),(.str "_law_d" 780),(.str "_law_way" 781)]
def UK:Obj:=hF .none Q5 "_law_side" 0 .none .none
def UJ:Obj:=hC "_law_side" 772 773 774 783 424 425 426 427 428 298 2 0 0 3 181 782 298 MC
def UI:Obj:=NT Q5 "_law_side" OU 429
def UH:Obj:=NU [(.str "_law_shut" 788),(.str "_law_spot" 789)]
def UG:Obj:=hF .none Q4 "_law_on" 0 .none .none
def UE:Obj:=hC "_law_on" 785 786 787 791 431 432 433 434 435 303 2 0 0 3 181 790 303 MC
def UD:Obj:=NT Q4 "_law_on" OU 436
def UC:Obj:=NU [(.str "_law_one" 796),(.str "_law_other" 797),(.str "_law_shut" 798),(.str "_law_ends" 799),(.str "_law_spot" 800),(.str "_law_both" 801)]
def UA:Obj:=hF .none Q3 "_law_apart" 0 .none .none
def Tz:Obj:=hC "_law_apart" 793 794 795 803 438 439 440 441 442 305 2 0 0 3 181 802 305 MC
def Tw:Obj:=NT Q3 "_law_apart" OU 443
def Tv:Obj:=NU [(.str "_law_pot_here" 808),(.str "_law_wide" 809)]
def Tu:Obj:=hF .none Q2 "_law_new_spot" 0 .none .none
def Tt:Obj:=hC "_law_new_spot" 805 806 807 811 445 446 447 448 449 312 2 0 0 3 181 810 312 MC
def Ts:Obj:=NT Q2 "_law_new_spot" OU 450
def Tr:Obj:=NU [(.str "_law_pot_here" 816),(.str "_law_shuts" 817),(.str "_law_wide" 818)]
def Tq:Obj:=hF .none Q1 "_law_some_spot" 0 .none .none
def Tp:Obj:=hC "_law_some_spot" 813 814 815 820 452 453 454 455 456 314 3 0 0 3 181 819 314 MC
def To:Obj:=NT Q1 "_law_some_spot" OU 457
def Tn:Obj:=NU [(.str "_law_pot_here" 825),(.str "_law_wide" 826),(.str "_law_x" 827),(.str "_law_y" 828),(.str "_law_far" 829)]
def Tj:Obj:=hF .none Q0 "_law_square" 0 .none .none
def Ti:Obj:=hC "_law_square" 822 823 824 831 459 460 461 462 463 318 2 0 0 3 181 830 318 MC
def Th:Obj:=NT Q0 "_law_square" OU 464
def Tf:Obj:=hF .none QZ "_law_laid" 0 .none .none
def Te:Obj:=NY "_law_laid" "_law_laid" 833 834 835 324 3 3 466 MC 467 .none .none (.ref 468) 836 837
def Td:Obj:=NT QZ "_law_laid" OU 469
def Tc:Obj:=hF .none QY "_law_shuts_here" 0 .none .none
def Ta:Obj:=NY "_law_shuts_here" "_law_shuts_here" 839 840 841 329 2 3 471 MC 472 .none .none (.ref 473) 842 843
def T9:Obj:=NT QY "_law_shuts_here" OU 474
def T8:Obj:=NU [(.str "_law_top" 848),(.str "_law_bottom" 849),(.str "_law_one" 850),(.str "_law_other" 851)]
def T7:Obj:=hF .none QX "_law_frac" 0 .none .none
def T6:Obj:=hC "_law_frac" 845 846 847 853 476 477 478 479 480 341 2 0 0 3 181 852 341 MC
def T5:Obj:=NT QX "_law_frac" OU 481
def T4:Obj:=hF .none QW "_law_frame" 0 .none .none
def T3:Obj:=NY "_law_frame" "_law_frame" 855 856 857 347 2 3 483 MC 484 .none .none (.ref 485) 858 859
def T1:Obj:=NT QW "_law_frame" OU 486
def TZ:Obj:=NU [(.str "_law_frame_here" 864),(.str "_law_spot" 865),(.str "_law_p" 866),(.str "_law_q" 867),(.str "_law_s" 868),(.str "_law_t" 869)]
def TY:Obj:=hF .none QV "_law_given" 0 .none .none
def TX:Obj:=hC "_law_given" 861 862 863 871 488 489 490 491 492 356 2 0 0 3 181 870 356 MC
def TV:Obj:=NT QV "_law_given" OU 493
def TU:Obj:=hF .none QU "_law_plot" 0 .none .none
def TR:Obj:=NY "_law_plot" "_law_plot" 873 874 875 359 2 3 495 MC 496 .none .none (.ref 497) 876 877
def TQ:Obj:=NT QU "_law_plot" OU 498
def TN(P:Jw):Obj:=Ou 77 (hE P "__name__" 165 OU::(R5 P).take 76)
def TM:Obj:={ cls:=.none,data:=.fields (JI (O7.take 204)) }
def TL:Obj:=hF .none QT "_law_corners" 0 .none .none
def TK:Obj:=NY "_law_corners" "_law_corners" 879 880 881 361 1 3 500 MC 501 .none .none (.ref 502) 882 883
def TJ:Obj:=NT QT "_law_corners" OU 503
def TH:Obj:=NU [(.str "_law_shut" 888),(.str "_law_x" 889),(.str "_law_a" 890),(.str "_law_b" 891),(.str "_law_c" 892),(.str "_law_d" 893)]
def TF:Obj:=hF .none QS "_law_height" 0 .none .none
def TC:Obj:=hC "_law_height" 885 886 887 895 505 506 507 508 509 366 2 0 0 3 181 894 366 MC
def TB:Obj:=NT QS "_law_height" OU 510
def Sz:Obj:=hF .none QR "_law_higher" 0 .none .none
def Sy:Obj:=NY "_law_higher" "_law_higher" 897 898 899 372 3 3 512 MC 513 .none .none (.ref 514) 900 901
def Sx:Obj:=NT QR "_law_higher" OU 515
def Sw:Obj:=hF .none QP "_law_stack" 0 .none .none
def Sv:Obj:=NY "_law_stack" "_law_stack" 903 904 905 380 2 3 517 MC 518 .none .none (.ref 519) 906 907
def Su:Obj:=NT QP "_law_stack" OU 520
def Ss:Obj:=NU [(.str "_law_found" 912),(.str "_law_due" 913)]
def Sr:Obj:=hF .none QO "_law_same" 0 .none .none
def Sq:Obj:=hC "_law_same" 909 910 911 915 522 523 524 525 526 387 2 0 0 3 181 914 387 MC
def So:Obj:=NT QO "_law_same" OU 527
def Sn:Obj:=hF .none QN "_law_squares" 0 .none .none
def Sm:Obj:=NY "_law_squares" "_law_squares" 917 918 919 389 2 3 529 MC 530 .none .none (.ref 531) 920 921
def Sl:Obj:=NT QN "_law_squares" OU 532
def Sk:Obj:=hF .none QM "law" 0 .none .none
def Sj:Obj:=NY "law" "law" 923 924 925 400 1 3 534 MC 535 .none .none (.ref 536) 926 927
def Si:Obj:=NT QM "law" OU 537
def oL0(P:Jw):List Obj:=[PySem.W.boot_o_0 P,PySem.W.boot_o_1 P,PySem.W.boot_o_2 P,PySem.W.boot_o_3 P,PySem.W.boot_o_4 P,PySem.W.boot_o_5 P,PySem.W.boot_o_6 P,PySem.W.boot_o_7 P,PySem.W.boot_o_8 P,PySem.W.boot_o_9 P,PySem.W.boot_o_10 P,Zb,Za,Z9,Z8,Z7 P]
def oL1(P:Jw):List Obj:=[Z6,Z5,Z4,Z3,Z0,ZZ,ZY,ZX P,ZW,ZV,ZU P,ZT,ZS,ZR,ZQ,ZP P]
def oL2(P:Jw):List Obj:=[ZO,ZN,ZM,ZL P,ZK,ZJ,ZI P,ZH,ZG,ZF,ZE,ZD,ZC,ZA,Yz,Yy]
def oL3(P:Jw):List Obj:=[Yx,Yw,Yv,Yu,Yt,Ys,Yr,Yq,Yp,Yo,Yn,Ym,Yl,Yk,Yj P,Yi]
def oL4(P:Jw):List Obj:=[Yh,Yg,Yf,Ye,Yd,Yc,Yb,Ya,Y9,Y8,Y7,Y6,Y5,Y4,Y3,Y2]
def oL5(P:Jw):List Obj:=[Y1,Y0,YZ,YY,YX,YW,YV,YU,YT,YS,YR,YQ,YO,YN,YM,YL]
def oL6(P:Jw):List Obj:=[YK,YJ,YI,YH,X3,X2,X1,X0,XZ,XY,XX,XW,XU,XT,XS,XR]
def oL7(P:Jw):List Obj:=[XQ P,XO,XN,XM,XJ,XI,XH,XG,XF,XE,XD,XC,XB,XA,Wz,Wy]
def oL8(P:Jw):List Obj:=[Wx,Ww,Wv,Wu,Wt,Ws,Wr,Wq,Wo,Wn,Wm,Wk,Wj,Wi,Wh,Wg]
def oL9(P:Jw):List Obj:=[Wf,We,Wd,Wc,Wb,Wa,W9,W8,W7,W5,W0,WZ,WY,WX,WW,WV]
def Zn(P:Jw):List Obj:=[WU P,WT,WS,WR,WQ,WO,WN,WM,WL,WK,WJ,WI,WH,WG,WE,WD]
def Zm(P:Jw):List Obj:=[WC,WB,WA,Vz,Vy,Vx,Vw,Vv,Vu,Vt,Vs,Vr,Vq,Vp,Vo,Vn]
def Zl(P:Jw):List Obj:=[Vm,Vl,Vk,Vj,Vi,Vh,Vg,Vf,Ve,Vd,Vb,Va P,V9,V8 P,V7,V6]
def Zk(P:Jw):List Obj:=[V5,V4,V3,V2,V1,V0,VZ,VY,VX,VW,VU,VT,VS,VR,VQ,VP]
def Zj(P:Jw):List Obj:=[VO,VN,VM,VL,VJ,VI,VG,VF,VE,VD,VC,VB,VA,Uz,Uy P,Ux]
def Zi(P:Jw):List Obj:=[Uw,Uv,Uu,Ut,Us P,Ur,Uq,Uo,Um,Ul,Uk,Uj,Ui,Uh,Ug P,Ue]
def Zh(P:Jw):List Obj:=[Ud,Uc,Ub,Ua,U9,U8,U7,U6,U5,U4 P,U3,U1,U0,UW,UU,UT]
def Zg(P:Jw):List Obj:=[US,UR P,UQ,UP,UO,UN,UM,UL,UK,UJ,UI,UH,UG,UE,UD,UC]
def Zf(P:Jw):List Obj:=[UA,Tz,Tw,Tv,Tu,Tt,Ts,Tr,Tq,Tp,To,Tn,Tj,Ti,Th,Tf]
def Ze(P:Jw):List Obj:=[Te,Td,Tc,Ta,T9,T8,T7,T6,T5,T4,T3,T1,TZ,TY,TX,TV]
def Zd(P:Jw):List Obj:=[TU,TR,TQ,TN P,TM,TL,TK,TJ,TH,TF,TC,TB,Sz,Sy,Sx,Sw]
def Zc(P:Jw):List Obj:=[Sv,Su,Ss,Sr,Sq,So,Sn,Sm,Sl,Sk,Sj,Si]
def fA(c i:Nat)(P:Jw):Obj:=(([oL0 P,oL1 P,oL2 P,oL3 P,oL4 P,oL5 P,oL6 P,oL7 P,oL8 P,oL9 P,Zn P,Zm P,Zl P,Zk P,Zj P,Zi P,Zh P,Zg P,Zf P,Ze P,Zd P,Zc P]:List (List Obj)).getD c []).getD i { cls:=.none }
def tW0(n:Nat->Jr->Jr->Jr)(e:Jr):Jr:=(λm:Nat->Jr=>(n 0 (n 1 (n 3 (m 7) (m 11)) (n 5 (m 9) (m 13))) (n 2 (n 4 (m 8) (m 12)) (n 6 (m 10) (m 14))))) λa=>n a e e
def tX0(f:Nat->Nat->Jw->Obj)(P:Jw):Jr:=tW0 (λk=>.node (f (k/16) (k%16) P)) .nil
def tW1(n:Nat->Jr->Jr->Jr)(e:Jr):Jr:=(λm:Nat->Jr=>(n 0 (n 1 (n 15 (n 7 (n 11 (m 27) e) (m 22)) (n 11 (m 18) (m 24))) (n 5 (n 9 (n 17 (m 29) e) (m 11)) (n 13 (m 20) (m 11)))) (n 2 (n 4 (n 8 (n 12 (m 28) e) (m 23)) (n 16 (m 19) (m 25))) (n 6 (n 10 (n 11 (m 30) e) (m 12)) (n 14 (m 21) (m 26)))))) λa=>n a e e
def tX1(f:Nat->Nat->Jw->Obj)(P:Jw):Jr:=tW1 (λk=>.node (f (k/16) (k%16) P)) .nil
def tW2(n:Nat->Jr->Jr->Jr)(e:Jr):Jr:=(λm:Nat->Jr=>(n 0 (n 1 (n 31 (n 7 (n 11 (n 33 (m 50) e) (n 11 (m 59) e)) (n 22 (n 12 (m 11) e) (m 12))) (n 11 (n 18 (n 34 (m 53) e) (m 43)) (n 24 (n 38 (m 11) e) (m 48)))) (n 5 (n 9 (n 17 (n 29 (m 51) e) (n 42 (m 61) e)) (n 11 (n 37 (m 56) e) (m 11))) (n 13 (n 20 (n 35 (m 12) e) (m 45)) (n 11 (n 40 (m 58) e) (m 11))))) (n 2 (n 4 (n 8 (n 12 (n 28 (m 11) e) (n 12 (m 60) e)) (n 23 (n 36 (m 55) e) (m 46))) (n 32 (n 19 (n 22 (m 11) e) (m 44)) (n 25 (n 39 (m 12) e) (m 49)))) (n 6 (n 10 (n 11 (n 30 (m 52) e) (m 11)) (n 12 (n 11 (m 57) e) (m 47))) (n 14 (n 21 (n 11 (m 54) e) (m 11)) (n 26 (n 41 (m 11) e) (m 12))))))) λa=>n a e e
def tX2(f:Nat->Nat->Jw->Obj)(P:Jw):Jr:=tW2 (λk=>.node (f (k/16) (k%16) P)) .nil
def tW3(n:Nat->Jr->Jr->Jr)(e:Jr):Jr:=(λm:Nat->Jr=>(n 0 (n 1 (n 62 (n 7 (n 11 (n 33 (n 50 (m 11) e) (n 71 (m 11) e)) (n 11 (n 59 (m 98) e) (m 12))) (n 22 (n 12 (n 11 (m 93) e) (m 11)) (n 12 (n 66 (m 103) e) (m 84)))) (n 11 (n 18 (n 34 (n 53 (m 11) e) (n 11 (m 109) e)) (n 43 (n 12 (m 100) e) (m 82))) (n 24 (n 38 (n 11 (m 12) e) (m 77)) (n 48 (n 68 (m 11) e) (m 87))))) (n 5 (n 9 (n 17 (n 29 (n 51 (m 90) e) (n 12 (m 108) e)) (n 42 (n 61 (m 11) e) (m 11))) (n 11 (n 37 (n 56 (m 95) e) (m 76)) (n 11 (n 11 (m 12) e) (m 85)))) (n 13 (n 20 (n 35 (n 12 (m 92) e) (n 74 (m 111) e)) (n 45 (n 11 (m 101) e) (m 11))) (n 11 (n 40 (n 58 (m 11) e) (m 79)) (n 11 (n 69 (m 106) e) (m 12)))))) (n 2 (n 4 (n 8 (n 12 (n 28 (n 11 (m 89) e) (n 11 (m 12) e)) (n 12 (n 60 (m 99) e) (m 80))) (n 23 (n 36 (n 55 (m 94) e) (m 12)) (n 46 (n 67 (m 11) e) (m 11)))) (n 63 (n 19 (n 22 (n 11 (m 12) e) (n 73 (m 110) e)) (n 44 (n 64 (m 11) e) (m 83))) (n 25 (n 39 (n 12 (m 96) e) (m 78)) (n 49 (n 11 (m 105) e) (m 11))))) (n 6 (n 10 (n 11 (n 30 (n 52 (m 91) e) (n 72 (m 11) e)) (n 11 (n 11 (m 12) e) (m 81))) (n 12 (n 11 (n 57 (m 11) e) (m 11)) (n 47 (n 12 (m 104) e) (m 86)))) (n 14 (n 21 (n 11 (n 54 (m 11) e) (m 75)) (n 11 (n 65 (m 102) e) (m 12))) (n 26 (n 41 (n 11 (m 97) e) (m 11)) (n 12 (n 70 (m 107) e) (m 88)))))))) λa=>n a e e
def tX3(f:Nat->Nat->Jw->Obj)(P:Jw):Jr:=tW3 (λk=>.node (f (k/16) (k%16) P)) .nil
def tW4(n:Nat->Jr->Jr->Jr)(e:Jr):Jr:=(λm:Nat->Jr=>(n 0 (n 1 (n 112 (n 7 (n 11 (n 33 (n 50 (m 11) (m 12)) (n 71 (m 11) (m 147))) (n 11 (n 59 (m 98) (m 11)) (n 12 (m 119) (m 156)))) (n 22 (n 12 (n 11 (m 93) (m 133)) (n 11 (m 12) (m 152))) (n 12 (n 66 (m 103) (m 142)) (n 84 (m 124) e)))) (n 11 (n 18 (n 34 (n 53 (m 11) (m 131)) (n 11 (m 109) (m 149))) (n 43 (n 12 (m 100) (m 11)) (n 82 (m 12) (m 159)))) (n 24 (n 38 (n 11 (m 12) (m 136)) (n 77 (m 11) (m 154))) (n 48 (n 68 (m 11) (m 12)) (n 87 (m 126) e))))) (n 5 (n 9 (n 17 (n 29 (n 51 (m 90) (m 11)) (n 12 (m 108) (m 11))) (n 42 (n 61 (m 11) (m 139)) (n 11 (m 121) (m 157)))) (n 11 (n 37 (n 56 (m 95) (m 134)) (n 76 (m 115) (m 12))) (n 11 (n 11 (m 12) (m 144)) (n 85 (m 11) e)))) (n 13 (n 20 (n 35 (n 12 (m 92) (m 11)) (n 74 (m 111) (m 150))) (n 45 (n 11 (m 101) (m 141)) (n 11 (m 11) e))) (n 11 (n 40 (n 58 (m 11) (m 12)) (n 79 (m 117) (m 11))) (n 11 (n 69 (m 106) (m 11)) (n 12 (m 128) e)))))) (n 2 (n 4 (n 8 (n 12 (n 28 (n 11 (m 89) (m 129)) (n 11 (m 12) (m 148))) (n 12 (n 60 (m 99) (m 138)) (n 80 (m 120) (m 11)))) (n 23 (n 36 (n 55 (m 94) (m 11)) (n 12 (m 114) (m 11))) (n 46 (n 67 (m 11) (m 143)) (n 11 (m 125) e)))) (n 113 (n 19 (n 22 (n 11 (m 12) (m 132)) (n 73 (m 110) (m 11))) (n 44 (n 64 (m 11) (m 12)) (n 83 (m 122) e))) (n 25 (n 39 (n 12 (m 96) (m 11)) (n 78 (m 12) (m 155))) (n 49 (n 11 (m 105) (m 145)) (n 11 (m 127) e))))) (n 6 (n 10 (n 11 (n 30 (n 52 (m 91) (m 130)) (n 72 (m 11) (m 12))) (n 11 (n 11 (m 12) (m 140)) (n 81 (m 11) (m 158)))) (n 12 (n 11 (n 57 (m 11) (m 135)) (n 11 (m 116) (m 153))) (n 47 (n 12 (m 104) (m 11)) (n 86 (m 12) e)))) (n 14 (n 21 (n 11 (n 54 (m 11) (m 12)) (n 75 (m 11) (m 151))) (n 11 (n 65 (m 102) (m 11)) (n 12 (m 123) e))) (n 26 (n 41 (n 11 (m 97) (m 137)) (n 11 (m 118) (m 12))) (n 12 (n 70 (m 107) (m 146)) (n 88 (m 11) e)))))))) λa=>n a e e
def tX4(f:Nat->Nat->Jw->Obj)(P:Jw):Jr:=tW4 (λk=>.node (f (k/16) (k%16) P)) .nil
def tW5(n:Nat->Jr->Jr->Jr)(e:Jr):Jr:=(λm:Nat->Jr=>(n 0 (n 1 (n 160 (n 7 (n 11 (n 33 (n 50 (n 11 (m 167) e) (m 12)) (n 71 (n 11 (m 11) e) (m 147))) (n 11 (n 59 (n 98 (m 11) e) (m 11)) (n 12 (n 119 (m 195) e) (m 156)))) (n 22 (n 12 (n 11 (n 93 (m 11) e) (m 133)) (n 11 (n 12 (m 12) e) (m 152))) (n 12 (n 66 (n 103 (m 182) e) (m 142)) (n 84 (n 124 (m 11) e) (m 11))))) (n 11 (n 18 (n 34 (n 53 (n 11 (m 12) e) (m 131)) (n 11 (n 109 (m 188) e) (m 149))) (n 43 (n 12 (n 100 (m 11) e) (m 11)) (n 82 (n 12 (m 198) e) (m 159)))) (n 24 (n 38 (n 11 (n 12 (m 175) e) (m 136)) (n 77 (n 11 (m 193) e) (m 154))) (n 48 (n 68 (n 11 (m 11) e) (m 12)) (n 87 (m 126) (m 11)))))) (n 5 (n 9 (n 17 (n 29 (n 51 (n 90 (m 169) e) (m 11)) (n 12 (n 108 (m 187) e) (m 11))) (n 42 (n 61 (n 11 (m 178) e) (m 139)) (n 11 (n 121 (m 196) e) (m 157)))) (n 11 (n 37 (n 56 (n 95 (m 173) e) (m 134)) (n 76 (n 115 (m 11) e) (m 12))) (n 11 (n 11 (n 12 (m 12) e) (m 144)) (n 85 (n 11 (m 201) e) (m 164))))) (n 13 (n 20 (n 35 (n 12 (n 92 (m 171) e) (m 11)) (n 74 (n 111 (m 190) e) (m 150))) (n 45 (n 11 (n 101 (m 180) e) (m 141)) (n 11 (n 11 (m 12) e) (m 12)))) (n 11 (n 40 (n 58 (n 11 (m 12) e) (m 12)) (n 79 (n 117 (m 11) e) (m 11))) (n 11 (n 69 (n 106 (m 185) e) (m 11)) (n 12 (m 128) (m 166))))))) (n 2 (n 4 (n 8 (n 12 (n 28 (n 11 (n 89 (m 168) e) (m 129)) (n 11 (n 12 (m 12) e) (m 148))) (n 12 (n 60 (n 99 (m 177) e) (m 138)) (n 80 (n 120 (m 11) e) (m 11)))) (n 23 (n 36 (n 55 (n 94 (m 12) e) (m 11)) (n 12 (n 114 (m 191) e) (m 11))) (n 46 (n 67 (n 11 (m 11) e) (m 143)) (n 11 (n 125 (m 200) e) (m 163))))) (n 161 (n 19 (n 22 (n 11 (n 12 (m 170) e) (m 132)) (n 73 (n 110 (m 189) e) (m 11))) (n 44 (n 64 (n 11 (m 12) e) (m 12)) (n 83 (n 122 (m 11) e) (m 11)))) (n 25 (n 39 (n 12 (n 96 (m 11) e) (m 11)) (n 78 (n 12 (m 194) e) (m 155))) (n 49 (n 11 (n 105 (m 184) e) (m 145)) (n 11 (m 127) (m 12)))))) (n 6 (n 10 (n 11 (n 30 (n 52 (n 91 (m 11) e) (m 130)) (n 72 (n 11 (m 11) e) (m 12))) (n 11 (n 11 (n 12 (m 179) e) (m 140)) (n 81 (n 11 (m 197) e) (m 158)))) (n 12 (n 11 (n 57 (n 11 (m 174) e) (m 135)) (n 11 (n 116 (m 192) e) (m 153))) (n 47 (n 12 (n 104 (m 183) e) (m 11)) (n 86 (n 12 (m 202) e) (m 165))))) (n 14 (n 21 (n 11 (n 54 (n 11 (m 172) e) (m 12)) (n 75 (n 11 (m 11) e) (m 151))) (n 11 (n 65 (n 102 (m 181) e) (m 11)) (n 12 (n 123 (m 199) e) (m 162)))) (n 26 (n 41 (n 11 (n 97 (m 176) e) (m 137)) (n 11 (n 118 (m 12) e) (m 12))) (n 12 (n 70 (n 107 (m 186) e) (m 146)) (n 88 (m 11) (m 11))))))))) λa=>n a e e
def tX5(f:Nat->Nat->Jw->Obj)(P:Jw):Jr:=tW5 (λk=>.node (f (k/16) (k%16) P)) .nil
def tW6(n:Nat->Jr->Jr->Jr)(e:Jr):Jr:=(λm:Nat->Jr=>(n 0 (n 1 (n 203 (n 7 (n 11 (n 33 (n 50 (n 11 (m 167) e) (n 12 (m 206) e)) (n 71 (n 11 (m 11) e) (n 147 (m 12) e))) (n 11 (n 59 (n 98 (m 11) e) (n 11 (m 216) e)) (n 12 (n 119 (m 195) e) (n 156 (m 11) e)))) (n 22 (n 12 (n 11 (n 93 (m 11) e) (n 133 (m 211) e)) (n 11 (n 12 (m 12) e) (n 152 (m 229) e))) (n 12 (n 66 (n 103 (m 182) e) (n 142 (m 11) e)) (n 84 (n 124 (m 11) e) (n 11 (m 241) e))))) (n 11 (n 18 (n 34 (n 53 (n 11 (m 12) e) (n 131 (m 12) e)) (n 11 (n 109 (m 188) e) (n 149 (m 227) e))) (n 43 (n 12 (n 100 (m 11) e) (n 11 (m 11) e)) (n 82 (n 12 (m 198) e) (n 159 (m 237) e)))) (n 24 (n 38 (n 11 (n 12 (m 175) e) (n 136 (m 213) e)) (n 77 (n 11 (m 193) e) (n 154 (m 232) e))) (n 48 (n 68 (n 11 (m 11) e) (n 12 (m 222) e)) (n 87 (n 126 (m 11) e) (m 11)))))) (n 5 (n 9 (n 17 (n 29 (n 51 (n 90 (m 169) e) (n 11 (m 208) e)) (n 12 (n 108 (m 187) e) (n 11 (m 11) e))) (n 42 (n 61 (n 11 (m 178) e) (n 139 (m 12) e)) (n 11 (n 121 (m 196) e) (n 157 (m 235) e)))) (n 11 (n 37 (n 56 (n 95 (m 173) e) (n 134 (m 11) e)) (n 76 (n 115 (m 11) e) (n 12 (m 230) e))) (n 11 (n 11 (n 12 (m 12) e) (n 144 (m 221) e)) (n 85 (n 11 (m 201) e) (n 164 (m 243) e))))) (n 13 (n 20 (n 35 (n 12 (n 92 (m 171) e) (n 11 (m 11) e)) (n 74 (n 111 (m 190) e) (n 150 (m 11) e))) (n 45 (n 11 (n 101 (m 180) e) (n 141 (m 219) e)) (n 11 (n 11 (m 12) e) (n 12 (m 239) e)))) (n 11 (n 40 (n 58 (n 11 (m 12) e) (n 12 (m 214) e)) (n 79 (n 117 (m 11) e) (n 11 (m 12) e))) (n 11 (n 69 (n 106 (m 185) e) (n 11 (m 224) e)) (n 12 (n 128 (m 205) e) (m 166))))))) (n 2 (n 4 (n 8 (n 12 (n 28 (n 11 (n 89 (m 168) e) (n 129 (m 207) e)) (n 11 (n 12 (m 12) e) (n 148 (m 225) e))) (n 12 (n 60 (n 99 (m 177) e) (n 138 (m 11) e)) (n 80 (n 120 (m 11) e) (n 11 (m 234) e)))) (n 23 (n 36 (n 55 (n 94 (m 12) e) (n 11 (m 212) e)) (n 12 (n 114 (m 191) e) (n 11 (m 11) e))) (n 46 (n 67 (n 11 (m 11) e) (n 143 (m 12) e)) (n 11 (n 125 (m 200) e) (n 163 (m 242) e))))) (n 204 (n 19 (n 22 (n 11 (n 12 (m 170) e) (n 132 (m 209) e)) (n 73 (n 110 (m 189) e) (n 11 (m 228) e))) (n 44 (n 64 (n 11 (m 12) e) (n 12 (m 218) e)) (n 83 (n 122 (m 11) e) (n 11 (m 238) e)))) (n 25 (n 39 (n 12 (n 96 (m 11) e) (n 11 (m 11) e)) (n 78 (n 12 (m 194) e) (n 155 (m 11) e))) (n 49 (n 11 (n 105 (m 184) e) (n 145 (m 223) e)) (n 11 (n 127 (m 22) e) (m 12)))))) (n 6 (n 10 (n 11 (n 30 (n 52 (n 91 (m 11) e) (n 130 (m 11) e)) (n 72 (n 11 (m 11) e) (n 12 (m 226) e))) (n 11 (n 11 (n 12 (m 179) e) (n 140 (m 217) e)) (n 81 (n 11 (m 197) e) (n 158 (m 236) e)))) (n 12 (n 11 (n 57 (n 11 (m 174) e) (n 135 (m 12) e)) (n 11 (n 116 (m 192) e) (n 153 (m 231) e))) (n 47 (n 12 (n 104 (m 183) e) (n 11 (m 11) e)) (n 86 (n 12 (m 202) e) (m 165))))) (n 14 (n 21 (n 11 (n 54 (n 11 (m 172) e) (n 12 (m 210) e)) (n 75 (n 11 (m 11) e) (n 151 (m 12) e))) (n 11 (n 65 (n 102 (m 181) e) (n 11 (m 220) e)) (n 12 (n 123 (m 199) e) (n 162 (m 240) e)))) (n 26 (n 41 (n 11 (n 97 (m 176) e) (n 137 (m 215) e)) (n 11 (n 118 (m 12) e) (n 12 (m 233) e))) (n 12 (n 70 (n 107 (m 186) e) (n 146 (m 11) e)) (n 88 (n 11 (m 11) e) (m 11))))))))) λa=>n a e e
def tX6(f:Nat->Nat->Jw->Obj)(P:Jw):Jr:=tW6 (λk=>.node (f (k/16) (k%16) P)) .nil
def tW7(n:Nat->Jr->Jr->Jr)(e:Jr):Jr:=(λm:Nat->Jr=>(n 0 (n 1 (n 244 (n 7 (n 11 (n 33 (n 50 (n 11 (m 167) (m 11)) (n 12 (m 206) e)) (n 71 (n 11 (m 11) (m 271)) (n 147 (m 12) e))) (n 11 (n 59 (n 98 (m 11) (m 260)) (n 11 (m 216) e)) (n 12 (n 119 (m 195) e) (n 156 (m 11) e)))) (n 22 (n 12 (n 11 (n 93 (m 11) (m 11)) (n 133 (m 211) e)) (n 11 (n 12 (m 12) e) (n 152 (m 229) e))) (n 12 (n 66 (n 103 (m 182) (m 266)) (n 142 (m 11) e)) (n 84 (n 124 (m 11) e) (n 11 (m 241) e))))) (n 11 (n 18 (n 34 (n 53 (n 11 (m 12) (m 252)) (n 131 (m 12) e)) (n 11 (n 109 (m 188) e) (n 149 (m 227) e))) (n 43 (n 12 (n 100 (m 11) (m 262)) (n 11 (m 11) e)) (n 82 (n 12 (m 198) e) (n 159 (m 237) e)))) (n 24 (n 38 (n 11 (n 12 (m 175) (m 11)) (n 136 (m 213) e)) (n 77 (n 11 (m 193) e) (n 154 (m 232) e))) (n 48 (n 68 (n 11 (m 11) (m 12)) (n 12 (m 222) e)) (n 87 (n 126 (m 11) e) (n 11 (m 12) e)))))) (n 5 (n 9 (n 17 (n 29 (n 51 (n 90 (m 169) (m 250)) (n 11 (m 208) e)) (n 12 (n 108 (m 187) e) (n 11 (m 11) e))) (n 42 (n 61 (n 11 (m 178) (m 12)) (n 139 (m 12) e)) (n 11 (n 121 (m 196) e) (n 157 (m 235) e)))) (n 11 (n 37 (n 56 (n 95 (m 173) (m 256)) (n 134 (m 11) e)) (n 76 (n 115 (m 11) e) (n 12 (m 230) e))) (n 11 (n 11 (n 12 (m 12) (m 268)) (n 144 (m 221) e)) (n 85 (n 11 (m 201) e) (n 164 (m 243) e))))) (n 13 (n 20 (n 35 (n 12 (n 92 (m 171) (m 22)) (n 11 (m 11) e)) (n 74 (n 111 (m 190) e) (n 150 (m 11) e))) (n 45 (n 11 (n 101 (m 180) (m 264)) (n 141 (m 219) e)) (n 11 (n 11 (m 12) e) (n 12 (m 246) e)))) (n 11 (n 40 (n 58 (n 11 (m 12) (m 258)) (n 12 (m 214) e)) (n 79 (n 117 (m 11) e) (n 11 (m 12) e))) (n 11 (n 69 (n 106 (m 185) (m 11)) (n 11 (m 224) e)) (n 12 (n 128 (m 205) e) (n 166 (m 248) e))))))) (n 2 (n 4 (n 8 (n 12 (n 28 (n 11 (n 89 (m 168) (m 12)) (n 129 (m 207) e)) (n 11 (n 12 (m 12) (m 272)) (n 148 (m 225) e))) (n 12 (n 60 (n 99 (m 177) (m 11)) (n 138 (m 11) e)) (n 80 (n 120 (m 11) e) (n 11 (m 234) e)))) (n 23 (n 36 (n 55 (n 94 (m 12) (m 255)) (n 11 (m 212) e)) (n 12 (n 114 (m 191) e) (n 11 (m 11) e))) (n 46 (n 67 (n 11 (m 11) (m 267)) (n 143 (m 12) e)) (n 11 (n 125 (m 200) e) (n 163 (m 242) e))))) (n 245 (n 19 (n 22 (n 11 (n 12 (m 170) (m 253)) (n 132 (m 209) e)) (n 73 (n 110 (m 189) e) (n 11 (m 228) e))) (n 44 (n 64 (n 11 (m 12) (m 263)) (n 12 (m 218) e)) (n 83 (n 122 (m 11) e) (n 11 (m 238) e)))) (n 25 (n 39 (n 12 (n 96 (m 11) (m 12)) (n 11 (m 11) e)) (n 78 (n 12 (m 194) e) (n 155 (m 11) e))) (n 49 (n 11 (n 105 (m 184) (m 269)) (n 145 (m 223) e)) (n 11 (n 127 (m 22) e) (n 12 (m 247) e)))))) (n 6 (n 10 (n 11 (n 30 (n 52 (n 91 (m 11) (m 251)) (n 130 (m 11) e)) (n 72 (n 11 (m 11) e) (n 12 (m 226) e))) (n 11 (n 11 (n 12 (m 179) (m 261)) (n 140 (m 217) e)) (n 81 (n 11 (m 197) e) (n 158 (m 236) e)))) (n 12 (n 11 (n 57 (n 11 (m 174) (m 257)) (n 135 (m 12) e)) (n 11 (n 116 (m 192) e) (n 153 (m 231) e))) (n 47 (n 12 (n 104 (m 183) (m 11)) (n 11 (m 11) e)) (n 86 (n 12 (m 202) e) (n 165 (m 11) e))))) (n 14 (n 21 (n 11 (n 54 (n 11 (m 172) (m 254)) (n 12 (m 210) e)) (n 75 (n 11 (m 11) e) (n 151 (m 12) e))) (n 11 (n 65 (n 102 (m 181) (m 265)) (n 11 (m 220) e)) (n 12 (n 123 (m 199) e) (n 162 (m 240) e)))) (n 26 (n 41 (n 11 (n 97 (m 176) (m 259)) (n 137 (m 215) e)) (n 11 (n 118 (m 12) e) (n 12 (m 233) e))) (n 12 (n 70 (n 107 (m 186) (m 270)) (n 146 (m 11) e)) (n 88 (n 11 (m 11) e) (n 11 (m 249) e))))))))) λa=>n a e e
def tX7(f:Nat->Nat->Jw->Obj)(P:Jw):Jr:=tW7 (λk=>.node (f (k/16) (k%16) P)) .nil
def tW8(n:Nat->Jr->Jr->Jr)(e:Jr):Jr:=(λm:Nat->Jr=>(n 0 (n 1 (n 273 (n 7 (n 11 (n 33 (n 50 (n 11 (m 167) (m 11)) (n 12 (m 206) (m 291))) (n 71 (n 11 (m 11) (m 271)) (n 147 (m 12) (m 11)))) (n 11 (n 59 (n 98 (m 11) (m 260)) (n 11 (m 216) (m 300))) (n 12 (n 119 (m 195) (m 11)) (n 156 (m 11) (m 11))))) (n 22 (n 12 (n 11 (n 93 (m 11) (m 11)) (n 133 (m 211) (m 11))) (n 11 (n 12 (m 12) (m 278)) (n 152 (m 229) (m 315)))) (n 12 (n 66 (n 103 (m 182) (m 266)) (n 142 (m 11) (m 11))) (n 84 (n 124 (m 11) (m 12)) (n 11 (m 241) e))))) (n 11 (n 18 (n 34 (n 53 (n 11 (m 12) (m 252)) (n 131 (m 12) (m 294))) (n 11 (n 109 (m 188) (m 275)) (n 149 (m 227) (m 11)))) (n 43 (n 12 (n 100 (m 11) (m 262)) (n 11 (m 11) (m 12))) (n 82 (n 12 (m 198) (m 284)) (n 159 (m 237) (m 322))))) (n 24 (n 38 (n 11 (n 12 (m 175) (m 11)) (n 136 (m 213) (m 11))) (n 77 (n 11 (m 193) (m 11)) (n 154 (m 232) (m 11)))) (n 48 (n 68 (n 11 (m 11) (m 12)) (n 12 (m 222) (m 308))) (n 87 (n 126 (m 11) (m 289)) (n 11 (m 12) e)))))) (n 5 (n 9 (n 17 (n 29 (n 51 (n 90 (m 169) (m 250)) (n 11 (m 208) (m 292))) (n 12 (n 108 (m 187) (m 11)) (n 11 (m 11) (m 311)))) (n 42 (n 61 (n 11 (m 178) (m 12)) (n 139 (m 12) (m 302))) (n 11 (n 121 (m 196) (m 283)) (n 157 (m 235) (m 320))))) (n 11 (n 37 (n 56 (n 95 (m 173) (m 256)) (n 134 (m 11) (m 297))) (n 76 (n 115 (m 11) (m 12)) (n 12 (m 230) (m 12)))) (n 11 (n 11 (n 12 (m 12) (m 268)) (n 144 (m 221) (m 306))) (n 85 (n 11 (m 201) (m 11)) (n 164 (m 243) e))))) (n 13 (n 20 (n 35 (n 12 (n 92 (m 171) (m 22)) (n 11 (m 11) (m 12))) (n 74 (n 111 (m 190) (m 276)) (n 150 (m 11) (m 313)))) (n 45 (n 11 (n 101 (m 180) (m 264)) (n 141 (m 219) (m 304))) (n 11 (n 11 (m 12) (m 286)) (n 12 (m 246) e)))) (n 11 (n 40 (n 58 (n 11 (m 12) (m 258)) (n 12 (m 214) (m 299))) (n 79 (n 117 (m 11) (m 281)) (n 11 (m 12) (m 318)))) (n 11 (n 69 (n 106 (m 185) (m 11)) (n 11 (m 224) (m 12))) (n 12 (n 128 (m 205) (m 11)) (n 166 (m 248) e))))))) (n 2 (n 4 (n 8 (n 12 (n 28 (n 11 (n 89 (m 168) (m 12)) (n 129 (m 207) (m 11))) (n 11 (n 12 (m 12) (m 272)) (n 148 (m 225) (m 310)))) (n 12 (n 60 (n 99 (m 177) (m 11)) (n 138 (m 11) (m 301))) (n 80 (n 120 (m 11) (m 12)) (n 11 (m 234) (m 12))))) (n 23 (n 36 (n 55 (n 94 (m 12) (m 255)) (n 11 (m 212) (m 296))) (n 12 (n 114 (m 191) (m 11)) (n 11 (m 11) (m 11)))) (n 46 (n 67 (n 11 (m 11) (m 267)) (n 143 (m 12) (m 12))) (n 11 (n 125 (m 200) (m 287)) (n 163 (m 242) e))))) (n 274 (n 19 (n 22 (n 11 (n 12 (m 170) (m 253)) (n 132 (m 209) (m 11))) (n 73 (n 110 (m 189) (m 11)) (n 11 (m 228) (m 12)))) (n 44 (n 64 (n 11 (m 12) (m 263)) (n 12 (m 218) (m 303))) (n 83 (n 122 (m 11) (m 285)) (n 11 (m 238) e)))) (n 25 (n 39 (n 12 (n 96 (m 11) (m 12)) (n 11 (m 11) (m 12))) (n 78 (n 12 (m 194) (m 280)) (n 155 (m 11) (m 317)))) (n 49 (n 11 (n 105 (m 184) (m 269)) (n 145 (m 223) (m 11))) (n 11 (n 127 (m 22) (m 290)) (n 12 (m 247) e)))))) (n 6 (n 10 (n 11 (n 30 (n 52 (n 91 (m 11) (m 251)) (n 130 (m 11) (m 293))) (n 72 (n 11 (m 11) (m 12)) (n 12 (m 226) (m 312)))) (n 11 (n 11 (n 12 (m 179) (m 261)) (n 140 (m 217) (m 11))) (n 81 (n 11 (m 197) (m 11)) (n 158 (m 236) (m 321))))) (n 12 (n 11 (n 57 (n 11 (m 174) (m 257)) (n 135 (m 12) (m 298))) (n 11 (n 116 (m 192) (m 279)) (n 153 (m 231) (m 316)))) (n 47 (n 12 (n 104 (m 183) (m 11)) (n 11 (m 11) (m 307))) (n 86 (n 12 (m 202) (m 288)) (n 165 (m 11) e))))) (n 14 (n 21 (n 11 (n 54 (n 11 (m 172) (m 254)) (n 12 (m 210) (m 295))) (n 75 (n 11 (m 11) (m 277)) (n 151 (m 12) (m 314)))) (n 11 (n 65 (n 102 (m 181) (m 265)) (n 11 (m 220) (m 305))) (n 12 (n 123 (m 199) (m 11)) (n 162 (m 240) e)))) (n 26 (n 41 (n 11 (n 97 (m 176) (m 259)) (n 137 (m 215) (m 11))) (n 11 (n 118 (m 12) (m 282)) (n 12 (m 233) (m 319)))) (n 12 (n 70 (n 107 (m 186) (m 270)) (n 146 (m 11) (m 309))) (n 88 (n 11 (m 11) (m 12)) (n 11 (m 249) e))))))))) λa=>n a e e
def tX8(f:Nat->Nat->Jw->Obj)(P:Jw):Jr:=tW8 (λk=>.node (f (k/16) (k%16) P)) .nil
def tW9(n:Nat->Jr->Jr->Jr)(e:Jr):Jr:=(λm:Nat->Jr=>(n 0 (n 1 (n 323 (n 7 (n 11 (n 33 (n 50 (n 11 (n 167 (m 331) e) (m 11)) (n 12 (m 206) (m 291))) (n 71 (n 11 (m 11) (m 271)) (n 147 (m 12) (m 11)))) (n 11 (n 59 (n 98 (n 11 (m 340) e) (m 260)) (n 11 (m 216) (m 300))) (n 12 (n 119 (m 195) (m 11)) (n 156 (m 11) (m 11))))) (n 22 (n 12 (n 11 (n 93 (n 11 (m 335) e) (m 11)) (n 133 (m 211) (m 11))) (n 11 (n 12 (m 12) (m 278)) (n 152 (m 229) (m 315)))) (n 12 (n 66 (n 103 (n 182 (m 12) e) (m 266)) (n 142 (m 11) (m 11))) (n 84 (n 124 (m 11) (m 12)) (n 11 (m 241) (m 326)))))) (n 11 (n 18 (n 34 (n 53 (n 11 (n 12 (m 333) e) (m 252)) (n 131 (m 12) (m 294))) (n 11 (n 109 (m 188) (m 275)) (n 149 (m 227) (m 11)))) (n 43 (n 12 (n 100 (n 11 (m 342) e) (m 262)) (n 11 (m 11) (m 12))) (n 82 (n 12 (m 198) (m 284)) (n 159 (m 237) (m 322))))) (n 24 (n 38 (n 11 (n 12 (n 175 (m 12) e) (m 11)) (n 136 (m 213) (m 11))) (n 77 (n 11 (m 193) (m 11)) (n 154 (m 232) (m 11)))) (n 48 (n 68 (n 11 (m 11) (m 12)) (n 12 (m 222) (m 308))) (n 87 (n 126 (m 11) (m 289)) (n 11 (m 12) (m 328))))))) (n 5 (n 9 (n 17 (n 29 (n 51 (n 90 (n 169 (m 12) e) (m 250)) (n 11 (m 208) (m 292))) (n 12 (n 108 (m 187) (m 11)) (n 11 (m 11) (m 311)))) (n 42 (n 61 (n 11 (n 178 (m 11) e) (m 12)) (n 139 (m 12) (m 302))) (n 11 (n 121 (m 196) (m 283)) (n 157 (m 235) (m 320))))) (n 11 (n 37 (n 56 (n 95 (n 173 (m 337) e) (m 256)) (n 134 (m 11) (m 297))) (n 76 (n 115 (m 11) (m 12)) (n 12 (m 230) (m 12)))) (n 11 (n 11 (n 12 (n 12 (m 346) e) (m 268)) (n 144 (m 221) (m 306))) (n 85 (n 11 (m 201) (m 11)) (n 164 (m 243) (m 11)))))) (n 13 (n 20 (n 35 (n 12 (n 92 (n 171 (m 11) e) (m 22)) (n 11 (m 11) (m 12))) (n 74 (n 111 (m 190) (m 276)) (n 150 (m 11) (m 313)))) (n 45 (n 11 (n 101 (n 180 (m 344) e) (m 264)) (n 141 (m 219) (m 304))) (n 11 (n 11 (m 12) (m 286)) (n 12 (m 246) (m 12))))) (n 11 (n 40 (n 58 (n 11 (n 12 (m 11) e) (m 258)) (n 12 (m 214) (m 299))) (n 79 (n 117 (m 11) (m 281)) (n 11 (m 12) (m 318)))) (n 11 (n 69 (n 106 (m 185) (m 11)) (n 11 (m 224) (m 12))) (n 12 (n 128 (m 205) (m 11)) (n 166 (m 248) (m 329)))))))) (n 2 (n 4 (n 8 (n 12 (n 28 (n 11 (n 89 (n 168 (m 11) e) (m 12)) (n 129 (m 207) (m 11))) (n 11 (n 12 (m 12) (m 272)) (n 148 (m 225) (m 310)))) (n 12 (n 60 (n 99 (n 177 (m 341) e) (m 11)) (n 138 (m 11) (m 301))) (n 80 (n 120 (m 11) (m 12)) (n 11 (m 234) (m 12))))) (n 23 (n 36 (n 55 (n 94 (n 12 (m 336) e) (m 255)) (n 11 (m 212) (m 296))) (n 12 (n 114 (m 191) (m 11)) (n 11 (m 11) (m 11)))) (n 46 (n 67 (n 11 (n 11 (m 345) e) (m 267)) (n 143 (m 12) (m 12))) (n 11 (n 125 (m 200) (m 287)) (n 163 (m 242) (m 327)))))) (n 324 (n 19 (n 22 (n 11 (n 12 (n 170 (m 334) e) (m 253)) (n 132 (m 209) (m 11))) (n 73 (n 110 (m 189) (m 11)) (n 11 (m 228) (m 12)))) (n 44 (n 64 (n 11 (n 12 (m 343) e) (m 263)) (n 12 (m 218) (m 303))) (n 83 (n 122 (m 11) (m 285)) (n 11 (m 238) (m 11))))) (n 25 (n 39 (n 12 (n 96 (n 11 (m 338) e) (m 12)) (n 11 (m 11) (m 12))) (n 78 (n 12 (m 194) (m 280)) (n 155 (m 11) (m 317)))) (n 49 (n 11 (n 105 (m 184) (m 269)) (n 145 (m 223) (m 11))) (n 11 (n 127 (m 22) (m 290)) (n 12 (m 247) (m 11))))))) (n 6 (n 10 (n 11 (n 30 (n 52 (n 91 (n 11 (m 332) e) (m 251)) (n 130 (m 11) (m 293))) (n 72 (n 11 (m 11) (m 12)) (n 12 (m 226) (m 312)))) (n 11 (n 11 (n 12 (n 179 (m 12) e) (m 261)) (n 140 (m 217) (m 11))) (n 81 (n 11 (m 197) (m 11)) (n 158 (m 236) (m 321))))) (n 12 (n 11 (n 57 (n 11 (n 174 (m 11) e) (m 257)) (n 135 (m 12) (m 298))) (n 11 (n 116 (m 192) (m 279)) (n 153 (m 231) (m 316)))) (n 47 (n 12 (n 104 (n 183 (m 347) e) (m 11)) (n 11 (m 11) (m 307))) (n 86 (n 12 (m 202) (m 288)) (n 165 (m 11) (m 12)))))) (n 14 (n 21 (n 11 (n 54 (n 11 (n 172 (m 12) e) (m 254)) (n 12 (m 210) (m 295))) (n 75 (n 11 (m 11) (m 277)) (n 151 (m 12) (m 314)))) (n 11 (n 65 (n 102 (n 181 (m 11) e) (m 265)) (n 11 (m 220) (m 305))) (n 12 (n 123 (m 199) (m 11)) (n 162 (m 240) (m 325))))) (n 26 (n 41 (n 11 (n 97 (n 176 (m 339) e) (m 259)) (n 137 (m 215) (m 11))) (n 11 (n 118 (m 12) (m 282)) (n 12 (m 233) (m 319)))) (n 12 (n 70 (n 107 (m 186) (m 270)) (n 146 (m 11) (m 309))) (n 88 (n 11 (m 11) (m 12)) (n 11 (m 249) (m 330)))))))))) λa=>n a e e
def tX9(f:Nat->Nat->Jw->Obj)(P:Jw):Jr:=tW9 (λk=>.node (f (k/16) (k%16) P)) .nil
def hX0(f:Nat->Nat->Jw->Obj)(P:Jw):pq:=(λg:Nat->Obj=>(#[⟨[g 0,g 1,g 2,g 3,g 4,g 5,g 6,g 7,g 8,g 9,g 10,g 11,g 12,g 13,g 14]⟩,{}]:pq)) λk=>f (k/16) (k%16) P
def hX1(f:Nat->Nat->Jw->Obj)(P:Jw):pq:=(λg:Nat->Obj=>(#[⟨[g 0,g 1,g 2,g 323,g 4,g 5,g 6,g 7,g 8,g 9,g 10,g 11,g 324,g 13,g 14,g 11,g 12,g 17,g 11,g 18,g 19,g 20,g 21,g 22,g 23,g 11,g 12,g 24,g 25,g 11,g 26,g 33,g 28,g 29,g 30,g 34,g 22,g 35,g 11,g 12,g 36,g 37,g 11,g 38,g 39,g 40,g 41,g 11,g 12,g 42,g 11,g 43,g 44,g 45,g 11,g 12,g 46,g 11,g 47,g 48,g 49,g 11,g 12,g 50,g 11,g 51,g 52,g 53,g 11,g 12,g 54,g 11,g 55,g 56,g 57,g 11,g 12,g 58,g 11,g 59,g 60,g 61,g 11,g 12,g 64,g 11,g 65,g 66,g 67,g 11,g 12,g 68,g 11,g 69,g 70,g 71,g 11,g 12,g 72,g 11,g 73,g 74,g 75,g 11,g 12,g 76,g 11,g 77,g 78,g 79,g 11,g 12,g 80,g 11,g 81,g 82,g 83,g 11,g 12,g 84,g 11,g 85,g 86,g 87,g 11,g 12,g 88,g 11,g 89,g 90,g 91,g 11,g 12,g 92,g 11,g 93,g 94,g 95,g 11,g 12,g 96,g 11,g 97,g 98,g 99,g 11,g 12,g 100,g 11,g 101,g 102,g 103,g 11,g 12,g 104,g 11,g 105,g 106,g 107,g 11,g 12,g 108,g 11,g 109,g 110,g 111,g 11,g 12,g 114,g 115,g 116,g 11,g 12,g 117,g 118,g 119,g 120,g 121,g 11,g 12,g 122,g 11,g 123,g 124,g 125,g 11,g 12,g 126,g 127,g 128,g 11,g 12,g 129,g 11,g 130,g 131,g 132,g 11,g 12,g 133,g 11,g 134,g 135,g 136,g 11,g 12,g 137,g 11,g 138,g 139,g 140,g 11,g 12,g 141,g 11,g 142,g 143,g 144,g 11,g 12,g 145,g 11,g 146,g 147,g 148,g 11,g 12,g 149,g 11,g 150,g 151,g 152,g 11,g 12,g 153,g 154,g 155,g 11,g 12,g 156,g 11,g 157,g 158,g 159,g 11,g 12,g 162,g 11,g 163,g 164,g 165,g 11,g 12,g 166,g 11,g 167,g 168,g 169,g 11,g 12,g 170,g 171,g 172,g 11,g 12,g 173,g 174,g 175,g 11,g 12,g 176,g 11,g 177,g 178,g 179,g 11,g 12,g 180,g 181,g 182,g 11,g 12,g 183,g 11,g 184,g 185,g 186,g 11,g 12,g 187,g 11,g 188,g 189,g 190,g 11,g 12,g 191,g 11,g 192,g 193,g 194,g 11,g 12,g 195,g 11,g 196,g 197,g 198,g 11,g 12,g 199,g 11,g 200,g 201,g 202,g 11,g 22,g 205,g 11,g 206,g 207,g 208,g 11,g 12,g 209,g 11,g 210,g 211,g 212,g 11,g 12,g 213,g 11,g 214,g 215,g 216,g 11,g 12,g 217,g 11,g 218,g 219,g 220,g 11,g 12,g 221,g 11,g 222,g 223,g 224,g 11,g 12,g 225,g 11,g 226,g 227,g 228,g 11,g 12,g 229,g 11,g 230,g 231,g 232,g 11,g 12,g 233,g 11,g 234,g 235,g 236,g 237,g 238,g 246,g 240,g 241,g 242,g 243,g 11,g 12,g 247,g 248,g 249,g 11,g 12,g 250,g 251,g 252,g 253,g 22,g 254,g 11,g 255,g 256,g 257,g 11,g 12,g 258,g 259,g 260,g 11,g 12,g 261,g 262,g 263,g 264,g 265,g 266,g 267,g 268,g 11,g 12,g 269,g 11,g 270,g 271,g 272,g 11,g 12,g 275,g 11,g 276,g 277,g 278,g 11,g 12,g 279,g 11,g 280,g 281,g 282,g 11,g 12,g 283,g 11,g 284,g 285,g 286,g 11,g 12,g 287,g 11,g 288,g 289,g 290,g 11,g 12,g 291,g 11,g 292,g 293,g 294,g 11,g 12,g 295,g 11,g 296,g 297,g 298,g 11,g 12,g 299,g 11,g 300,g 301,g 302,g 11,g 12,g 303,g 304,g 305,g 11,g 12,g 306,g 307,g 308,g 11,g 12,g 309,g 11,g 310,g 311,g 312,g 11,g 12,g 313,g 314,g 315,g 11,g 12,g 316,g 11,g 317,g 318,g 319,g 11,g 12,g 320,g 321,g 322,g 11,g 12,g 325,g 326,g 327,g 11,g 12,g 328,g 11,g 329,g 330,g 331,g 11,g 12,g 332,g 333,g 334,g 11,g 12,g 335,g 336,g 337,g 11,g 12,g 338,g 11,g 339,g 340,g 341,g 11,g 12,g 342,g 343,g 344,g 11,g 12,g 345,g 346,g 347]⟩,{}]:pq)) λk=>f (k/16) (k%16) P
def laid:(λ(_:Ju) (_:Ju) (_:Nat->Nat->Jw->Obj) (_:ri) (_:ri) (_:ri) (_:ri) (_:ri) (_:ri) (_:ri) (_:ri) (_:ri)=>MC) pw2 vw fA sx0 sx1 sx2 sx3 sx4 sx5 sx6 sx7 sx8=MC:=by k_qdec
end QQ
namespace PySem.W.Fast
def tw8729909101860008043:Ju:=tw4061903402435717205
theorem te8729909101860008043:K5=tw8729909101860008043:=Eq.trans (by kernel_rfl:K5=QQ.pw2) te4061903402435717205
def tw13869813358388157237:Ju:=tw2543460329597916322
theorem te13869813358388157237:QQ.vw=tw13869813358388157237:=te2543460329597916322
def tw10073456710730319417:ri:=tw4220349153739756805
theorem te10073456710730319417:QQ.sx0=tw10073456710730319417:=te4220349153739756805
def tw13444330036477644945:ri:=tw11397161696757032129
theorem te13444330036477644945:QQ.sx1=tw13444330036477644945:=te11397161696757032129
def tw11150300931646028825:ri:=tw10303515436491237874
theorem te11150300931646028825:QQ.sx2=tw11150300931646028825:=te10303515436491237874
def tw14928812927795492460:ri:=tw12358083906500975388
theorem te14928812927795492460:QQ.sx3=tw14928812927795492460:=te12358083906500975388
def tw5158937800190863782:ri:=tw2861187580803015100
theorem te5158937800190863782:QQ.sx4=tw5158937800190863782:=te2861187580803015100
def tw3325202095642132103:ri:=tw9932084693255007381
theorem te3325202095642132103:QQ.sx5=tw3325202095642132103:=te9932084693255007381
def tw17931843505200176364:ri:=tw1890974291257386441
theorem te17931843505200176364:QQ.sx6=tw17931843505200176364:=te1890974291257386441
def tw5534742103136368492:ri:=tw11967835380637100291
theorem te5534742103136368492:QQ.sx7=tw5534742103136368492:=te11967835380637100291
def tw3264774162625673890:ri:=tw17779941298030502338
theorem te3264774162625673890:QQ.sx8=tw3264774162625673890:=te17779941298030502338
def tw8010988091443125978:Jw->BT:=QQ.tX0 tw16523235828492288951
theorem te8010988091443125978:QQ.tX0 QQ.fA=tw8010988091443125978:=congrArg QQ.tX0 te16523235828492288951
def tw6570113748160831300:Jw->BT:=QQ.tX1 tw16523235828492288951
theorem te6570113748160831300:QQ.tX1 QQ.fA=tw6570113748160831300:=congrArg QQ.tX1 te16523235828492288951
def tw12232536459667399808:Jw->BT:=QQ.tX2 tw16523235828492288951
theorem te12232536459667399808:QQ.tX2 QQ.fA=tw12232536459667399808:=congrArg QQ.tX2 te16523235828492288951
def tw14959892259385573247:Jw->BT:=QQ.tX3 tw16523235828492288951
theorem te14959892259385573247:QQ.tX3 QQ.fA=tw14959892259385573247:=congrArg QQ.tX3 te16523235828492288951
def tw4079181955688109377:Jw->BT:=QQ.tX4 tw16523235828492288951
theorem te4079181955688109377:QQ.tX4 QQ.fA=tw4079181955688109377:=congrArg QQ.tX4 te16523235828492288951
def tw9593497356454237848:Jw->BT:=QQ.tX5 tw16523235828492288951
theorem te9593497356454237848:QQ.tX5 QQ.fA=tw9593497356454237848:=congrArg QQ.tX5 te16523235828492288951
def tw1159210447418614505:Jw->BT:=QQ.tX6 tw16523235828492288951
theorem te1159210447418614505:QQ.tX6 QQ.fA=tw1159210447418614505:=congrArg QQ.tX6 te16523235828492288951
def tw3259789622830431092:Jw->BT:=QQ.tX7 tw16523235828492288951
theorem te3259789622830431092:QQ.tX7 QQ.fA=tw3259789622830431092:=congrArg QQ.tX7 te16523235828492288951
def tw3533051785586368917:Jw->BT:=QQ.tX8 tw16523235828492288951
theorem te3533051785586368917:QQ.tX8 QQ.fA=tw3533051785586368917:=congrArg QQ.tX8 te16523235828492288951
def tw9670176711853919991:Jw->BT:=QQ.tX9 tw16523235828492288951
theorem te9670176711853919991:QQ.tX9 QQ.fA=tw9670176711853919991:=congrArg QQ.tX9 te16523235828492288951
def tw16891986545015989224:Jw->PySem.Heap:=QQ.hX0 tw16523235828492288951
theorem te16891986545015989224:QQ.hX0 QQ.fA=tw16891986545015989224:=congrArg QQ.hX0 te16523235828492288951
def tw7194252878139856079:Jw->PySem.Heap:=QQ.hX1 tw16523235828492288951
theorem te7194252878139856079:QQ.hX1 QQ.fA=tw7194252878139856079:=congrArg QQ.hX1 te16523235828492288951
end PySem.W.Fast
end
open PySem PySem.W PyProof.Rows
set_option maxRecDepth 100000 in
set_option maxHeartbeats 0 in
theorem PySem.Challenge.cw_spotlook_k32_steps_rows_holds : PySem.Challenge.rw_spotlook_k32_steps_rows.Holds := by
 w_on;o_law;o_head (PySem.W.kmHook QQ.kK [!2,!3,!4,!20,!21,!30,!31,!43,!44,!52,!53,!59,!60,!66,!67,!73,!74,!80,!81,!87,!88,!94,!95,!101,!102,!108,!109,!115,!116,!122,!123,!129,!130,!136,!137,!143,!144,!150,!151,!157,!158,!164,!165,!169,!170,!176,!177,!183,!184,!188,!189,!195,!196,!202,!203,!209,!210,!216,!217,!223,!224,!230,!231,!235,!236,!242,!243,!249,!250,!256,!257,!261,!262,!266,!267,!273,!274,!278,!279,!285,!286,!292,!293,!299,!300,!306,!307,!313,!314,!327,!328,!334,!335,!341,!342,!348,!349,!355,!356,!362,!363,!369,!370,!372,!373,!381,!382,!386,!387,!398,!399,!403,!404,!406,!407,!415,!416,!422,!423,!429,!430,!436,!437,!443,!444,!450,!451,!457,!458,!464,!465,!469,!470,!474,!475,!481,!482,!486,!487,!493,!494,!498,!499,!503,!504,!510,!511,!515,!516,!520,!521,!527,!528,!532,!533,!537,!538] (λ_=>by kernel_rfl) [172]);(case hw=>w_witness2)
 k_fill
 refine SD.vO (Pt:=172) (c0:=176) (k:=13) (x:="_law_script") (sp:=QQ.jB) (l:=PySem.Challenge.rw_spotlook_k32_steps_rows) rfl rfl #[5,⋯,⋯,rfl] (λw h Y=>PySem.W.km_in_of Y) (λw h Y=>PySem.W.km_tabs_of Y _ (_)) (λw=>by kernel_rfl) (λw=>by kernel_rfl) ?F QQ.EM
 case F=>
  intro w mg fa h KX G hmg
  let fc_lowest_first:SD.v7 (L2.KOf KX) mg "lowest_first" QQ.bQ 176:=by
   dsimp only[L2.KOf]
   refine' SD.v7.mk KX G ?a ?l ?c ?k
   (case a=>k_is);(case l=>k_is);(case c=>k_is);(case k=>k_is)
  let lm:SD.Mk (L2.KOf KX) mg 176 172:=by
   dsimp only[L2.KOf]
   refine' SD.Gv KX G (by kernel_rfl) ?a ?l ?b ?c ?d ?e ?f
   (case a=>k_is);(case l=>k_is);(case b=>decide);(case c=>decide);(case d=>rfl);(case e=>rfl);(case f=>rfl)
  let oD:SD.vY (L2.KOf KX) (SD.cl (L2.KOf KX) "Steps") "steps" "Steps.steps" QQ.fq:=by
   dsimp only[L2.KOf]
   refine' SD.vY.mk ?a ?b ?e ?l ?d ?k
   (case a=>k_is);(case b=>k_is);(case e=>k_is);(case l=>k_is);(case d=>k_is);(case k=>k_is)
  let o_:SD.wL (L2.KOf KX) mg "Way" "__init__" "Way.__init__" QQ.eB:=by
   dsimp only[L2.KOf]
   refine' SD.wL.mk KX G ?a ?b ?e ?r ?l ?d ?k
   (case a=>k_is);(case b=>k_is);(case e=>k_is);(case r=>k_is);(case l=>k_is);(case d=>k_is);(case k=>k_is)
  let pa:SD.nY (L2.KOf KX) mg "Steps" (SD.cl (L2.KOf KX) "Steps") "Steps.__init__" QQ.dn:=by
   dsimp only[L2.KOf]
   refine' SD.nY.mk KX G ?a ?m ?b ?e ?kc ?l ?d ?k
   (case a=>k_is);(case m=>k_is);(case b=>k_is);(case e=>k_is);(case kc=>k_is);(case l=>k_is);(case d=>k_is);(case k=>k_is)
  let cl_Steps:L2.Cls (L2.KOf KX) (SD.cl (L2.KOf KX) "Steps"):=by
   dsimp only[L2.KOf]
   refine' SD.Em ?a ?pg ?hd ?po ?sa
   (case a=>k_is);(case pg=>k_is);(case hd=>k_is);(case po=>k_is);(case sa=>k_is)
  refine QQ.Hn ⟨?_,?_,?_,?_,?_,?_,?_,?_,?_,?_,?_,?_,?_,?_,?_,?_,?_,?_,?_,?_,?_,?_,?_,?_,?_,?_,?_,?_,?_,?_,?_,?_,?_,?_,?_,?_,?_,?_,?_,?_,?_,?_,?_,?_,?_,?_,?_,?_,?_,?_,?_,?_,?_,?_,?_,?_,?_,?_,?_,?_,?_,fc_lowest_first,lm,?_,?_,?_,?_,?_,?_,?_,?_,?_,?_,?_,?_,oD,o_,pa,cl_Steps,?_,?_,?_,?_,?_⟩ hmg
  all_goals first|((try dsimp only[L2.KOf]);refine' SD.Txt.mk KX G ?a ?l ?c ?k;(case a=>k_is);(case l=>k_is);(case c=>k_is);(case k=>k_is))|(refine' Km KX G ?a;(case a=>k_is))|((try dsimp only[L2.KOf]);refine' SD.qE ?a ?h;(case a=>k_is);(case h=>k_is))
