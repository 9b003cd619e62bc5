import PyProof.Rows.All
import Wide.All
import OpenK.AllK
import Wide.FinOn
import Lean
import PyProof.EqAt
import PyProof.EqKinds
import PyProof.TupleCall
import PySem.Challenge.RW_spotlook_k36_layers_rows
noncomputable section
local macro_rules|`(#[$xs,*])=>do
  let a:=xs.getElems
  if a.size<2 then Lean.Macro.throwUnsupported
  let mut r:Array Lean.Term:=#[]
  for x in a do
    match x with
    |`(7)=>r:=(r.push (← `(_))).push (← `(rfl))
    |_=>r:=r.push x
  `(⟨$r,*⟩)
local macro_rules|`(tactic|let [$xs,*]:=$e)=>do
  let r←xs.getElems.mapM fun x=>match x with
    |`(_)=>`(Lean.Parser.Tactic.rcasesPatLo|_)
    |`($i:ident)=>`(Lean.Parser.Tactic.rcasesPatLo|$i:ident)
    |_=>Lean.Macro.throwUnsupported
  `(tactic|obtain ⟨$r,*⟩:=$e)
local macro_rules|`(tactic|exists $xs,*)=>do
  let r:=xs.getElems.push (← `(?_))
  `(tactic|refine #[$r,*])
local macro_rules|`(def $n $s:optDeclSig $v:declVal)=>`(noncomputable def $n $s:optDeclSig $v)
open Option renaming some->KJ
open Option renaming none->KL
open Bool renaming true->KN
open Bool renaming false->KO
theorem KP{c:Prop}{d:Decidable c}(h:¬c){a:Sort _}{x y:a}:(if c then x else y)=y:=if_neg h
theorem KQ{c:Prop}{d:Decidable c}(h:c){a:Sort _}{x y:a}:(if c then x else y)=x:=if_pos h
theorem KR{p:Prop}[Decidable p](h:¬p):decide p=false:=decide_eq_false h
theorem KS{p:Prop}[Decidable p](h:p):decide p=true:=decide_eq_true h
theorem KU{p q:Prop}{_:Decidable p}{_:Decidable q}:(decide p=decide q)=(p↔q):=propext decide_eq_decide
local macro_rules|`(())=>`(by omega)
local macro_rules|`(‹$x›)=>`(by simpa using $x)
local macro_rules|`(⋯)=>`(by first|decide|walk_at "sc")
local macro_rules | `(tactic| omega) => `(tactic| lia)
open Array renaming length_toList->IW
open Bool renaming false_ne_true->Ib,false_eq_true->J1,and_eq_true->Ji
open False renaming elim->Ic
open ForInStep renaming yield->K9
open Int renaming sign->Ie,lt_trichotomy->Ih,mul_neg_of_pos_of_neg->Ii,mul_pos->Ij,sign_eq_neg_one_of_neg->Ir,mul_neg_of_neg_of_pos->IC,sign_eq_one_of_pos->IE,fdiv_eq_ediv_of_nonneg->IK,le_of_lt->IL,mul_pos_of_neg_of_neg->IP,toNat_natCast->Ju,le_of_eq->Kd,mul_nonneg->Kj,mul_le_mul->Kz,ofNat->KA
open List renaming length_map->Hw,getElem?_eq_getElem->Hy,getElem?_eq_some_iff->HC,mem_of_getElem?->HE,getElem?_map->HF,map_cons->HI,range->HK,size_toArray->HL,mem_append->HX,mem_append_right->Ia,toArray->Il,replicate->Im,length_cons->Io,find?_cons->Iq,map_append->Iu,mem_filter->Iw,getElem?_append_right->Iz,getElem?_append_left->IB,mem_cons->II,length_append->IJ,pairwise_iff_getElem->IQ,getElem_mem->IU,mem_map->IZ,mem_cons_of_mem->J6,mem_singleton->J8,map_map->Jb,lookup_cons->Jj,getD_eq_getElem?_getD->Jk,map_nil->Jm,all_eq_true->Jo,map->Jp,replicate_succ->Jq,length_take->JE,length_eq_zero_iff->JF,take_of_length_le->JN,filterMap_cons->JO,mem_of_mem_erase->JT,append_nil->K7,range_succ->Ka,map_congr_left->Kb,any_cons->Ke,range'->Kg,mem_cons_self->Ki,flatten_cons->Kp,append_assoc->Kq,nodup_append->Kr
open List.Nodup renaming mem_erase_iff->Jw
open List.Pairwise renaming imp_of_mem->K0
open Nat renaming le_refl->HD,lt_of_lt_of_le->Ig,ne_of_lt->Ip,le_trans->ID,zero_le->J3,gcd->Kl,le_of_lt->Kn,lt_irrefl->Ks
open PyProof.Rows renaming seqObj->IF,IntsAre->Jt,callWith_type1->JG,envOfC->Kv
open PySem renaming wpAny_bind->cc,Value->Hu,Shared->Hv,wpAny_pure->Hz,wpAny->HJ,starEach->HM,model->HP,wpAny_mono->HQ,sizeLine->HR,Program->HW,Params->HZ,foldedSetIterable->Ik,Around->Iv,mem_of_lookup->Iy,World->IA,compareOp->IM,mainGlobals->IS,wpAny_newObj_type->IT,bootBuiltins->J5,DictEntry->J7,cLine->J9,backTo->Jc,wpAny_loadPart'->Jd,wpAny_holding->Jg,sizeLine_eq->Jr,wpAny_standAt->Jv,Spec->JA,sysModules->JC,cellsFrom->JD,Scope->JH,wpAny_truthy_bool->JJ,codeAny->JK,letOwnedTupleGo->JP,keywordEach->JQ,binaryOp->JR,swapsWith->JU,wpAny_Call_Name_kw->JW,attributeBase->JX,wpAny_comprehension_free->JZ,NameKind->K1,wpAny_typeNameOfWhole_keyiter->K4,wpAny_callSpecial?_slot->K5,PyData->K8,wpAny_call_entry->Kh,wpAny_passesOwn->Km,bindArgs->Ko,behindInMarks->Kt,assignEach->Ku,assign->Kw,wpAny_seqItems->Ky,rawInt->KD,backToKw->KG,Builtin->KH,Paired->KI,Addr->pd,Stmt->pe,Heap->pq,Expr->pv
open PySem.Challenge renaming pw_spotlook_k36_layers_rows->IH
open PySem.F renaming slot_dict_keyiterator_next->Jy,slot_tuple_iterator_next->Kk
open PySem.Heap renaming get?_push_of_some->Hx,get?_push_size->HG,lt_size->HN,size_push->Jf,get?_update_other->Jn,SameBut->JI,get?_update_self->JS
open PySem.Heap.SameBut renaming update->J4
open PySem.NameKind renaming free->Kf
open PySem.Obj renaming mapSeq->IG
open PySem.PassesOwn renaming never->HY
open PySem.PyData renaming eqv->J0,eqvAll->Jl,depthAll->Jx,canLayAll0->JL,int->JM
open PySem.SeqAt renaming shaped->JY
open PySem.Str renaming ofString->Ja
open PySem.Value renaming ref->IY,none->JB,type->KC
open PySem.W renaming Frag->Ht,BT->HS,mg_none_of->IV,fnOf->IX,keepIn->Je,findIn->Jh,emptyDict->Js,kla_obj->Jz,codeIn->K3,instObj->K6,nsIn->Kc
open True renaming intro->JV
local macro_rules | `(↑$n:num) => `(nat_lit $n)
local macro_rules | `(!$n:num) => `(nat_lit $n)
set_option Elab.async false
set_option linter.all false
set_option maxRecDepth 100000
set_option maxHeartbeats 4000000
set_option allowUnsafeReducibility true
abbrev PySem.Shared.z(s:PySem.Shared):=s.heap.objs.size
abbrev _root_.rx:=List PySem.Str
abbrev _root_.rq:=List pd
abbrev _root_.ro:=List pv
abbrev _root_.ri:=List pe
abbrev _root_.rf:=Option Int
abbrev _root_.q_:=List Int
abbrev _root_.q7:=List Nat
abbrev _root_.p_:=List (q7)
abbrev _root_.p4:=List (pd×PySem.Obj)
theorem L8{n m:Nat}(h:Nat.ble n m=KN):n<=m:=Nat.le_of_ble_eq_true h
namespace L2
open PySem PySem.Spec PyProof.Rows
abbrev Key:=Sum Int Str
def nC:Key->Hu->Bool
 |.inl k,v=>Value.isInt k v
 |.inr x,v=>Value.isStrOf x v
def GL(w:IA):Key->Int
 |.inl k=>hashInt k
 |.inr x=>hashStr w x
theorem bE:∀{k:Key} {v:Hu},nC k v=KN->(∃i t,k=Sum.inl i/\v=Value.int i t)\/(∃x t,k=Sum.inr x/\v=Value.str x t)
 |.inl i,v,h=>by
  let[t,e]:=Value.isInt_shape (k:=i) (v:=v) h
  exact .inl #[i,t,rfl,e]
 |.inr x,v,h=>by
  let[t,e]:=Value.isStrOf_shape (x:=x) (v:=v) h
  exact .inr #[x,t,rfl,e]
theorem uO(i:Int)(t:Tok):nC (.inl i) (.int i t)=KN:=by simp[nC,Value.isInt]
theorem vM(x:Str)(t:Tok):nC (.inr x) (.str x t)=KN:=by simp[nC,Value.isStrOf]
theorem Dp(a b:Int):decide ((Sum.inl a:Key)=Sum.inl b)=(a==b):=by
 by_cases e:a=b
 .subst e;simp
 .have h:¬(Sum.inl a:Key)=Sum.inl b:=λq=>e (Sum.inl.inj q);rw[KR h];exact(beq_eq_false_iff_ne.mpr e).symm
theorem Ea(a b:Str):decide ((Sum.inr a:Key)=Sum.inr b)=decide (a=b):=by
 by_cases e:a=b
 .subst e;simp
 .have h:¬(Sum.inr a:Key)=Sum.inr b:=λq=>e (Sum.inr.inj q);rw[KR h,KR e]
theorem Ca(a:Int)(b:Str):decide ((Sum.inl a:Key)=Sum.inr b)=KO:=KR (λq=>nomatch q)
theorem DO(a:Str)(b:Int):decide ((Sum.inr a:Key)=Sum.inl b)=KO:=KR (λq=>nomatch q)
def b4(prog:HW)(w:IA):PySem.KeyKind prog w Key where
 is:=nC
 hash:=GL w
 inj:=λv a b d c=>by
  rcases bE d with⟨i,t,rfl,rfl⟩|⟨x,t,rfl,rfl⟩
  .rcases bE c with⟨j,u,rfl,e⟩|⟨y,u,rfl,e⟩
   .injection e with e1 _;rw[e1]
   .exact nomatch e
  .rcases bE c with⟨j,u,rfl,e⟩|⟨y,u,rfl,e⟩
   .exact nomatch e
   .injection e with e1 _;rw[e1]
 byValue:=λk v h=>by
  rcases bE h with⟨i,t,rfl,rfl⟩|⟨x,t,rfl,rfl⟩<;>rfl
 pyHash:=λhv h=>by
  rcases bE hv with⟨i,t,rfl,rfl⟩|⟨x,t,rfl,rfl⟩
  .exact wpAny_pyHash_int h
  .exact wpAny_pyHash_str h
 eqBool:=λf hv h=>by
  rcases bE f with⟨i,t,rfl,rfl⟩|⟨x,t,rfl,rfl⟩
  .rcases bE hv with⟨j,u,rfl,rfl⟩|⟨y,u,rfl,rfl⟩
   .rw[Dp]at h;exact wpAny_eqBool_int h
   .rw[Ca]at h;exact SeqAt.EqAt.int_str i t y u _ _ _ _ h
  .rcases bE hv with⟨j,u,rfl,rfl⟩|⟨y,u,rfl,rfl⟩
   .rw[DO]at h;exact SeqAt.EqAt.str_int x t j u _ _ _ _ h
   .rw[Ea]at h;exact wpAny_eqBool_str h
 «strs»:=λk x t v h=>by
  rcases bE h with⟨i,u,rfl,e⟩|⟨y,u,rfl,e⟩
  .exact nomatch e
  .injection e with e1 _
   subst e1
   cases v<;>rfl
theorem pK(prog:HW)(w:IA)(i:Int)(t:Tok):(b4 prog w).is (.inl i) (.int i t)=KN:=uO i t
theorem qq(prog:HW)(w:IA)(x:Str)(t:Tok):(b4 prog w).is (.inr x) (.str x t)=KN:=vM x t
inductive V where
 |non|bl (b:Bool)|int (i:Int)|str (x:Str)|byt (b:Array UInt8)|flt (b:UInt64)|ref (a:pd)|ty (n:String)
 deriving DecidableEq
abbrev _root_.ry:=List V
def RelV:V->Hu->Prop
 |.non,u=>u=JB
 |.bl b,u=>u=Value.bool b
 |.int i,u=>∃t,u=Value.int i t
 |.str x,u=>∃t,u=Value.str x t
 |.byt b,u=>∃t,u=Value.bytes b t
 |.flt b,u=>∃t,u=Value.float b t
 |.ref a,u=>u=IY a
 |.ty n,u=>u=KC n
abbrev Vals:ry->List Hu->Prop:=KI RelV
theorem Vals.length{xs:ry}{us:List Hu}(r:Vals xs us):xs.length=us.length:=Paired.length r
theorem Vals.get:∀{xs:ry} {us:List Hu} {i:Nat} {x:V},Vals xs us->xs[i]?=KJ x->∃u,us[i]?=KJ u/\RelV x u
 |_,_,_,_,.nil,e=>by simp at e
 |_,_,0,_,.cons r _,e=>by simp at e;subst e;exact #[7,r]
 |_,_,i+1,x,.cons _ t,e=>by
  let[u,h1,a]:=Vals.get (i:=i) (x:=x) t ‹e›
  exact #[u,‹h1›,a]
theorem Vals.set{x:V}{u:Hu}(r:RelV x u):∀{xs:ry} {us:List Hu} (i:Nat),Vals xs us->Vals (xs.set i x) (us.set i u)
 |_,_,_,.nil=>.nil
 |_,_,0,.cons _ t=>.cons r t
 |_,_,i+1,.cons q t=>.cons q (Vals.set r i t)
theorem Vals.append:∀{xs a:ry} {us ws:List Hu},Vals xs us->Vals a ws->Vals (xs++a) (us++ws):=by
 intro xs a us ws h s
 induction h with
 |nil=>exact s
 |cons r t b=>exact .cons r b
theorem Vals.take:∀{xs:ry} {us:List Hu} (n:Nat),Vals xs us->Vals (xs.take n) (us.take n)
 |_,_,0,_=>.nil
 |_,_,_+1,.nil=>.nil
 |_,_,n+1,.cons r t=>.cons r (Vals.take n t)
theorem Vals.drop:∀{xs:ry} {us:List Hu} (n:Nat),Vals xs us->Vals (xs.drop n) (us.drop n)
 |_,_,0,r=>r
 |_,_,_+1,.nil=>.nil
 |_,_,n+1,.cons _ t=>Vals.drop n t
def jb:Option V->Option Hu->Prop
 |some v,KJ u=>RelV v u
 |none,KL=>True
 |_,_=>False
def KV{a:Type}:List (a×V)->List (a×Hu)->Prop:=KI λ(p:a×V) (q:a×Hu)=>p.1=q.1/\RelV p.2 q.2
def kV:Key->V
 |.inl i=>.int i
 |.inr x=>.str x
inductive HO where
 |lst (xs:ry)
 |tup (xs:ry)
 |dK (kvs:List (Key×V))|dT (kvs:List (List Key×V))
 |set (S:Int->Bool) (n:Nat)
 |ins (C dx:pd) (fs:List (Str×V))
 |own (x:pd)
 |xd (fs:List (Str×V))
 |met (f x:pd)
 |rng (lo hi:Int)
 |frz (o:Obj) (u:HO)
 |tbl (ps:Array Hu)
 |ext (φ:pq->Prop)
abbrev Hp:=pd->Option HO
def upd(H:Hp)(a:pd)(o:HO):Hp:=λb=>if b=a then KJ o else H b
theorem aF{H:Hp}{a:pd}{o:HO}:upd H a o a=KJ o:=by unfold upd;rw[KQ rfl]
theorem aD{H:Hp}{a b:pd}{o:HO}(h:b≠a):upd H a o b=H b:=by unfold upd;rw[KP h]
theorem FH{H:Hp}{a b:pd}{o u:HO}(h:H a=KJ o)(h':H b=KJ u)(d:o≠u):a≠b:=by intro e;subst e;rw[h]at h';exact d (Option.some.inj h')
theorem d5{H:Hp}{a b:pd}{o:HO}(h:H a=KJ o)(h':H b=KL):a≠b:=by intro e;subst e;rw[h]at h';cases h'
section
variable(P:HW)(w:IA)
def Qf(h:pq)(a:pd):Prop:=∃o,h.get? a=KJ o/\o.dict=KL
theorem Qf.new(h:pq)(u:Array Hu):Qf (h.push { cls:=.type "tuple",data:=.seq u }) h.objs.size:=#[_,HG _ rfl,rfl]
def bJ(H:Hp)(h:pq)(a:pd):HO->Prop
 |.lst xs=>xs.length<=HR/\∃(b:List Hu) (n:Nat),Vals xs b/\h.get? a=KJ { cls:=.type "list",data:=.seq b.toArray n }
 |.tup xs=>xs.length<=HR/\∃b:List Hu,Vals xs b/\IsTup h a b.toArray/\Qf h a
 |.dK kvs=>kvs.length<=HR/\(a==JC)=KO/\∃vs,KV kvs vs/\h.DictOf (b4 P w) a vs
 |.dT kvs=>kvs.length<=HR/\(a==JC)=KO/\∃xs:List (List Key×pd×Hu),
  KI (λ(p:List Key×V) (q:List Key×pd×Hu)=>p.1=q.1/\H q.2.1=KJ (.tup (p.1.map kV))/\RelV p.2 q.2.2) kvs xs/\
  ∃o e i,h.get? a=KJ o/\o.ExactDict/\o.data=.dict e i/\e.toList=xs.map (entryOfKey (tupleKind (b4 P w)))/\(xs.map (·.1)).Nodup
 |.set S n=>h.SetOf (intKind P w) a S n
 |.ins C c fs=>H c=KJ (.own a)/\fs.length<=1000/\c≠a/\h.get? a=KJ (K6 C c)/\
  ∃mA,h.Ns1 c mA/\(∀f,jb (fs.lookup f) (mA f))/\PySem.Within mA (fs.map (·.1))
 |.own _=>∃o,h.get? a=KJ o
 |.xd fs=>∃mA,h.Ns1 a mA/\∀f,jb (fs.lookup f) (mA f)
 |.rng j k=>∃t u v,h.get? a=KJ { cls:=.type "range",data:=.fields (List.toArray [.int j t,.int k u,.int 1 v]) }
 |.frz o u=>h.get? a=KJ o/\bJ H h a u
 |.tbl ps=>h.get? a=KJ { cls:=.none,data:=.fields ps }
 |.met f x=>h.get? a=KJ (PySem.W.methodObj (.ref f) (.ref x))
 |.ext d=>d h/\(∃o,h.get? a=KJ o)/\∀h1 g:pq,d h1->(∀o,h1.get? a=KJ o->g.get? a=KJ o)->d g
def MU(H:Hp)(h:pq):Prop:=∀a o,H a=KJ o->bJ P w H h a o
end
section
variable{P:HW}{w:IA}{H H':Hp}{h h':pq}{a:pd}{o:HO}
theorem bJ.lt(x:bJ P w H h a o):a<h.objs.size:=by
 cases o with
 |lst xs=>let[_,_,_,_,e]:=x;exact HN e
 |tup xs=>let[_,_,_,p,_]:=x;exact p.lt
 |dK kvs=>let[_,_,_,_,o,_,_,e,_]:=x;exact HN e
 |dT kvs=>let[_,_,_,_,o,_,_,e,_]:=x;exact HN e
 |set S n=>let[o,_,_,_,e,_]:=x;exact HN e
 |ins C b fs=>let[_,_,_,e,_]:=x;exact HN e
 |own y=>let[_,e]:=x;exact HN e
 |xd fs=>obtain⟨_,⟨_,_,_,e,_⟩,_⟩:=x;exact HN e
 |rng c d=>let[_,_,_,e]:=x;exact HN e
 |frz g u=>let[e,_]:=x;exact HN e
 |tbl ps=>exact HN (show h.get? a=KJ _ from x)
 |met f y=>exact HN (show h.get? a=KJ _ from x)
 |ext i=>obtain⟨_,⟨_,e⟩,_⟩:=x;exact HN e
theorem Paired.Ey{c d:Type}{F G:c->d->Prop}:∀{l₁:List c} {l₂:List d},KI F l₁ l₂->(∀a b,F a b->G a b)->KI G l₁ l₂:=by
 intro l₁ l₂ h f
 induction h with
 |nil=>exact .nil
 |cons r t e=>exact .cons (f _ _ r) e
theorem bJ.ff(x:bJ P w H h a o)(k:∀b u,(b=a\/H b=KJ (.own a))->h.get? b=KJ u->h'.get? b=KJ u) (m:∀b,H b=KJ (.own a)->H' b=KJ (.own a)) (s:∀b xs,H b=KJ (.tup xs)->H' b=KJ (.tup xs)):bJ P w H' h' a o:=by
 induction o with
 |lst xs=>let[z,l,n,r,e]:=x;exact #[z,l,n,r,k _ _ (.inl rfl) e]
 |tup xs=>obtain⟨z,l,r,⟨g,e,c⟩,A,e2,B⟩:=x;exact #[z,l,r,#[g,k _ _ (.inl rfl) e,c],A,k _ _ (.inl rfl) e2,B]
 |dK kvs=>let[z,y,vs,r,g,i,j,e,c]:=x;exact #[z,y,vs,r,g,i,j,k _ _ (.inl rfl) e,c]
 |dT kvs=>
  let[z,y,xs,r,g,i,j,e,c]:=x
  exact #[z,y,xs,Paired.Ey r λp q z=>#[z.1,s _ _ z.2.1,z.2.2],g,i,j,k _ _ (.inl rfl) e,c]
 |set S n=>let[g,i,j,t,e,c]:=x;exact #[g,i,j,t,k _ _ (.inl rfl) e,c]
 |ins C E fs=>
  obtain⟨d,z,ne,e,mA,⟨od,i,j,e2,c⟩,r⟩:=x
  exact #[m _ d,z,ne,k _ _ (.inl rfl) e,mA,#[od,i,j,k _ _ (.inr d) e2,c],r]
 |own y=>let[g,e]:=x;exact #[g,k _ _ (.inl rfl) e]
 |xd fs=>obtain⟨mA,⟨od,i,j,e,c⟩,r⟩:=x;exact #[mA,#[od,i,j,k _ _ (.inl rfl) e,c],r]
 |rng F G=>let[t,u,v,e]:=x;exact #[t,u,v,k _ _ (.inl rfl) e]
 |frz g u D=>let[e,q]:=x;exact #[k _ _ (.inl rfl) e,D q]
 |tbl ps=>
  have e:h.get? a=KJ { cls:=.none,data:=.fields ps }:=x
  show h'.get? a=KJ { cls:=.none,data:=.fields ps }
  exact k a _ (.inl rfl) e
 |met f y=>
  have e:h.get? a=KJ (PySem.W.methodObj (.ref f) (.ref y)):=x
  show h'.get? a=KJ (PySem.W.methodObj (.ref f) (.ref y))
  exact k a _ (.inl rfl) e
 |ext I=>obtain⟨p,⟨o,e⟩,st⟩:=x;exact #[st _ _ p λo q=>k _ _ (.inl rfl) q,#[o,k _ _ (.inl rfl) e],st]
theorem MU.lt(x:MU P w H h)(e:H a=KJ o):a<h.objs.size:=(x a o e).lt
theorem MU.fresh(x:MU P w H h)(e:h.objs.size<=a):H a=KL:=by
 cases q:H a with
 |none=>rfl
 |some u=>exact absurd (Ig (x.lt q) e) (Ks _)
theorem MU.kept(x:MU P w H h)(k:∀b u,h.get? b=KJ u->h'.get? b=KJ u):MU P w H h':=λa o e=>(x a o e).ff (λb u _ q=>k b u q) (λ_ q=>q) λ_ _ q=>q
theorem MU.laid(x:MU P w H h)(k:∀b u,h.get? b=KJ u->h'.get? b=KJ u)(g:h.objs.size<=a)(new:bJ P w (upd H a o) h' a o):MU P w (upd H a o) h':=λb u e=>by
 have d:=x.fresh g;by_cases f:b=a
 .subst f;rw[aF]at e;cases e;exact new
 .rw[aD f]at e;exact(x b u e).ff (λc v _ q=>k c v q) (λc q=>by rw[aD (d5 q d)];exact q) λc xs q=>by rw[aD (d5 q d)];exact q
end
def Rd(H:Hp)(a:pd)(u:HO):Prop:=H a=KJ u\/∃o,H a=KJ (.frz o u)
theorem Rd.ok{P:HW}{w:IA}{H:Hp}{h:pq}{a:pd}{u:HO}(r:Rd H a u)(x:MU P w H h):bJ P w H h a u:=by
 rcases r with r|⟨o,r⟩
 .exact x a u r
 .obtain⟨_,q⟩:=x a _ r;exact q
def W0:Option HO->Prop
 |some (.lst _)=>True
 |some (.dK _)=>True
 |some (.dT _)=>True
 |some (.set _ _)=>True
 |some (.ins _ _ _)=>True
 |some (.ext _)=>True
 |_=>False
section
variable{P:HW}{w:IA}{H:Hp}{h h':pq}{x e:pd}{o':HO}
theorem MU.write(ok:MU P w H h)(g:W0 (H x))(m:e=x\/H e=KJ (.own x))(k:∀b u,b≠e->h.get? b=KJ u->h'.get? b=KJ u)(l:∃u,h'.get? e=KJ u)
 (new:bJ P w (upd H x o') h' x o'):MU P w (upd H x o') h':=λb u q=>by
 have d:∀c y,H c=KJ (.own y)->c≠x:=λc y r z=>by subst z;rw[r]at g;exact g
 have f:∀c xs,H c=KJ (.tup xs)->c≠x:=λc xs r z=>by subst z;rw[r]at g;exact g
 by_cases i:b=x
 .subst i;rw[aF]at q;cases q;exact new
 .rw[aD i]at q
  by_cases a:b=e
  .have n:H b=KJ (.own x):=by
    rcases m with z|z
    .exact absurd (a.trans z) i
    .rw[a];exact z
   rw[q]at n;cases n
   let[v,hv]:=l
   exact #[v,by rw[a];exact hv]
  .refine(ok b u q).ff (λc v j r=>k c v ?_ r) (λc r=>by rw[aD (d c b r)];exact r) λc xs r=>by rw[aD (f c xs r)];exact r
   rcases j with rfl|j
   .exact a
   .rintro rfl
    rcases m with z|z
    .exact d c b j z
    .rw[j]at z;cases z;exact i rfl
end
structure Un(fs ex:rq)(H H':Hp)(h h':pq):Prop where
 keep:∀b o,h.get? b=KJ o->H b=KL->b∉fs->b∉ex->h'.get? b=KJ o
 slot:∀b o,h.get? b=KJ o->H b=KL->b∈fs->b∉ex->∃sl,h'.get? b=KJ { o with slots:=sl }
 free:∀b o,h.get? b=KJ o->H b=KL->b∉ex->H' b=KL
 there:∀b o,h.get? b=KJ o->b∉ex->∃o',h'.get? b=KJ o'
 tups:∀b xs,H b=KJ (.tup xs)->H' b=KJ (.tup xs)
 frzs:∀b o u,H b=KJ (.frz o u)->H' b=KJ (.frz o u)
 tbls:∀b ps,H b=KJ (.tbl ps)->∃more,H' b=KJ (.tbl (ps++more))
section
variable{fs KW ex KY:rq}{H H1 H2:Hp}{h h1 h2 h':pq}{a x e:pd}{o:HO}
theorem Un.any(u:Un fs ex H H1 h h1){b:pd}{c:Obj}(q:h.get? b=KJ c)(n:H b=KL)(hx:b∉ex):∃f,h1.get? b=KJ { c with slots:=f }:=by
 by_cases d:b∈fs
 .exact u.slot b c q n d hx
 .exact #[c.slots,u.keep b c q n d hx]
theorem Un.kept(k:∀b u,h.get? b=KJ u->h'.get? b=KJ u):Un fs ex H H h h':=#[λb c q _ _ _=>k b c q,λb c q _ _ _=>#[c.slots,k b c q],λ_ _ _ n _=>n,λb c q _=>#[c,k b c q],λ_ _ q=>q,λ_ _ _ q=>q,λ_ ps q=>#[#[],by rw[q];simp]]
theorem Un.refl:Un fs ex H H h h:=Un.kept λ_ _ q=>q
theorem Un.laid(k:∀b u,h.get? b=KJ u->h'.get? b=KJ u)(d:h.objs.size<=a)(c:H a=KL):Un fs ex H (upd H a o) h h' where
 keep:=λb u q _ _ _=>k b u q
 slot:=λb u q _ _ _=>#[u.slots,k b u q]
 free:=λb u q n _=>by rw[aD (Ip (Ig (HN q) d))];exact n
 there:=λb u q _=>#[u,k b u q]
 tups:=λb xs q=>by rw[aD (d5 q c)];exact q
 frzs:=λb u xs q=>by rw[aD (d5 q c)];exact q
 tbls:=λb ps q=>#[#[],by rw[aD (d5 q c),q];simp]
theorem Un.write(d:W0 (H x))(j:e=x\/H e=KJ (.own x))(k:∀b u,b≠e->h.get? b=KJ u->h'.get? b=KJ u)(f:∃u,h'.get? e=KJ u):Un fs ex H (upd H x o) h h':=by
 have hx:∀b,H b=KL->b≠x:=λb n z=>by subst z;rw[n]at d;exact d
 have i:∀b,H b=KL->b≠e:=λb n z=>by
  subst z;rcases j with r|r
  .exact hx b n r
  .rw[n]at r;cases r
 have g:∀b u,H b=KJ u->¬W0 (KJ u)->b≠x:=λb u q l z=>by subst z;rw[q]at d;exact l d
 refine #[λb u q n _ _=>k b u (i b n) q,λb u q n _ _=>#[u.slots,k b u (i b n) q],λb u q n _=>by rw[aD (hx b n)];exact n,λb u q _=>?_,λb xs q=>by rw[aD (g b _ q λz=>z)];exact q,λb u xs q=>by rw[aD (g b _ q λz=>z)];exact q,λb ps q=>#[#[],by rw[aD (g b _ q λz=>z),q];simp]];by_cases c:b=e
 .subst c;exact f
 .exact #[u,k b u c q]
end
def Wd(h:pq)(H:Hp):rq:=(HK h.objs.size).filter λa=>(H a).isSome
def jB(h:pq)(H:Hp):pq:=PySem.W.hideAll h (Wd h H)
theorem nF(h:pq)(H:Hp):(jB h H).objs.size=h.objs.size:=PySem.W.hideAll_size _ _
theorem iV{h:pq}{H:Hp}{b:pd}{o:Obj}(e:h.get? b=KJ o)(n:H b=KL):(jB h H).get? b=KJ o:=
 PySem.W.hideAll_get _ e λa=>by
  have q:(H b).isSome=KN:=(Iw.mp a).2
  rw[n]at q;simp at q
theorem oO{h:pq}{H:Hp}{b:pd}{o:Obj}(e:(jB h H).get? b=KJ o):h.get? b=KJ o/\H b=KL:=by
 have a:h.get? b=KJ o:=PySem.W.of_hideAll (Wd h H) e;exists a;cases q:H b with
 |none=>rfl
 |some x=>
  have c:b∈Wd h H:=Iw.mpr #[List.mem_range.mpr (HN a),by simp[q]]
  have z:(jB h H).get? b=KL:=PySem.W.hideAll_none (Wd h H) c
  rw[z]at e;cases e
structure Mod(K:Ht)(mg:Str->Option Hu)(base:pq):Prop where
 kin:K.In base
 glob:base.Ns IS mg
 blt:∃mb,base.Ns builtinsNs mb/\∀x:Str,x≠"__name__"->mb x=J5 x
 nolimit:base.NoLimit
structure Cx where
 prog:HW
 w:IA
 K:Ht
 mg:Str->Option Hu
 base:pq
 A:Iv
 N:rx
 s₀:Hv
 H₀:Hp
 env:Env
 outer:List Env
 stack:List Env
 ex:rq
 fn:Str->Bool
 calm:Bool
 pn:p4
 xe:Hu->Hv->Prop
def OA(l:List Env):rq:=l.filterMap (·.frame)
abbrev Cx.fs(X:Cx):rq:=OA X.outer
def WV(sc:JH)(x:Str):Prop:=sc.names.lookup x=KJ .local\/sc.names.lookup x=KJ .cell\/sc.names.lookup x=KJ .free
def Loc(sc:JH)(x:Str):Prop:=sc.names.lookup x=KJ .local\/sc.names.lookup x=KJ .cell
def Look(env:Env)(h:pq)(m:Str->Option Hu)(x:Str)(u:Hu):Prop:=
 (env.kindOf x=KJ .local/\m x=KJ u)\/((env.kindOf x=KJ .cell\/env.kindOf x=KJ .free)/\∃c,env.cells.lookup x=KJ c/\h.IsCell c (KJ u))
structure Cx.Ok(X:Cx):Prop where
 mod:Mod X.K X.mg X.base
 kind:X.env.scope.kind=.function
 glob:X.env.globals=IS
 blt:X.env.builtins=builtinsNs
 above:X.s₀.z<=X.env.locals
 inj:∀x y c,X.env.cells.lookup x=KJ c->X.env.cells.lookup y=KJ c->x=y
 has:∀x,(X.env.kindOf x=KJ .cell\/X.env.kindOf x=KJ .free)->∃c,X.env.cells.lookup x=KJ c
 cab:∀x c,X.fn x=KN->X.env.cells.lookup x=KJ c->X.s₀.z<=c
 hd:X.calm=KN->X.A.handled=KL
 frames:X.A.frames=KJ X.stack
 stk:X.stack=X.outer\/(X.stack=X.env::X.outer/\X.env.frame=KJ X.env.locals)
 exf:∀b∈X.ex,b≠X.env.locals/\∀x c,X.env.cells.lookup x=KJ c->c≠b
 bs:∀b o,X.base.get? b=KJ o->X.s₀.heap.get? b=KJ o/\X.H₀ b=KL
 bsz:X.base.objs.size<=X.s₀.z
 noex:∀b o,X.base.get? b=KJ o->b∉X.ex
 exfs:∀b∈X.ex,b∉X.fs
 gD:X.s₀.heap.FunFrames X.base X.outer
 frf:∀b∈X.fs,X.H₀ b=KL
structure Inv(X:Cx)(KZ:p4)(σ:List (Option V))(H:Hp)(s:Hv):Prop where
 ok:X.Ok
 os:s.os=X.s₀.os
 bare:AllBare s.gens
 base:Un X.fs X.ex X.H₀ H X.s₀.heap s.heap
 loc:∃m,s.heap.Ns X.env.locals m/\∀(i:Nat) (x:Str) (v:V),X.N[i]?=KJ x->σ[i]?=KJ (KJ v)->WV X.env.scope x->∃u,RelV v u/\Look X.env s.heap m x u
 cell:∀x c,X.env.cells.lookup x=KJ c->∃v,s.heap.IsCell c v
 free:H X.env.locals=KL
 freeC:∀x c,X.env.cells.lookup x=KJ c->H c=KL
 pin:∀p∈X.pn++KZ,s.heap.get? p.1=KJ p.2/\H p.1=KL/\p.1≠X.env.locals/\p.1∉X.fs/\∀v,p.2.data≠.cell v
 hok:MU X.prog X.w H s.heap
 len:σ.length=X.N.length
section
variable{X:Cx}{KZ:p4}{σ:List (Option V)}{H H':Hp}{s:Hv}{h':pq}
theorem Cx.Ok.Hk(ok:X.Ok){b:pd}{o:Obj}(e:X.base.get? b=KJ o):b∉X.fs:=λa=>by have:=(ok.gD.mem a).1;rw[e]at this;cases this
theorem Inv.bs(I:Inv X KZ σ H s):∀b o,X.base.get? b=KJ o->s.heap.get? b=KJ o/\H b=KL:=λb o e=>#[I.base.keep b o (I.ok.bs b o e).1 (I.ok.bs b o e).2 (I.ok.Hk e) (I.ok.noex b o e),I.base.free b o (I.ok.bs b o e).1 (I.ok.bs b o e).2 (I.ok.noex b o e)]
theorem Inv.bk(I:Inv X KZ σ H s):∀b o,X.base.get? b=KJ o->s.heap.get? b=KJ o:=λb o e=>(I.bs b o e).1
theorem Inv.mod(I:Inv X KZ σ H s):Mod X.K X.mg X.base:=I.ok.mod
theorem Inv.kIn(I:Inv X KZ σ H s):X.K.In s.heap:=I.ok.mod.kin.keeps I.bk
theorem Inv.lt(I:Inv X KZ σ H s):X.env.locals<s.z:=let⟨_,a,_⟩:=I.loc;a.lt
theorem Inv.sz(I:Inv X KZ σ H s):X.s₀.z<=s.z:=ID I.ok.above (Kn I.lt)
theorem Inv.Ha(I:Inv X KZ σ H s){a:pd}(h:s.z<=a):a∉X.fs:=λb=>by let[_,o,c,_]:=I.ok.gD.mem b;exact absurd (Ig (HN c) (ID I.sz h)) (Ks _)
theorem Inv.cne(I:Inv X KZ σ H s):∀x c,X.env.cells.lookup x=KJ c->c≠X.env.locals:=λx c e z=>by let[v,o,d,hd]:=I.cell x c e;obtain⟨m,⟨f,g,h,a,b,_⟩,_⟩:=I.loc;rw[z,a]at d;cases d;rw[b]at hd;cases hd
theorem Inv.gD(I:Inv X KZ σ H s):s.heap.FunFrames X.base X.outer:=by
 have all:∀(l:List Env),(∀b∈OA l,b∈X.fs)->X.s₀.heap.FunFrames X.base l->s.heap.FunFrames X.base l:=by
  intro l
  induction l with
  |nil=>intro _ _;trivial
  |cons env r g=>
   intro f h
   obtain⟨i,⟨L,o,a,j,k,hd⟩,m⟩:=h
   have c:L∈X.fs:=f L (by unfold OA;rw[JO,a];exact Ki)
   let[n,e]:=I.base.slot L o k (I.ok.frf L c) c λz=>I.ok.exfs L z c
   exact #[i,#[L,_,a,j,e,hd],g (λb d=>f b (by unfold OA;rw[JO,a];exact J6 _ d)) m]
 exact all X.outer (λ_ d=>d) I.ok.gD
theorem Inv.stack(I:Inv X KZ σ H s):s.heap.FunFrames X.base X.stack:=by
 rcases I.ok.stk with e|⟨e,a⟩
 .rw[e];exact I.gD
 .rw[e];let[m,b,_]:=I.loc;refine .cons (by rw[I.ok.kind];decide) a b ?_ I.gD;exact Heap.get?_none_of_le (ID I.ok.bsz I.ok.above)
theorem Inv.n4(I:Inv X KZ σ H s):∀b∈OA X.stack,b∈X.env.locals::X.fs:=λb a=>by
 rcases I.ok.stk with e|⟨e,c⟩
 .rw[e]at a;exact J6 _ a
 .rw[e]at a;unfold OA at a;rw[JO,c]at a;exact a
theorem Inv.tW(I:Inv X KZ σ H s):∀b∈OA X.stack,H b=KL:=λb a=>by
 rcases II.mp (I.n4 b a)with e|a
 .rw[e];exact I.free
 .obtain⟨_,o,c,_⟩:=I.ok.gD.mem a;exact I.base.free b o c (I.ok.frf b a) λz=>I.ok.exfs b z a
theorem Inv.step{g':Array GenState}{t':Nat}{d':Drawn}{ch:rq}(I:Inv X KZ σ H s)
 (a:∀b∈ch,(b∈X.ex\/X.s₀.z<=b)/\b≠X.env.locals/\(∀x c,X.env.cells.lookup x=KJ c->c≠b)/\∀p∈X.pn++KZ,p.1≠b)
 (keep:∀b o,b≠X.env.locals->b∉X.fs->b∉ch->s.heap.get? b=KJ o->H b=KL->h'.get? b=KJ o)
 (slot:∀b o,b≠X.env.locals->b∈X.fs->b∉ch->s.heap.get? b=KJ o->H b=KL->∃A,h'.get? b=KJ { o with slots:=A }) (free:∀b o,b∉ch->s.heap.get? b=KJ o->H b=KL->H' b=KL)
 (there:∀b o,b∉ch->s.heap.get? b=KJ o->∃o',h'.get? b=KJ o')
 (tups:∀b xs,H b=KJ (.tup xs)->H' b=KJ (.tup xs)) (frzs:∀b o u,H b=KJ (.frz o u)->H' b=KJ (.frz o u)) (tbls:∀b ps,H b=KJ (.tbl ps)->∃more,H' b=KJ (.tbl (ps++more)))
 (ns:∀m,s.heap.Ns X.env.locals m->h'.Ns X.env.locals m) (hok:MU X.prog X.w H' h') (F:AllBare g') :
 Inv X KZ σ H' { s with heap:=h',gens:=g',drawn:=d',toks:=t' }:=by
 have neL:∀b o,X.s₀.heap.get? b=KJ o->b≠X.env.locals:=λb o e=>Ip (Ig (HN e) I.ok.above)
 have h:∀b o,X.s₀.heap.get? b=KJ o->b∉X.ex->b∉ch:=λb o e hx j=>by
  rcases(a b j).1 with z|z
  .exact hx z
  .exact absurd (Ig (HN e) z) (Ks _)
 have f:∀x c,X.env.cells.lookup x=KJ c->∀v,s.heap.IsCell c v->h'.IsCell c v:=λx c e v t=>by
  let[o,y,hd]:=t
  have g:c∉ch:=λz=>(a c z).2.2.1 x c e rfl
  by_cases C:c∈X.fs
  .obtain⟨A,q⟩:=slot c o (I.cne x c e) C g y (I.freeC x c e)
   exact #[_,q,hd]
  .exact #[o,keep c o (I.cne x c e) C g y (I.freeC x c e),hd]
 refine #[I.ok,I.os,F,#[λb o e n j hx=>?_,λb o e n j hx=>?_,λb o e n hx=>?_,λb o e hx=>?_,λb xs e=>tups b xs (I.base.tups b xs e),λb o xs e=>frzs b o xs (I.base.frzs b o xs e),λb ps e=>?_],?_,λx c e=>?_,?_,λx c e=>?_,λp D=>?_,hok,I.len]
 .exact keep b o (neL b o e) j (h b o e hx) (I.base.keep b o e n j hx) (I.base.free b o e n hx)
 .obtain⟨A,e1⟩:=I.base.slot b o e n j hx
  let[B,e2]:=slot b _ (neL b o e) j (h b o e hx) e1 (I.base.free b o e n hx)
  exact #[B,e2]
 .obtain⟨o',e1⟩:=I.base.there b o e hx
  exact free b o' (h b o e hx) e1 (I.base.free b o e n hx)
 .obtain⟨o',e1⟩:=I.base.there b o e hx
  exact there b o' (h b o e hx) e1
 .obtain⟨G,e1⟩:=I.base.tbls b ps e
  let[J,e2]:=tbls b _ e1
  exact #[G++J,by rw[e2,Array.append_assoc]]
 .obtain⟨m,K,L⟩:=I.loc
  refine #[m,ns m K,λi x v e1 e2 e3=>?_]
  let[u,r,l]:=L i x v e1 e2 e3
  exists u,r
  rcases l with l|⟨k,c,e,z⟩
  .exact .inl l
  .exact .inr #[k,c,e,f x c e _ z]
 .obtain⟨v,z⟩:=I.cell x c e
  exact #[v,f x c e v z]
 .obtain⟨m,⟨o,_,_,y,_⟩,_⟩:=I.loc
  exact free _ o (λz=>(a _ z).2.1 rfl) y I.free
 .obtain⟨v,o,y,hd⟩:=I.cell x c e
  exact free c o (λz=>(a c z).2.2.1 x c e rfl) y (I.freeC x c e)
 .obtain⟨e,n,ne,E,d⟩:=I.pin p D
  have g:p.1∉ch:=λz=>(a p.1 z).2.2.2 p D rfl
  exact #[keep p.1 p.2 ne E g e n,free p.1 p.2 g e n,ne,E,d]
theorem Inv.un{t':Nat}(I:Inv X KZ σ H s)(u:Un X.fs [] H H' s.heap h')(hok:MU X.prog X.w H' h'):Inv X KZ σ H' { s with heap:=h',toks:=t' }:=by
 obtain⟨m,⟨o,k,l,g,r⟩,_⟩:=id I.loc;let[p,h]:=u.any g I.free (by simp)
 exact I.step (g':=s.gens) (d':=s.drawn) (ch:=[]) (λ_ z=>nomatch z) (λb o _ c _ e n=>u.keep b o e n c (by simp)) (λb o _ c _ e n=>u.slot b o e n c (by simp)) (λb o _ e n=>u.free b o e n (by simp)) (λb o _ e=>u.there b o e (by simp)) u.tups u.frzs u.tbls (λq i=>by
  let[t,d,f,a,j]:=i
  rw[g]at a;cases a
  exact #[_,d,f,h,j]) hok I.bare
theorem Inv.call{g':Array GenState}{t':Nat}{d':Drawn}{ch:rq}(I:Inv X KZ σ H s)(u:Un (OA X.stack) ch H H' s.heap h')(hok:MU X.prog X.w H' h')(k:AllBare g') (d:∀b∈ch,(b∈X.ex\/X.s₀.z<=b)/\b≠X.env.locals/\(∀x c,X.env.cells.lookup x=KJ c->c≠b)/\∀p∈X.pn++KZ,p.1≠b) : Inv X KZ σ H' { s with heap:=h',gens:=g',drawn:=d',toks:=t' }:=by
 obtain⟨m,⟨o,v,y,j,r⟩,_⟩:=id I.loc;let[A,g]:=u.any j I.free λz=>(d _ z).2.1 rfl
 exact I.step (ch:=ch) d (λb o g l a e n=>u.keep b o e n (λz=>(II.mp (I.n4 b z)).elim g l) a) (λb o _ _ a e n=>u.any e n a) (λb o a e n=>u.free b o e n a) (λb o a e=>u.there b o e a) u.tups u.frzs u.tbls (λB q=>by
  let[C,h,i,f,t]:=q
  rw[j]at f;cases f
  exact #[_,h,i,g,t]) hok k
theorem Inv.turned{t':Nat}{it:pd}(I:Inv X KZ σ H s)(k:∀b o,b≠it->s.heap.get? b=KJ o->h'.get? b=KJ o)(g:H it=KL)(f:it≠X.env.locals)
 (h1:it∈X.ex\/X.s₀.z<=it) (h:∀x c,X.env.cells.lookup x=KJ c->c≠it) (i:∀p∈X.pn++KZ,p.1≠it):Inv X KZ σ H { s with heap:=h',toks:=t' }:=by
 have d:∀b u,H b=KJ u->b≠it:=λb u e z=>by rw[z,g]at e;cases e
 refine I.step (g':=s.gens) (d':=s.drawn) (ch:=[it]) (λb j=>?_) (λb o _ _ a e _=>k b o (λz=>a (by simp[z])) e) (λb o _ _ a e _=>#[o.slots,k b o (λz=>a (by simp[z])) e]) (λ_ _ _ _ n=>n)
  (λb o a e=>#[o,k b o (λz=>a (by simp[z])) e]) (λ_ _ e=>e) (λ_ _ _ e=>e) (λb ps e=>#[#[],by rw[e];simp]) (λm l=>?_) (λb u e=>?_) I.bare
 .have e:b=it:=‹j›
  subst e
  exact #[h1,f,h,i]
 .obtain⟨o,t,w,y,r⟩:=l
  exact #[o,t,w,k _ o (Ne.symm f) y,r]
 .refine(I.hok b u e).ff (λc v a q=>k c v ?_ q) (λ_ q=>q) λ_ _ q=>q
  rcases a with z|z
  .rw[z];exact d b u e
  .exact d c _ z
theorem Inv.tok(I:Inv X KZ σ H s)(t:Nat):Inv X KZ σ H { s with toks:=t }:=I.un (h':=s.heap) (t':=t) Un.refl I.hok
theorem Inv.kept{t':Nat}(I:Inv X KZ σ H s)(k:∀b u,s.heap.get? b=KJ u->h'.get? b=KJ u):Inv X KZ σ H { s with heap:=h',toks:=t' }:=I.un (Un.kept k) (I.hok.kept k)
theorem Inv.laid{a:pd}{o:HO}{t':Nat}(I:Inv X KZ σ H s)(k:∀b u,s.heap.get? b=KJ u->h'.get? b=KJ u)(c:s.z<=a)(new:bJ X.prog X.w (upd H a o) h' a o) : Inv X KZ σ (upd H a o) { s with heap:=h',toks:=t' }:=I.un (Un.laid k c (I.hok.fresh c)) (I.hok.laid k c new)
theorem Inv.write{x e:pd}{o:HO}{t':Nat}(I:Inv X KZ σ H s)(c:W0 (H x))(d:e=x\/H e=KJ (.own x))(k:∀b u,b≠e->s.heap.get? b=KJ u->h'.get? b=KJ u)(a:∃u,h'.get? e=KJ u) (new:bJ X.prog X.w (upd H x o) h' x o):Inv X KZ σ (upd H x o) { s with heap:=h',toks:=t' }:=I.un (Un.write c d k a) (I.hok.write c d k a new)
theorem Inv.tf{pins':p4}(I:Inv X KZ σ H s)(h:∀p∈pins',s.heap.get? p.1=KJ p.2/\H p.1=KL/\p.1≠X.env.locals/\p.1∉X.fs/\∀v,p.2.data≠.cell v):Inv X pins' σ H s:=#[I.ok,I.os,I.bare,I.base,I.loc,I.cell,I.free,I.freeC,λp a=>(HX.mp a).elim (λz=>I.pin p (List.mem_append_left _ z)) (h p),I.hok,I.len]
theorem qi{N:rx}(c:N.Nodup){i j:Nat}{x:Str}(a:N[i]?=KJ x)(b:N[j]?=KJ x):i=j:=by let[h1,e1]:=HC.mp a;let[d,e2]:=HC.mp b;exact(List.getElem_inj c).mp (e1.trans e2.symm)
theorem jW{M:Model}{A:Iv}{E:Hu->Hv->Prop}{i:Nat}{x:Str}{v:V}{u:Hu}{Q:Unit->Hv->Prop}(I:Inv X KZ σ H s)(hN:X.N.Nodup)(J:X.N[i]?=KJ x)(hx:Loc X.env.scope x)(r:RelV v u)
 (h:∀U,Inv X KZ (σ.set i (KJ v)) H U->(∃a,JI a s.heap U.heap/\(a=X.env.locals\/X.env.cells.lookup x=KJ a))->Q .unit U) (hf:X.fn x=KN\/X.env.scope.names.lookup x=KJ .local:=by first|exact .inl rfl|exact .inr rfl|assumption):HJ M A (storeName X.env x u) Q E s:=by
 let[m,W,hl]:=id I.loc
 have K:(X.env.scope.kind==.class||(X.env.scope.kind==.module&&X.env.locals != X.env.globals))=KO:=by rw[I.ok.kind];rfl
 have B:i<σ.length:=by rw[I.len];exact(HC.mp J).1
 have cne:=I.cne
 have g:∀{a:pd} {h':pq},(∃o,s.heap.get? a=KJ o/\H a=KL)->JI a s.heap h'->MU X.prog X.w H h':=λ{a h'} ha f b ob e=>by
  let[_,_,t]:=ha
  refine(I.hok b ob e).ff (λc S l q=>(f.2 c ?_).trans q) (λ_ q=>q) λ_ _ q=>q
  rintro rfl
  rcases l with rfl|l
  .rw[t]at e;cases e
  .rw[t]at l;cases l
 rcases hx with C|C
 .refine wpAny_storeName_local C W (λh' Y f=>?_) K
  let[oL,_,_,Z,_]:=id W
  refine h _ #[I.ok,I.os,I.bare,#[λb o e n D hx=>?_,λb o e n D hx=>?_,I.base.free,λb o e hx=>?_,I.base.tups,I.base.frzs,I.base.tbls],#[_,Y,λj y v' e1 e2 e3=>?_],λy c e=>?_,I.free,I.freeC,λp hp=>?_,g #[oL,Z,I.free] f,‹I.len›] #[_,f,.inl rfl]
  .exact(f.2 b (Ip (Ig (HN e) I.ok.above))).trans (I.base.keep b o e n D hx)
  .obtain⟨sl,e1⟩:=I.base.slot b o e n D hx
   exact #[sl,(f.2 b (Ip (Ig (HN e) I.ok.above))).trans e1]
  .obtain⟨o',e1⟩:=I.base.there b o e hx
   exact #[o',(f.2 b (Ip (Ig (HN e) I.ok.above))).trans e1]
  .by_cases F:j=i
   .subst F
    rw[J]at e1;cases e1
    rw[List.getElem?_set_self B]at e2
    cases e2
    exact #[u,r,.inl #[C,by simp]]
   .rw[List.getElem?_set_ne (Ne.symm F)]at e2
    let[u',r',q]:=hl j y v' e1 e2 e3
    exists u',r'
    rcases q with⟨k,e⟩|⟨k,c,e,z⟩
    .refine .inl #[k,?_]
     have:y≠x:=λe=>F (qi hN e1 (e▸J))
     simp[this,e]
    .exact .inr #[k,c,e,z.sameBut f (cne y c e)]
  .obtain⟨S,z⟩:=I.cell y c e
   exact #[S,z.sameBut f (cne y c e)]
  .obtain⟨e,n,ne,nf,d⟩:=I.pin p hp
   exact #[(f.2 p.1 ne).trans e,n,ne,nf,d]
 .have G:X.fn x=KN:=by
   rcases hf with z|z
   .exact z
   .rw[z]at C;cases C
  let[c,l]:=I.ok.has x (.inl C)
  let[S,z]:=I.cell x c l
  refine wpAny_storeName_cell I.ok.kind C l z (λh' L f=>?_)
  let[oc,O,P]:=id z
  refine h { s with heap:=h' } #[I.ok,I.os,I.bare,#[λb o e n D hx=>?_,λb o e n D hx=>?_,I.base.free,λb o e hx=>?_,I.base.tups,I.base.frzs,I.base.tbls],#[m,W.sameBut f (Ne.symm (cne x c l)),λj y v' e1 e2 e3=>?_],λy T e=>?_,I.free,I.freeC,λp hp=>?_,g #[oc,O,I.freeC x c l] f,‹I.len›] #[c,f,.inr l]
  .exact(f.2 b (Ip (Ig (HN e) (I.ok.cab x c G l)))).trans (I.base.keep b o e n D hx)
  .obtain⟨sl,e1⟩:=I.base.slot b o e n D hx
   exact #[sl,(f.2 b (Ip (Ig (HN e) (I.ok.cab x c G l)))).trans e1]
  .obtain⟨o',e1⟩:=I.base.there b o e hx
   exact #[o',(f.2 b (Ip (Ig (HN e) (I.ok.cab x c G l)))).trans e1]
  .by_cases F:j=i
   .subst F
    rw[J]at e1;cases e1
    rw[List.getElem?_set_self B]at e2
    cases e2
    exact #[u,r,.inr #[.inl C,c,l,L]]
   .rw[List.getElem?_set_ne (Ne.symm F)]at e2
    let[u',r',q]:=hl j y v' e1 e2 e3
    exists u',r'
    rcases q with q|⟨k,T,e,z'⟩
    .exact .inl q
    .refine .inr #[k,T,e,z'.sameBut f ?_]
     rintro rfl
     exact F (qi hN e1 (I.ok.inj _ _ _ e l▸J))
  .by_cases R:T=c
   .subst R;exact #[_,L]
   .obtain⟨w2,z2⟩:=I.cell y T e
    exact #[w2,z2.sameBut f R]
  .obtain⟨e,n,ne,nf,d⟩:=I.pin p hp
   refine #[(f.2 p.1 ?_).trans e,n,ne,nf,d]
   intro q
   rw[q,O]at e
   have q':oc=p.2:=Option.some.inj e
   exact d S (by rw[<-q'];exact P)
theorem gI{M:Model}{A:Iv}{E:Hu->Hv->Prop}{i:Nat}{x:Str}{v:V}{u:Hu}{Q:Unit->Hv->Prop}(I:Inv X KZ σ H s)(b:X.N.Nodup)(c:X.N[i]?=KJ x)(hx:Loc X.env.scope x)(r:RelV v u) (h:∀a,Inv X KZ (σ.set i (KJ v)) H a->Q .unit a) (d:X.fn x=KN\/X.env.scope.names.lookup x=KJ .local:=by first|exact .inl rfl|exact .inr rfl|assumption):HJ M A (storeName X.env x u) Q E s:=jW I b c hx r (λa e _=>h a e) d
theorem Inv.xR{a:Hv}{ch:rq}(I:Inv X KZ σ H s)(f:a.os=s.os)(u:Un (OA X.stack) ch H H' s.heap a.heap)(hok:MU X.prog X.w H' a.heap)(g:AllBare a.gens)
 (d:∀b∈ch,(b∈X.ex\/X.s₀.z<=b)/\b≠X.env.locals/\(∀x c,X.env.cells.lookup x=KJ c->c≠b)/\∀p∈X.pn++KZ,p.1≠b):Inv X KZ σ H' a:=by
 let[h',g',d',t',h]:=a
 have e:h=s.os:=f
 subst e
 exact I.call (g':=g') (t':=t') (d':=d') u hok g d
end
abbrev XK:=Hu->Option pd->Hp->Prop
abbrev St:=List (Option V)
abbrev VK:=V->Hp->Prop
abbrev TE:=St->Hp->VK->Prop
abbrev TT:=St->Hp->(Bool->Hp->Prop)->Prop
abbrev TA:=St->Hp->(ry->Hp->Prop)->Prop
structure Ends where
 nx:St->Hp->Prop
 rt:VK
 bk:St->Hp->Prop:=λ_ _=>False
 ct:St->Hp->Prop:=λ_ _=>False
abbrev TS:=Ends->St->Hp->Prop
def EP(X:Cx)(KZ:p4)(σ:St)(Q:VK)(u:Hu)(b:Hv):Prop:=∃v a,Inv X KZ σ a b/\RelV v u/\Q v a
def TP(X:Cx)(KZ:p4)(σ:St)(Q:Bool->Hp->Prop)(b:Bool)(c:Hv):Prop:=∃a,Inv X KZ σ a c/\Q b a
def AP(X:Cx)(KZ:p4)(σ:St)(Q:ry->Hp->Prop)(us:List Hu)(b:Hv):Prop:=∃vs a,Inv X KZ σ a b/\Vals vs us/\Q vs a
def SP(X:Cx)(KZ:p4)(D:Ends)(f:Flow)(c:Hv):Prop:=
 match f with
 |.next=>∃a b,Inv X KZ a b c/\D.nx a b
 |.brk=>∃a b,Inv X KZ a b c/\D.bk a b
 |.cont=>∃a b,Inv X KZ a b c/\D.ct a b
 |.ret u=>∃v a b,Inv X KZ a b c/\RelV v u/\D.rt v b
def PE(X:Cx)(e:pv)(t:TE):Prop:=
 ∀(KZ:p4) (s:Hv) (σ:St) (H:Hp) (Q:VK),Inv X KZ σ H s->t σ H Q->HJ (HP X.prog X.w) X.A (eval e X.env) (EP X KZ σ Q) X.xe s
def PT(X:Cx)(e:pv)(t:TT):Prop:=
 ∀(KZ:p4) (s:Hv) (σ:St) (H:Hp) (Q:Bool->Hp->Prop),Inv X KZ σ H s->t σ H Q->HJ (HP X.prog X.w) X.A (isTrue e X.env (eval e X.env)) (TP X KZ σ Q) X.xe s
def PW(X:Cx)(e:pv)(t:TT):Prop:=
 ∀(a:Sem Hu) (KZ:p4) (s:Hv) (σ:St) (H:Hp) (Q:Bool->Hp->Prop),Inv X KZ σ H s->t σ H Q->HJ (HP X.prog X.w) X.A (isTrue e X.env a) (TP X KZ σ Q) X.xe s
theorem PW.pt{X:Cx}{e:pv}{t:TT}(h:PW X e t):PT X e t:=h _
def PA(X:Cx)(es:ro)(t:TA):Prop:=
 ∀(pos:Pos) (KZ:p4) (s:Hv) (σ:St) (H:Hp) (Q:ry->Hp->Prop),Inv X KZ σ H s->t σ H Q->HJ (HP X.prog X.w) X.A (spliced (Jc pos (HM es X.env))) (AP X KZ σ Q) X.xe s
def PS(X:Cx)(st:pe)(t:TS):Prop:=
 ∀(KZ:p4) (s:Hv) (σ:St) (H:Hp) (D:Ends),Inv X KZ σ H s->t D σ H->HJ (HP X.prog X.w) X.A (exec st X.env) (SP X KZ D) X.xe s
def Ng(X:Cx)(st:ri)(t:TS):Prop:=
 ∀(KZ:p4) (s:Hv) (σ:St) (H:Hp) (D:Ends),Inv X KZ σ H s->t D σ H->HJ (HP X.prog X.w) X.A (execs st X.env) (SP X KZ D) X.xe s
theorem Lc{b:Type}{t:Sem b}{Q c:b->Hv->Prop}{M:Model}{A:Iv}{E:Hu->Hv->Prop}{s:Hv}(h:HJ M A t Q E s)(d:∀a s,Q a s->c a s):HJ M A t c E s:=HQ h d λ_ _ x=>x
section
variable{X:Cx}
def GA(i:Nat):TE:=λσ H Q=>∃v,σ[i]?=KJ (KJ v)/\Q v H
def tC(v:V):TE:=λ_ H Q=>Q v H
theorem B9{i:Nat}{x:Str}{pos:Pos}(g:X.N[i]?=KJ x)(hv:WV X.env.scope x)(hd:(x==("__debug__":Str))=KO:=by decide)(d:(x==("__classdict__":Str))=KO:=by decide):PE X (.Name x pos) (GA i):=by
 intro KZ s σ H Q I h;let[v,e,h]:=h;let[m,j,k]:=I.loc;let[u,r,l]:=k i x v g e hv;have fin:EP X KZ σ Q u s:=#[v,H,I,r,h];rcases l with⟨b,n⟩|⟨b,c,f,a⟩
 .exact wpAny_Name (wpAny_loadName_local I.ok.kind b j n fin) hd
 .rcases b with b|b
  .exact wpAny_Name (wpAny_loadName_cell I.ok.kind b f a fin) hd
  .exact wpAny_Name (wpAny_loadName_free I.ok.kind b f a fin d) hd
theorem yL{i j pos}:PE X (.Constant (.int i) j pos) (tC (.int i)):=λ_ _ _ H _ I h=>wpAny_Constant_int #[.int i,H,I.tok _,#[_,rfl],h]
theorem ET{b j pos}:PE X (.Constant (.bool b) j pos) (tC (.bl b)):=λ_ _ _ H _ I h=>Constant_bool #[.bl b,H,I,rfl,h]
theorem BX{j pos}:PE X (.Constant .none j pos) (tC .non):=λ_ _ _ H _ I h=>Constant_none #[.non,H,I,rfl,h]
theorem Cw{x j pos}:PE X (.Constant (.str x) j pos) (tC (.str x)):=λ_ _ _ H _ I h=>Calls.Constant_str #[.str x,H,I.tok _,#[_,rfl],h]
def Gl(X:Cx)(x:Str):Prop:=X.env.kindOf x=KJ .globalImplicit
theorem oA{E:Hu->Hv->Prop}{KZ:p4}{s:Hv}{σ:St}{H:Hp}{x:Str}{u:Hu}{pos:Pos}{Q:Hu->Hv->Prop}(I:Inv X KZ σ H s)(a:Gl X x)(b:X.mg x=KJ u)(h:Q u s) (hd:(x==("__debug__":Str))=KO:=by decide):HJ (HP X.prog X.w) X.A (eval (.Name x pos) X.env) Q E s:=Calls.Name_function_global I.ok.kind a (Calls.loadGlobal_global (by rw[I.ok.glob];exact I.mod.glob.keeps I.bk) b h) hd
theorem gM{E:Hu->Hv->Prop}{KZ:p4}{s:Hv}{σ:St}{H:Hp}{x:Str}{u:Hu}{pos:Pos}{Q:Hu->Hv->Prop}(I:Inv X KZ σ H s)(a:Gl X x)(b:X.mg x=KL)(hv:J5 x=KJ u)(h:Q u s) (c:x≠"__name__":=by decide) (hd:(x==("__debug__":Str))=KO:=by decide):HJ (HP X.prog X.w) X.A (eval (.Name x pos) X.env) Q E s:=by let[e,h1,d]:=I.mod.blt;exact Calls.Name_function_global I.ok.kind a (Calls.loadGlobal_builtin (by rw[I.ok.glob];exact I.mod.glob.keeps I.bk) b (by rw[I.ok.blt];exact h1.keeps I.bk) ((d x c).trans hv) h) hd
variable{a b:pv}{ta tb:TE}{pos:Pos}
def PC(X:Cx)(op:CmpOp)(a b:pv)(t:TE):Prop:=
 ∀(KZ:p4) (s:Hv) (σ:St) (H:Hp) (Q:VK),Inv X KZ σ H s->t σ H Q->
  HJ (HP X.prog X.w) X.A (eval a X.env) (λv c=>HJ (HP X.prog X.w) X.A (eval b X.env) (λu d=>HJ (HP X.prog X.w) X.A (IM op v u) (EP X KZ σ Q) X.xe d) X.xe c) X.xe s
def tB(t:TE):TT:=λσ H Q=>t σ H λx H1=>∃c,x=.bl c/\Q c H1
theorem BV{op:CmpOp}{t:TE}(h:PC X op a b t)(h1:Kt op b=KO:=by first|exact nobehind _ ⋯ ⋯|rfl):PT X (.Compare a [op] [b] pos) (tB t):=by intro KZ s σ H Q I f;refine wpAny_isTrue_Compare1 (Lc (h KZ s σ H _ I f) λv l h1=>Lc h1 λu m g=>Lc g λc n e=>?_) h1;let[x,H1,i,j,k]:=e;let[d,rfl,q]:=k;cases j;exact JJ #[H1,i,q]
theorem BM{e:pv}{t:TE}(h:PE X e t)(g:∀c,isTrue e X.env c=(do let v <-c;standAt e.pos;holding [v] (truthy v)):=by intro _;rfl):PT X e (tB t):=by intro KZ s σ H Q I i;refine isTrue_plain (Lc (h KZ s σ H _ I i) λv m f=>?_) (g _);let[x,H1,j,k,l]:=f;let[d,rfl,q]:=l;cases k;exact JJ #[H1,j,q]
variable{tA LA:TT}{rest:ro}
def GS(t u:TT):TT:=λσ H Q=>t σ H λc H1=>if c=KN then u σ H1 Q else Q KO H1
def ZX(t u:TT):TT:=λσ H Q=>t σ H λc H1=>if c=KN then Q KN H1 else u σ H1 Q
def G9(t:TT):TT:=λσ H Q=>t σ H λc H1=>Q (!c) H1
theorem AM(d:PT X a tA):PW X (.BoolOp .And [a] pos) tA:=by
 intro f KZ s σ H Q I h;refine isTrue_and (Lc (d KZ s σ H Q I h) λc g e=>?_);cases c with
 |true=>exact isTrue_and_nil e
 |false=>exact e
theorem CT(d:PT X a tA):PW X (.BoolOp .Or [a] pos) tA:=by
 intro f KZ s σ H Q I h;refine isTrue_or (Lc (d KZ s σ H Q I h) λc g e=>?_);cases c with
 |false=>exact isTrue_or_nil e
 |true=>exact e
theorem CK(g:PT X a tA)(i:PW X (.BoolOp .And (b::rest) pos) LA):PW X (.BoolOp .And (a::b::rest) pos) (GS tA LA):=by
 intro j KZ s σ H Q I h;refine isTrue_and (Lc (g KZ s σ H _ I h) λc k d=>?_);let[H1,e,f]:=d;cases c with
 |true=>exact i j KZ k σ H1 Q e f
 |false=>exact #[H1,e,f]
theorem Fe(g:PT X a tA)(i:PW X (.BoolOp .Or (b::rest) pos) LA):PW X (.BoolOp .Or (a::b::rest) pos) (ZX tA LA):=by
 intro j KZ s σ H Q I h;refine isTrue_or (Lc (g KZ s σ H _ I h) λc k d=>?_);let[H1,e,f]:=d;cases c with
 |true=>exact #[H1,e,f]
 |false=>exact i j KZ k σ H1 Q e f
theorem Dc(d:PT X a tA):PT X (.UnaryOp .Not a pos) (G9 tA):=by intro KZ s σ H Q I h;exact isTrue_not (d KZ s σ H (λc H1=>Q (!c) H1) I h)
def FZ(ta tb:TE):TE:=λσ H Q=>ta σ H λx H1=>∃c,x=.bl c/\if c=KN then tb σ H1 Q else Q (.bl KO) H1
def Fv(ta:TE):TE:=λσ H Q=>ta σ H λx H1=>∃c,x=.bl c/\Q (.bl (!c)) H1
theorem CA{op}{t:TE}(h:PE X a t):PE X (.BoolOp op [a] pos) t:=λKZ s σ H Q I c=>BoolOp_one (h KZ s σ H Q I c)
theorem Cg(g:PE X a ta)(i:PE X (.BoolOp .And (b::rest) pos) tb):PE X (.BoolOp .And (a::b::rest) pos) (FZ ta tb):=by
 intro KZ s σ H Q I h;refine BoolOp_and (Lc (g KZ s σ H _ I h) λv j d=>?_);let[x,H1,f,k,e]:=d;let[c,rfl,e]:=e;cases k;refine JJ ?_;cases c with
 |true=>exact i KZ j σ H1 Q f e
 |false=>exact #[.bl KO,H1,f,rfl,e]
theorem CH(f:PE X a ta):PE X (.UnaryOp .Not a pos) (Fv ta):=by intro KZ s σ H Q I h;refine UnaryOp_ (Lc (f KZ s σ H _ I h) λv j d=>?_);let[x,H1,g,i,e]:=d;let[c,rfl,e]:=e;cases i;exact not_of (JJ #[.bl (!c),H1,g,rfl,e])
def ZY(t:TT)(ta tb:TE):TE:=λσ H Q=>t σ H λc H1=>if c=KN then ta σ H1 Q else tb σ H1 Q
theorem wM{c:pv}(j:PT X c tA)(k:PE X a ta)(l:PE X b tb):PE X (.IfExp c a b pos) (ZY tA ta tb):=by
 intro KZ s σ H Q I h;refine wpAny_IfExp (Lc (j KZ s σ H _ I h) λd f e=>?_);let[H1,g,i]:=e;cases d with
 |true=>exact k KZ f σ H1 Q g i
 |false=>exact l KZ f σ H1 Q g i
end
def Ln(K:Ht)(H:Hp)(a:pd)(xs:ry):Prop:=
 Rd H a (.lst xs)\/
  ∃(o:Obj) (b:Array Hu) (n:Nat),K.lookup a=KJ o/\o.cls=.type "list"/\o.dict=KL/\o.data=.seq b n/\b.size<=HR/\Vals xs b.toList
def Lm(K:Ht)(H:Hp)(a:pd)(xs:ry):Prop:=
 Rd H a (.tup xs)\/
  ∃(o:Obj) (b:Array Hu) (n:Nat),K.lookup a=KJ o/\(o.cls=.type "tuple"/\o.dict=KL)/\o.data=.seq b n/\b.size<=HR/\Vals xs b.toList
def GK:Hu->Option V
 |.none=>KJ .non
 |.bool b=>KJ (.bl b)
 |.int i _=>KJ (.int i)
 |.str x _=>KJ (.str x)
 |.bytes b _=>KJ (.byt b)
 |.float b _=>KJ (.flt b)
 |.ref a=>KJ (.ref a)
 |.type n=>KJ (.ty n)
 |_=>KL
theorem RelV.abs{x:V}{u:Hu}(r:RelV x u):GK u=KJ x:=by
 cases x with
 |non=>cases r;rfl
 |bl _=>cases r;rfl
 |int _=>let[t,rfl]:=r;rfl
 |str _=>let[t,rfl]:=r;rfl
 |byt _=>let[t,rfl]:=r;rfl
 |flt _=>let[t,rfl]:=r;rfl
 |ref _=>cases r;rfl
 |ty _=>cases r;rfl
theorem RelV.inj{x y:V}{u:Hu}(r:RelV x u)(q:RelV y u):x=y:=Option.some.inj (r.abs.symm.trans q.abs)
theorem Vals.inj:∀{xs a:ry} {us:List Hu},Vals xs us->Vals a us->xs=a:=by
 intro xs a us h
 induction h generalizing a with
 |nil=>intro k;cases k;rfl
 |cons r t b=>
  intro k
  cases k with
  |cons c d=>rw[r.inj c,b d]
section
variable{X:Cx}{KZ:p4}{σ:St}{H:Hp}{s:Hv}{a:pd}{xs ys:ry}
theorem Ln.of{K:Ht}(h:H a=KJ (.lst xs)):Ln K H a xs:=.inl (.inl h)
theorem Lm.of{K:Ht}(h:H a=KJ (.tup xs)):Lm K H a xs:=.inl (.inl h)
theorem Inv.list(I:Inv X KZ σ H s)(h:Ln X.K H a xs):∃its:List Hu,Vals xs its/\PlainL s.heap a its.toArray/\xs.length<=HR:=by
 rcases h with h|⟨o,its,n,b,c,hd,d,f,r⟩
 .obtain⟨z,its,n,r,e⟩:=h.ok I.hok;exact #[its,r,#[_,n,e,rfl,rfl,rfl],z]
 .exists its.toList,r,#[o,n,I.kIn a o b,c,hd,‹d›];have e:=r.length;simp only[IW]at e;omega
theorem Inv.tuple(I:Inv X KZ σ H s)(h:Lm X.K H a xs):∃its:List Hu,Vals xs its/\IsTup s.heap a its.toArray/\xs.length<=HR:=by
 rcases h with h|⟨o,its,n,b,c,d,f,r⟩
 .obtain⟨z,its,r,p,_⟩:=h.ok I.hok;exact #[its,r,p,z]
 .exists its.toList,r,#[o,I.kIn a o b,c.1,n,‹d›];have e:=r.length;simp only[IW]at e;omega
theorem Inv.C7(I:Inv X KZ σ H s)(h:Lm X.K H a xs):Qf s.heap a:=by
 rcases h with h|⟨o,b,n,c,d,e,f,r⟩
 .obtain⟨z,b,r,_,p⟩:=h.ok I.hok;exact p
 .exact #[o,I.kIn a o c,d.2]
theorem Inv.ji(I:Inv X KZ σ H s)(h:Ln X.K H a xs)(h':Ln X.K H a ys):xs=ys:=by
 obtain⟨c,r,⟨o,n,e,_,_,d⟩,_⟩:=I.list h;obtain⟨b,i,⟨k,l,f,_,_,g⟩,_⟩:=I.list h';rw[e]at f;cases f;rw[d]at g;injection g with j _;have:c=b:=‹congrArg Array.toList j›
 subst this;exact r.inj i
theorem Inv.mT(I:Inv X KZ σ H s)(h:Lm X.K H a xs)(h':Lm X.K H a ys):xs=ys:=by
 obtain⟨c,r,⟨o,e,_,n,d⟩,_⟩:=I.tuple h;obtain⟨b,i,⟨k,f,_,l,g⟩,_⟩:=I.tuple h';rw[e]at f;cases f;rw[d]at g;injection g with j _;have:c=b:=‹congrArg Array.toList j›
 subst this;exact r.inj i
end
abbrev Cx.mR(X:Cx)(E:Hu->Hv->Prop):Cx:={ X with xe:=E }
abbrev Cx.nox(X:Cx):Cx:=X.mR λ_ _=>False
theorem Cx.Ok.mR{X:Cx}(ok:X.Ok)(E:Hu->Hv->Prop):(X.mR E).Ok:=#[ok.mod,ok.kind,ok.glob,ok.blt,ok.above,ok.inj,ok.has,ok.cab,ok.hd,ok.frames,ok.stk,ok.exf,ok.bs,ok.bsz,ok.noex,ok.exfs,ok.gD,ok.frf]
theorem Cx.Ok.gH{X:Cx}{E:Hu->Hv->Prop}(ok:(X.mR E).Ok):X.Ok:=#[ok.mod,ok.kind,ok.glob,ok.blt,ok.above,ok.inj,ok.has,ok.cab,ok.hd,ok.frames,ok.stk,ok.exf,ok.bs,ok.bsz,ok.noex,ok.exfs,ok.gD,ok.frf]
section
variable{X:Cx}{KZ:p4}{σ:St}{H:Hp}{s:Hv}{E:Hu->Hv->Prop}
theorem Inv.mR(I:Inv X KZ σ H s)(E:Hu->Hv->Prop):Inv (X.mR E) KZ σ H s:=#[I.ok.mR E,I.os,I.bare,I.base,I.loc,I.cell,I.free,I.freeC,I.pin,I.hok,I.len]
theorem Inv.gH(I:Inv (X.mR E) KZ σ H s):Inv X KZ σ H s:=#[I.ok.gH,I.os,I.bare,I.base,I.loc,I.cell,I.free,I.freeC,I.pin,I.hok,I.len]
theorem SP.gH{D:Ends}{f:Flow}{c:Hv}(h:SP (X.mR E) KZ D f c):SP X KZ D f c:=by
 cases f with
 |next=>let[a,b,I,q]:=h;exact #[a,b,I.gH,q]
 |brk=>let[a,b,I,q]:=h;exact #[a,b,I.gH,q]
 |cont=>let[a,b,I,q]:=h;exact #[a,b,I.gH,q]
 |ret u=>let[v,a,b,I,r,q]:=h;exact #[v,a,b,I.gH,r,q]
theorem Ng.nox{st:ri}{t:TS}(h:Ng X.nox st t):Ng X st t:=λKZ s σ H D I a=>HQ (h KZ s σ H D (I.mR _) a) (λ_ _ q=>q.gH) λ_ _ z=>Ic z
end
section
variable{X:Cx}{st:pe}{rest:ri}{t u:TS}{e:pv}{te:TE}{pos:Pos}
def Ff:TS:=λD σ H=>D.nx σ H
def G5(t u:TS):TS:=λD σ H=>t { D with nx:=u D } σ H
theorem zI:Ng X [] Ff:=λ_ _ σ H _ I h=>wpAny_execs_nil #[σ,H,I,h]
theorem wF(h1:PS X st t)(b:Ng X rest u):Ng X (st::rest) (G5 t u):=by
 intro KZ s σ H D I h;refine wpAny_execs_cons (Lc (h1 KZ s σ H { D with nx:=u D } I h) λf c q=>?_);cases f with
 |next=>
  let[a,d,g,q]:=q
  exact b KZ c a d D g q
 |ret v=>exact q
 |brk=>exact q
 |cont=>exact q
theorem Ax(h1:PS X st t):Ng X [st] t:=by
 intro KZ s σ H D I h;refine wpAny_execs_cons (Lc (h1 KZ s σ H D I h) λf a q=>?_);cases f with
 |next=>exact wpAny_execs_nil q
 |ret v=>exact q
 |brk=>exact q
 |cont=>exact q
theorem Inv.quiet{KZ:p4}{σ:St}{H:Hp}{s:Hv}(I:Inv X KZ σ H s):interactive X.env=KO:=by simp[interactive,I.ok.kind]
def En(te:TE):TS:=λD σ H=>te σ H λ_ H1=>D.nx σ H1
theorem zg(b:PE X e te)(c:JU e KL pos.line X.env=pure KO:=by rfl):PS X (.Expr e pos) (En te):=by intro KZ s σ H D I h;exact wpAny_Expr_any (Lc (b KZ s σ H _ I h) λv g a=>by let[x,H1,d,i,f]:=a;exact(#[σ,H1,d,f])) I.quiet c
def Gu(te:TE):TS:=λD σ H=>te σ H D.rt
theorem B1(b:PE X e te):PS X (.Return (KJ e) pos) (Gu te):=by intro KZ s σ H D I h;exact wpAny_Return_some (Lc (b KZ s σ H _ I h) λv g a=>by let[x,H1,c,d,f]:=a;exact(#[x,σ,H1,c,d,f]))
def Ho(c:TT)(t u:TS):TS:=λD σ H=>c σ H λb H1=>if b=KN then t D σ H1 else u D σ H1
theorem EF{c:pv}{a b:ri}{tc:TT}(k:PT X c tc)(l:Ng X a t)(m:Ng X b u):PS X (.If c a b pos) (Ho tc t u):=by
 intro KZ s σ H D I h;refine wpAny_If (Lc (k KZ s σ H _ I h) λd g f=>?_);let[H1,i,j]:=f;cases d with
 |true=>exact l KZ g σ H1 D i j
 |false=>exact m KZ g σ H1 D i j
def yN:TS:=λ_ _ _=>False
theorem yI:PS X st yN:=λ_ _ _ _ _ _ h=>h.elim
theorem vq{a:ri}:Ng X a yN:=λ_ _ _ _ _ _ h=>h.elim
end
abbrev TG:=V->St->Hp->(St->Hp->Prop)->Prop
abbrev QF:=ry->St->Hp->(St->Hp->Prop)->Prop
def PG(X:Cx)(a:pv)(t:TG):Prop:=
 ∀(KZ:p4) (s:Hv) (σ:St) (H:Hp) (v:V) (u:Hu) (Q:St->Hp->Prop),Inv X KZ σ H s->RelV v u->t v σ H Q->
  HJ (HP X.prog X.w) X.A (Kw a X.env u) (λ_ d=>∃b c,Inv X KZ b c d/\Q b c) X.xe s
def Qe(X:Cx)(ts:ro)(t:QF):Prop:=
 ∀(KZ:p4) (s:Hv) (σ:St) (H:Hp) (vs:ry) (us:List Hu) (Q:St->Hp->Prop),Inv X KZ σ H s->Vals vs us->t vs σ H Q->
  HJ (HP X.prog X.w) X.A (assignInOrder ((Ku ts X.env).map (·.2)) us) (λ_ c=>∃a b,Inv X KZ a b c/\Q a b) X.xe s
abbrev Cq:=V->V->V->Hp->(Hp->Prop)->Prop
def E5(X:Cx)(t:Cq):Prop:=
 ∀(KZ:p4) (s:Hv) (σ:St) (H:Hp) (o i v:V) (a b u:Hu) (Q:Hp->Prop),Inv X KZ σ H s->RelV o a->RelV i b->RelV v u->t o i v H Q->
  HJ (HP X.prog X.w) X.A (setItem a b u) (λ_ d=>∃c,Inv X KZ σ c d/\Q c) X.xe s
abbrev Wj:=V->V->Hp->VK->Prop
def Wm(X:Cx)(op:Operator)(t:Wj):Prop:=
 ∀(KZ:p4) (s:Hv) (σ:St) (H:Hp) (x y:V) (v u:Hu) (Q:VK),Inv X KZ σ H s->RelV x v->RelV y u->t x y H Q->
  HJ (HP X.prog X.w) X.A (inplaceOp op v u) (EP X KZ σ Q) X.xe s
section
variable{X:Cx}{pos:Pos}
def f6(i:Nat):TG:=λv σ H Q=>Q (σ.set i (KJ v)) H
theorem t9{i:Nat}{x:Str}(a:X.N.Nodup)(b:X.N[i]?=KJ x)(hx:Loc X.env.scope x)(c:X.fn x=KN\/X.env.scope.names.lookup x=KJ .local:=by first|exact .inl rfl|exact .inr rfl|assumption):PG X (.Name x pos) (f6 i):=by intro KZ s σ H v u Q I r h;exact wpAny_assign_Name (gI I a b hx r (λe d=>#[_,H,d,h]) c)
def CD:QF:=λvs σ H Q=>vs=[]/\Q σ H
def qg(t:TG)(u:QF):QF:=λvs σ H Q=>∃v r,vs=v::r/\t v σ H λa b=>u r a b Q
theorem tS:Qe X [] CD:=by intro KZ s σ H vs us Q I r h;let[e,h]:=h;subst e;cases r;exact assignInOrder_nil #[σ,H,I,h]
theorem lU{e:pv}{es:ro}{t:TG}{u:QF}(h1:PG X e t)(c:Qe X es u) (d:(Ku (e::es) X.env).map (·.2)=Kw e X.env::(Ku es X.env).map (·.2):=by rfl):Qe X (e::es) (qg t u):=by
 intro KZ s σ H vs us Q I r h;let[v,k,e1,h]:=h;subst e1;cases r with
 |cons r f=>
  rw[d]
  refine assignInOrder_cons (Lc (h1 KZ s σ H _ _ _ I r h) λ_ g a=>?_)
  let[b,H1,i,j]:=a
  exact c KZ g b H1 _ _ Q i f j
def BL(K:Ht)(n:Nat)(t:QF):TG:=λv σ H Q=>∃a xs,v=.ref a/\Lm K H a xs/\xs.length=n/\t xs σ H Q
theorem xX{es:ro}{k:Nat}{t:QF}{n:Nat}(g:X.calm=KN)(h:Qe X es t)
 (i:(Ku es X.env).length=n:=by rfl) (c:(Ku es X.env).findIdx? (·.1)=KL:=by rfl):PG X (.Tuple es k pos) (BL X.K n t):=by
 intro KZ s σ H v u Q I r d
 let[a,xs,e1,j,l,d]:=d
 subst e1
 cases r
 let[m,f,p,x]:=I.tuple j
 refine assign_Tuple_tuple (I.ok.hd g) p (by simp[i,<-l,f.length]) c λq hx=>?_
 have w:Inv X KZ σ H { s with heap:=q }:=I.kept (t':=s.toks) λb o e=>hx b o (Ip (HN e)) e
 exact h KZ _ σ H xs _ Q w ‹f› d
def Gp(to a:TE)(t:Cq):TG:=λv σ H Q=>to σ H λo H1=>a σ H1 λi b=>t o i v b λc=>Q σ c
theorem DY{o i:pv}{to f:TE}{t:Cq}(g:PE X o to)(j:PE X i f)(k:E5 X t)
 (l:∀v,Kw (.Subscript o i pos) X.env v=(do
  let d <-holding [v] (eval o X.env)
  let e <-holding [v,d] (eval i X.env)
  standAt pos
  holding [v,d,e] (setItem d e v)
  release [v,d,e] []):=by intro _;rfl):PG X (.Subscript o i pos) (Gp to f t):=by
 intro KZ s σ H v u Q I r h
 rw[l]
 refine cc (Jg (Lc (g KZ s σ H _ I h) λd m a=>?_))
 let[x,H1,n,p,q]:=a
 refine cc (Jg (Lc (j KZ m σ H1 _ n q) λe w b=>?_))
 let[y,z,A,B,C]:=b
 refine cc (Jv (cc (Jg (Lc (k KZ w σ z x y v d e u _ A p B r C) λ_ G c=>?_))))
 let[D,E,F]:=c
 exact wpAny_release #[σ,D,E,F]
def AY(te:TE)(g:TG):TS:=λD σ H=>te σ H λx H1=>g x σ H1 D.nx
theorem CC{tg e:pv}{te:TE}{g:TG}(b:PE X e te)(c:PG X tg g)(d:swapsWithSole [tg] e pos.line X.env=pure KO:=by rfl)(hw:swappedStores [tg] e X.env=pure KL:=by rfl) (h1:(Ku [tg] X.env).map (·.2)=[Kw tg X.env]:=by rfl):PS X (.Assign [tg] e pos) (AY te g):=by intro KZ s σ H D I h;refine wpAny_Assign_stores (Lc (b KZ s σ H _ I h) λv f a=>?_) d hw;let[x,H1,i,j,k]:=a;rw[h1];exact Lc (c KZ f σ H1 x v _ i j k) λ_ l q=>q
theorem DN{i:Nat}{x:Str}{e:pv}{te:TE}{b:Pos}(c:X.N.Nodup)(d:X.N[i]?=KJ x)(hx:Loc X.env.scope x)(f:PE X e te)(g:JU e (KJ (.Name x b)) pos.line X.env=pure KO:=by rfl)(j:X.fn x=KN\/X.env.scope.names.lookup x=KJ .local:=by first|exact .inl rfl|exact .inr rfl|assumption) : PS X (.Assign [.Name x b] e pos) (AY te (f6 i)):=by intro KZ s σ H D I h;refine wpAny_Assign_Name (Lc (f KZ s σ H _ I h) λv o a=>?_) g;let[y,H1,k,l,m]:=a;exact gI k c d hx l (λp n=>#[_,H1,n,m]) j
def Hh(i j:Nat)(a:TA):TS:=λD σ H=>a σ H λvs H1=>∃v w,vs=[v,w]/\D.nx ((σ.set i (KJ v)).set j (KJ w)) H1
theorem Dh{i j:Nat}{x y:Str}{a b:pv}{C:TA}{l m pt:Pos}{n r d}(G:X.calm=KN)(E:X.N.Nodup)(J:X.N[i]?=KJ x)(K:X.N[j]?=KJ y)(t:i≠j)
 (hx:X.env.scope.names.lookup x=KJ .local) (hy:X.env.scope.names.lookup y=KJ .local) (L:PA X [a,b] C)
 (hw:swappedStores [.Tuple [.Name x l,.Name y m] n pt] (.Tuple [a,b] r d) X.env=pure (KJ [x,y]))
 (M:swapsWithSole [.Tuple [.Name x l,.Name y m] n pt] (.Tuple [a,b] r d) pos.line X.env=pure KO:=by rfl) :
 PS X (.Assign [.Tuple [.Name x l,.Name y m] n pt] (.Tuple [a,b] r d) pos) (Hh i j C):=by
 intro KZ s σ H D I h
 rw[exec_Assign_arm]
 refine cc (Jv ?_)
 rw[M]
 refine cc (Hz ?_)
 rw[KP ⋯]
 refine cc (Tuple_ (Lc (L _ KZ s σ H _ I h) λus f c=>?_))
 let[vs,H1,O,P,u]:=c
 let[v,w,e1,u]:=u
 subst e1
 obtain⟨g,k,rfl,Q,z⟩:∃g k,us=[g,k]/\RelV v g/\RelV w k:=by
  cases P with
  |cons p q=>
   cases q with
   |cons R S=>
    cases S
    exact #[_,7,p,R]
 refine IT ?_ (by show 2<=HR;decide)
 have T:Inv X KZ σ H1 { f with heap:=f.heap.push { cls:=.type "tuple",data:=.seq [g,k].toArray } }:=O.kept (t':=f.toks) λb o e=>Hx _ e
 rw[hw]
 refine cc (Hz ?_)
 show HJ (HP X.prog X.w) X.A (do rule "assign.swapped-stores";let items <-unpackItems (.ref f.z) 2 KL;assignInOrder [λv=>bindName X.env y v,λv=>bindName X.env x v] items.reverse;pure Flow.next) _ _ _
 refine cc (wpAny_rule (cc (unpackItems_tuple (items:=(List.toArray [g,k])) (I.ok.hd G) (IsTup.new f.heap _) λh' B=>?_)))
 have U:=T.kept (h':=h') (t':=f.toks) λb o e=>B b o (Ip (HN e)) e
 show HJ _ _ (assignInOrder [λv=>bindName X.env y v,λv=>bindName X.env x v] [k,g] >>= λ_=>pure Flow.next) _ _ _
 refine cc (assignInOrder_cons (wpAny_bindName (gI U E K (.inl hy) z (λW V=>?_) (.inr hy))))
 refine assignInOrder_cons (wpAny_bindName (gI V E J (.inl hx) Q (λY F=>assignInOrder_nil (Hz ?_)) (.inr hx)))
 rw[List.set_comm _ _ (Ne.symm t)]at F
 exact #[_,H1,F,u]
def G7(i:Nat)(te:TE)(a:Wj):TS:=λD σ H=>∃x,σ[i]?=KJ (KJ x)/\te σ H λy H1=>a x y H1 λz b=>D.nx (σ.set i (KJ z)) b
theorem D6{i:Nat}{x:Str}{e:pv}{te:TE}{op:Operator}{p:Wj}{g:Pos}(t:X.N.Nodup)(q:X.N[i]?=KJ x)(hx:Loc X.env.scope x)(B:PE X e te)(C:Wm X op p)(E:X.fn x=KN\/X.env.scope.names.lookup x=KJ .local:=by first|exact .inl rfl|exact .inr rfl|assumption) :
 PS X (.AugAssign (.Name x g) op e pos) (G7 i te p):=by
 intro KZ s σ H D I h
 let[v,e1,h]:=h
 let[m,F,G]:=I.loc
 have o:WV X.env.scope x:=by rcases hx with k|k;exact .inl k;exact .inr (.inl k)
 let[u,r,l]:=G i x v q e1 o
 refine wpAny_AugAssign_Name ?_
 have go:HJ (HP X.prog X.w) X.A (eval e X.env) (λw j=>HJ (HP X.prog X.w) X.A (inplaceOp op u w) (λr n=>HJ (HP X.prog X.w) X.A (storeName X.env x r) (λ_=>SP X KZ D .next) X.xe n) X.xe j) X.xe s:=by
  refine Lc (B KZ s σ H _ I h) λw J a=>?_
  let[y,H1,K,L,M]:=a
  refine Lc (C KZ J σ H1 v y u w _ K r L M) λz V b=>?_
  let[W,O,P,Q,R]:=b
  exact gI P t q hx Q (λY S=>#[_,O,S,R]) E
 rcases l with⟨d,T⟩|⟨d,c,U,f⟩
 .exact wpAny_loadName_local I.ok.kind d F T go
 .rcases d with d|d
  .exact wpAny_loadName_cell I.ok.kind d U f go
  .rcases hx with k|k
   .have:X.env.scope.names.lookup x=KJ .free:=d
    rw[k]at this;cases this
   .have:X.env.scope.names.lookup x=KJ .free:=d
    rw[k]at this;cases this
def Yb(f:Int->Int->Int):Wj:=λx y H Q=>∃i j,x=.int i/\y=.int j/\Q (.int (f i j)) H
theorem xh:Wm X .Add (Yb λi j=>i+j):=by intro KZ s σ H x y v u Q I a b h;let[i,j,e1,e2,q]:=h;subst e1;subst e2;let[t,rfl]:=a;let[c,rfl]:=b;exact iadd_int #[.int _,H,I.tok _,#[_,rfl],q]
theorem Dq:Wm X .Sub (Yb λi j=>i-j):=by intro KZ s σ H x y v u Q I a b h;let[i,j,e1,e2,q]:=h;subst e1;subst e2;let[t,rfl]:=a;let[c,rfl]:=b;exact isub_int #[.int _,H,I.tok _,#[_,rfl],q]
end
section
variable{X:Cx}{pos:Pos}
def Cb(c:TT)(f:TS):TS:=λD σ H=>∃W:Nat->St->Hp->Prop,(∃m,W m σ H)/\∀m σ H,W m σ H->
 c σ H λb H1=>if b=KN then ∃N:St->Hp->Prop,(∀a d,N a d->∃e,e<m/\W e a d)/\f { D with nx:=N,ct:=N,bk:=D.nx } σ H1 else D.nx σ H1
theorem xQ{c:pv}{body:ri}{tc:TT}{t:TS}(u:PassesOwn (HP X.prog X.w) X.A X.env X.xe)(C:PT X c tc)(E:Ng X body t):PS X (.While c body [] pos) (Cb tc t):=by
 intro KZ s σ H D I h;obtain⟨W,⟨F,G⟩,g⟩:=h;refine wpAny_While (codeAny_whileLoop (λn J=>∃i x,Inv X KZ i x J/\W n i x) ?_ F #[σ,H,I,G]);rintro n K ⟨d,H1,L,M⟩;refine Km u (Lc (C KZ K d H1 _ L (g n d H1 M)) λb O e=>?_);let[y,z,k]:=e;cases b with
 |true=>
  let[N,B,k]:=k
  rw[KQ rfl]
  refine Km u (Lc (E KZ O d y _ z k) λf P l=>?_)
  cases f with
  |next=>
   let[a,j,m,o]:=l
   let[p,q,r]:=B a j o
   exact #[p,q,a,j,m,r]
  |cont=>
   let[a,j,m,o]:=l
   let[p,q,r]:=B a j o
   exact #[p,q,a,j,m,r]
  |brk=>exact l
  |ret v=>exact l
 |false=>
  rw[KP Ib]
  exact wpAny_execs_nil #[d,y,z,k]
end
structure It where
 go:Nat->Hp->Prop
 yld:Nat->Hp->V->Hp->Prop
 stop:Nat->Hp->Prop
def cH(X:Cx)(KZ:p4)(H:Hp)(b:pd):Prop:=
 H b=KL/\b≠X.env.locals/\b∉X.fs/\(b∈X.ex\/X.s₀.z<=b)/\(∀x c,X.env.cells.lookup x=KJ c->c≠b)/\∀p∈X.pn++KZ,p.1≠b
theorem Inv.pH{X:Cx}{KZ:p4}{σ:St}{H d:Hp}{s:Hv}{b:pd}(I:Inv X KZ σ H s)(a:s.z<=b)(f:d b=KL):cH X KZ d b:=by
 refine #[f,Nat.ne_of_gt (Ig I.lt a),I.Ha a,.inr (ID I.sz a),λx c e z=>?_,λp g z=>?_]
 .obtain⟨v,q⟩:=I.cell x c e;exact absurd (Ig q.lt (by rw[z];exact a)) (Ks _)
 .exact absurd (Ig (HN (I.pin p g).1) (by rw[z];exact a)) (Ks _)
structure Turn(P:HW)(w:IA)(K:Ht)(tg:pv)(J:It)(fp:rq)(it:pd)(tn:Nat->pq->Prop):Prop where
 mem:it∈fp
 obj:∀i h,tn i h->∀b∈fp,∃o,h.get? b=KJ o/\∀v,o.data≠.cell v
 keep:∀i h h',tn i h->(∀b∈fp,∀o,h.get? b=KJ o->h'.get? b=KJ o)->tn i h'
 item:∀(X:Cx),X.prog=P->X.w=w->X.K=K->X.calm=KN->∀(i:Nat) (KZ:p4) (s:Hv) (σ:St) (H:Hp) (E:Hu->Hv->Prop),Inv X KZ σ H s->(∀b∈fp,cH X KZ H b)->tn i s.heap->J.go i H->
  HJ (HP P w) X.A (pyNext (.ref it)) (λr s1=>∃u,r=KJ u/\
   HJ (HP P w) X.A (JP tg (.ref it) u) (λ_ s2=>∃x H',Inv X KZ σ H' s2/\RelV x u/\J.yld i H x H'/\tn (i+1) s2.heap/\∀b∈fp,H' b=KL) E s1) E s
 done:∀(X:Cx),X.prog=P->X.w=w->X.K=K->X.calm=KN->∀(i:Nat) (KZ:p4) (s:Hv) (σ:St) (H:Hp) (E:Hu->Hv->Prop),Inv X KZ σ H s->(∀b∈fp,cH X KZ H b)->tn i s.heap->J.stop i H->
  HJ (HP P w) X.A (pyNext (.ref it)) (λr s1=>r=KL/\Inv X KZ σ H s1) E s
 self:∀(A:Iv) (i:Nat) (s:Hv) (Q:Hu->Hv->Prop) (E:Hu->Hv->Prop),tn i s.heap->Q (.ref it) s->HJ (HP P w) A (pyIter (.ref it)) Q E s
abbrev TI:=St->Hp->(It->Hp->Prop)->Prop
def Yw(X:Cx)(KZ:p4)(σ:St)(tg:pv)(R:It->Hp->Prop)(a:Hu)(d:Hv):Prop:=
 ∃(it:pd) (fp:rq) (tn:Nat->pq->Prop) (J:It) (c:Hp),a=.ref it/\Inv X KZ σ c d/\Turn X.prog X.w X.K tg J fp it tn/\tn 0 d.heap/\(∀b∈fp,cH X KZ c b)/\R J c
def PI(X:Cx)(tg a:pv)(b:TI):Prop:=
 ∀(KZ:p4) (s:Hv) (σ:St) (H:Hp) (R:It->Hp->Prop),Inv X KZ σ H s->b σ H R->
  HJ (HP X.prog X.w) X.A (eval a X.env) (λv c=>HJ (HP X.prog X.w) X.A (pyIter v) (Yw X KZ σ tg R) X.xe c) X.xe s
theorem xy{M:Model}{A:Iv}{E:Hu->Hv->Prop}{s:Hv}{tg:pv}{it:pd}{u:Hu}{o:Obj}{n:String}{vs:Array Hu}{Q:Unit->Hv->Prop}(b:s.heap.get? it=KJ o)(c:o.cls=.type n)(hd:o.data=.fields vs) (d:["enumerate","zip","dict_itemiterator","dict_reverseitemiterator","odict_iterator","itertools.zip_longest","itertools.pairwise"].contains n=KO) (a:Q .unit s):HJ M A (JP tg (.ref it) u) Q E s:=by
 unfold JP
 cases tg<;>first
  |exact Hz a
  |(cases u<;>first
   |exact Hz a
   |(refine cc (wpAny_load b ?_)
     rw[c,hd]
     show HJ M A (if(["enumerate","zip","dict_itemiterator","dict_reverseitemiterator","odict_iterator","itertools.zip_longest","itertools.pairwise"].contains n&&vs[0]?==KJ (KD _))=KN then _ else _) Q E s
     rw[KP (by intro h;rw[d,Bool.false_and]at h;cases h)]
     exact Hz a))
def ZC(K:Ht)(a:pd):It:=
 #[λi H=>∃xs x,Ln K H a xs/\xs[i]?=KJ x,λi H x b=>b=H/\∀xs,Ln K H a xs->xs[i]?=KJ x,λi H=>∃xs,Ln K H a xs/\xs.length<=i]
def ZA(K:Ht)(a:pd):It:=
 #[λi H=>∃xs x,Lm K H a xs/\xs[i]?=KJ x,λi H x b=>b=H/\∀xs,Lm K H a xs->xs[i]?=KJ x,λi H=>∃xs,Lm K H a xs/\xs.length<=i]
def Qr(a:Int)(n:Nat):It:=#[λi _=>i<n,λi H x b=>b=H/\x=.int (a+i),λi _=>n<=i]
theorem vH{P:HW}{w:IA}{K:Ht}{tg:pv}(a it:pd):Turn P w K tg (ZC K a) [it] it (λi h=>h.IsListIter it a i) where
 mem:=by simp
 obj:=λi h st b f=>by
  have e:b=it:=‹f›
  subst e
  let[o,e,c,d]:=st
  exact #[o,e,λv z=>by rw[d]at z;cases z]
 keep:=λi h j st k=>st.at λo e=>k it (by simp) o e
 item:=by
  intro X n q r J i KZ s σ H E I l st t
  subst n q r
  let[xs,x,m,hx]:=t
  let[y,A,p,L]:=I.list m
  let[u,M,N]:=A.get hx
  let[B,C,O,D,F,G]:=l it (by simp)
  refine wpAny_pyNext_list_item st p.isList (x:=u) ‹M› λj g Q=>?_
  have R:Inv X KZ σ H { s with heap:=j }:=I.turned (t':=s.toks) (λb o f e=>(Q.2 b f).trans e) B C D F G
  let[o,e,c,d]:=id g
  exact #[u,rfl,xy (s:={ s with heap:=j }) e c d ⋯ #[x,H,R,N,#[rfl,λS hy=>by rw[I.ji hy m];exact hx],g,λb f=>(l b f).1]]
 done:=by
  intro X n q r J i KZ s σ H E I l st t
  subst n q r
  let[xs,m,hx]:=t
  let[y,A,p,L]:=I.list m
  let[B,C,O,D,F,G]:=l it (by simp)
  have T:=A.length
  exact wpAny_pyNext_list_end (I.ok.hd J) st p.isList (by simp;omega) λj eb=>#[rfl,I.turned (t':=s.toks) (λb o f e=>eb b o f e) B C D F G]
 self:=λ_ _ _ _ _ st h=>wpAny_pyIter_listiter st h
theorem rW{P:HW}{w:IA}{K:Ht}{tg:pv}(a it:pd):Turn P w K tg (ZA K a) [it] it (λi h=>h.IsTupleIter it a i) where
 mem:=by simp
 obj:=λi h st b f=>by
  have e:b=it:=‹f›
  subst e
  let[o,e,c,d]:=st
  exact #[o,e,λv z=>by rw[d]at z;cases z]
 keep:=λi h l st k=>st.at λo e=>k it (by simp) o e
 item:=by
  intro X q r t J i KZ s σ H E I m st y
  subst q r t
  let[xs,x,n,hx]:=y
  let[g,A,p,L]:=I.tuple n
  let[u,M,N]:=A.get hx
  let[B,C,O,D,F,G]:=m it (by simp)
  refine wpAny_pyNext_tuple_item st (show s.heap.IsTuple a g.toArray from p) (x:=u) ‹M› λl j Q=>?_
  have R:Inv X KZ σ H { s with heap:=l }:=I.turned (t':=s.toks) (λb o f e=>(Q.2 b f).trans e) B C D F G
  let[o,e,c,d]:=id j
  exact #[u,rfl,xy (s:={ s with heap:=l }) e c d ⋯ #[x,H,R,N,#[rfl,λS hy=>by rw[I.mT hy n];exact hx],j,λb f=>(m b f).1]]
 done:=by
  intro X q r t J i KZ s σ H E I m st y
  subst q r t
  let[xs,n,hx]:=y
  let[g,A,p,L]:=I.tuple n
  let[B,C,O,D,F,G]:=m it (by simp)
  have T:=A.length
  exact wpAny_pyNext_tuple_end (I.ok.hd J) st (show s.heap.IsTuple a g.toArray from p) (by simp;omega) λl eb=>#[rfl,I.turned (t':=s.toks) (λb o f e=>eb b o f e) B C D F G]
 self:=λ_ _ _ _ _ st h=>wpAny_pyIter_tupleiter st h
theorem so{P:HW}{w:IA}{K:Ht}{tg:pv}(it:pd)(d:Int)(n:Nat):Turn P w K tg (Qr d n) [it] it (λi h=>IsRangeIter h it (d+(i:Nat)*1) ((n:Int)-(i:Nat)) 1) where
 mem:=by simp
 obj:=λi h st b a=>by
  have e:b=it:=‹a›
  subst e
  exact #[_,st,λv z=>by
   have C:Data.fields _=Data.cell v:=z
   cases C]
 keep:=λi h f st k=>k it (by simp) _ st
 item:=by
  intro X j l m p i KZ s σ H E I g st q
  subst j l m
  let[r,u,D,x,y,A]:=g it (by simp)
  have W:=Walks.range (prog:=X.prog) (w:=X.w) (I.ok.hd p) it d 1 n
  refine W.item i s _ _ q st λv f B hv c F=>?_
  let[t,rfl]:=hv
  have G:Inv X KZ σ H { s with heap:=f,toks:=B }:=I.turned (λb o a e=>F b o ‹a› e) r u x y A
  refine #[7,xy (s:={ s with heap:=f,toks:=B }) (n:="range_iterator") c rfl rfl ⋯ #[.int (d+i),H,G,#[t,?_],#[rfl,rfl],c,λb a=>(g b a).1]]
  rw[Int.mul_one]
 done:=by
  intro X j l m p i KZ s σ H E I g st q
  subst j l m
  let[r,u,D,x,y,A]:=g it (by simp)
  exact wpAny_pyNext_range_end (I.ok.hd p) st (by have:n<=i:=q;omega) λf eb=>#[rfl,I.turned (t':=s.toks) (λb o a e=>eb b o a e) r u x y A]
 self:=λ_ _ _ _ _ st h=>wpAny_pyIter_rangeiter st h
section
variable{X:Cx}{tg:pv}
theorem wG{KZ:p4}{σ:St}{H:Hp}{s:Hv}{R:It->Hp->Prop}{E:Hu->Hv->Prop}{a c:Int}{t u v:Tok}{tk:Nat}(I:Inv X KZ σ H s)(h1:-(2^62)<=a)(f:a<2^62)(g:-(2^62)<=c)(h:c<2^62)
 (q:R (Qr a (c-a).toNat) H):HJ (HP X.prog X.w) X.A (pyIter (.ref s.z)) (Yw X KZ σ tg R) E { s with heap:=s.heap.push { cls:=.type "range",data:=.fields (List.toArray [.int a t,.int c u,.int 1 v]) },toks:=tk }:=by
 refine wpAny_pyIter_range (IsRange.new ..) (small_one h1 f g h) ?_
 have d:Inv X KZ σ H { s with heap:=s.heap.push { cls:=.type "range",data:=.fields (List.toArray [.int a t,.int c u,.int 1 v]) },toks:=tk }:=I.kept λb o e=>Hx _ e
 refine #[(s.heap.push { cls:=.type "range",data:=.fields (List.toArray [.int a t,.int c u,.int 1 v]) }).objs.size,[(s.heap.push { cls:=.type "range",data:=.fields (List.toArray [.int a t,.int c u,.int 1 v]) }).objs.size],_,_,H,rfl,
  d.kept (t':=tk) λb o e=>Hx _ e,so _ a (c-a).toNat,?_,λb i=>?_,q]
 .have e1:a+((0:Nat):Int)*1=a:=by simp
  have e2:(((c-a).toNat:Nat):Int)-((0:Nat):Int)=Builtin.Range.rangeSize a c 1:=by rw[rangeSize_one];split<;>omega
  show IsRangeIter _ _ (a+((0:Nat):Int)*1) ((((c-a).toNat:Nat):Int)-((0:Nat):Int)) 1
  rw[e1,e2]
  exact HG _ rfl
 .have e:b=(s.heap.push { cls:=.type "range",data:=.fields (List.toArray [.int a t,.int c u,.int 1 v]) }).objs.size:=‹i›
  subst e
  exact d.pH (HD _) (d.hok.fresh (HD _))
def FU(a:TA):TI:=λσ H R=>a σ H λvs H1=>∃j:Int,vs=[.int j]/\-(2^62)<=j/\j<2^62/\R (Qr 0 j.toNat) H1
theorem mX{a:pv}{d:TA}{p pos:Pos}(f:Gl X "range")(g:X.mg "range"=KL)(i:PA X [a] d)(k:HM [a] X.env=[(KO,eval a X.env)]:=by rfl):PI X tg (.Call (.Name "range" p) [a] [] pos) (FU d):=by
 intro KZ s σ H R I h;refine Call_ (gM I f g boot_range (JG (Lc (i pos KZ s σ H _ I h) λus u b=>?_) k rfl));let[vs,H1,l,m,c]:=b;let[j,e,c,n,q]:=c;subst e;cases m with
 |cons r o=>
  cases o
  let[t,rfl]:=r
  exact call_range_1 (wG l () () c n ‹q›)
def GX(e:TI)(g:TG)(f:TS):TS:=λD σ H=>e σ H λJ H1=>∃W:Nat->Nat->St->Hp->Prop,(∃m,W 0 m σ H1)/\∀i m σ H,W i m σ H->
 (J.stop i H/\D.nx σ H)\/(J.go i H/\∃N:St->Hp->Prop,(∀a b,N a b->∃d,d<m/\W (i+1) d a b)/\∀x b,J.yld i H x b->g x σ b λc h=>f { D with nx:=N,ct:=N,bk:=D.nx } c h)
def gF(fp:rq)(h:pq):p4:=fp.filterMap λb=>(h.get? b).map λo=>(b,o)
theorem bH{fp:rq}{h:pq}{b:pd}{o:Obj}(a:b∈fp)(e:h.get? b=KJ o):(b,o)∈gF fp h:=List.mem_filterMap.mpr #[b,a,by rw[e];rfl]
theorem vT{fp:rq}{h:pq}{p:pd×Obj}(a:p∈gF fp h):p.1∈fp/\h.get? p.1=KJ p.2:=by
 let[b,c,e]:=List.mem_filterMap.mp a;cases q:h.get? b with
 |none=>rw[q]at e;cases e
 |some o=>
  rw[q]at e
  have d:(b,o)=p:=Option.some.inj e
  subst d
  exact #[c,q]
theorem Inv.pinned{KZ:p4}{σ:St}{H:Hp}{s:Hv}{fp:rq}(I:Inv X KZ σ H s)(f:∀b∈fp,cH X KZ H b)(g:∀b∈fp,∃o,s.heap.get? b=KJ o/\∀v,o.data≠.cell v):Inv X (KZ++gF fp s.heap) σ H s:=
 I.tf λp h=>(HX.mp h).elim (λz=>I.pin p (Ia _ z)) λz=>by
  let[a,e]:=vT z
  let[i,j,k,_]:=f p.1 a
  let[o,c,d]:=g p.1 a
  rw[e]at c;cases c
  exact #[e,i,j,k,d]
theorem Inv.eD{KZ pl:p4}{σ:St}{H:Hp}{s:Hv}(I:Inv X (KZ++pl) σ H s):Inv X KZ σ H s:=I.tf λp a=>I.pin p (Ia _ (List.mem_append_left _ a))
theorem yo{c:pv}{body:ri}{Y:TI}{g:TG}{Z:TS}{pos:Pos}(K:PassesOwn (HP X.prog X.w) X.A X.env X.xe)(hc:X.calm=KN)(hi:PI X tg c Y)(hg:PG X tg g)(j:Ng X body Z)
 (hs:∀x,Ik c X.env x=pure x:=by intro _;rfl):PS X (.For tg c body [] pos) (GX Y g Z):=by
 intro KZ s σ H D I h
 refine wpAny_For (Lc (hi KZ s σ H _ I h) λv s1 h1=>Lc h1 λa0 s2 h2=>?_) hs
 obtain⟨it,fp,tn,J,H2,e,I2,T,RE,f2,W,⟨m0,w0⟩,L⟩:=h2
 subst e
 have k:∀{z:Hp},(∀b∈fp,z b=KL)->∀b∈fp,cH X KZ z b:=λhn b j=>#[hn b j,(f2 b j).2]
 refine codeAny_forLoop_any (λn s'=>∃i l z,Inv X KZ l z s'/\tn i s'.heap/\(∀b∈fp,z b=KL)/\W i n l z) ?_ m0 #[0,σ,H2,I2,RE,λb j=>(f2 b j).1,w0]
 rintro n s3 ⟨i,p,P,I3,Ql,M,w3⟩
 rcases L i n p P w3 with⟨stop,qn⟩|⟨go,N,hN,step⟩
 .refine Km K (Lc (T.done X rfl rfl rfl hc i KZ s3 p P X.xe I3 (k M) Ql stop) λr s4 B=>?_)
  let[Q,I4]:=B
  subst Q
  exact wpAny_execs_nil #[p,P,I4,qn]
 .refine Km K (Lc (T.item X rfl rfl rfl hc i KZ s3 p P X.xe I3 (k M) Ql go) λr s4 C=>?_)
  let[u,Q,h4]:=C
  subst Q
  refine Km K (Lc h4 λ_ s5 E=>?_)
  let[x,H5,I5,r5,y5,N1,R]:=E
  have S:=I5.pinned (k R) (T.obj _ _ N1)
  refine Km K (Lc (hg _ s5 p H5 x u _ S r5 (step x H5 y5)) λ_ s6 F=>?_)
  let[U,H6,I6,q6]:=F
  refine Km K (Lc (j _ s6 U H6 _ I6 q6) λf V G=>?_)
  have q:∀{a:St} {t:Hp},Inv X (KZ++gF fp s5.heap) a t V->N a t->∃m,m<n/\∃i l z,Inv X KZ l z V/\tn i V.heap/\(∀b∈fp,z b=KL)/\W i m l z:=λ{a t} y O=>by
   let[m',hm,w7]:=hN a t O
   refine #[m',hm,i+1,a,t,y.eD,T.keep _ _ _ N1 λb j o e=>(y.pin (b,o) (Ia _ (Ia _ (bH j e)))).1,λb j=>?_,w7]
   let[o,e,d]:=T.obj _ _ N1 b j
   exact(y.pin (b,o) (Ia _ (Ia _ (bH j e)))).2.1
  cases f with
  |next=>let[a,t,y,O]:=G;exact q y O
  |cont=>let[a,t,y,O]:=G;exact q y O
  |brk=>let[a,t,y,G]:=G;exact #[a,t,y.eD,G]
  |ret v=>let[x7,a,t,y,r7,G]:=G;exact #[x7,a,t,y.eD,r7,G]
end
theorem v5{h:Int}{n:Nat}{g:TG}{k:TS}{D:Ends}{σ:St}{H:Hp}(a:Nat->St->Hp->Prop)(h0:a 0 σ H)
 (o:∀i σ H,i<n->a i σ H->g (.int (h+i)) σ H λb j=>k { D with nx:=a (i+1),ct:=a (i+1),bk:=D.nx } b j) (hd:∀σ H,a n σ H->D.nx σ H) :
 ∃W:Nat->Nat->St->Hp->Prop,(∃m,W 0 m σ H)/\∀i m σ H,W i m σ H->
  ((Qr h n).stop i H/\D.nx σ H)\/((Qr h n).go i H/\∃N:St->Hp->Prop,(∀c d,N c d->∃l,l<m/\W (i+1) l c d)/\∀x d,(Qr h n).yld i H x d->g x σ d λb j=>k { D with nx:=N,ct:=N,bk:=D.nx } b j):=by
 refine #[λi m σ H=>m=n-i/\i<=n/\a i σ H,#[n,by simp,J3 _,h0],?_]
 rintro i m σ H ⟨rfl,r,p⟩
 by_cases f:i<n
 .refine .inr #[f,a (i+1),λc d q=>#[n-(i+1),(),rfl,f,q],λx d y=>?_]
  let[e,y]:=y
  subst e y
  exact o i σ _ f p
 .have e:i=n:=()
  subst e
  exact .inl #[HD _,hd σ H p]
abbrev R2:=V->V->Hp->VK->Prop
def MQ(X:Cx)(f:Hu->Hu->Sem Hu)(r:R2):Prop:=
 ∀(KZ:p4) (s:Hv) (σ:St) (H:Hp) (x y:V) (v u:Hu) (Q:VK),Inv X KZ σ H s->RelV x v->RelV y u->r x y H Q->
  HJ (HP X.prog X.w) X.A (f v u) (EP X KZ σ Q) X.xe s
def WW(X:Cx)(f:Hu->Sem Hu)(r:V->Hp->VK->Prop):Prop:=
 ∀(KZ:p4) (s:Hv) (σ:St) (H:Hp) (x:V) (v:Hu) (Q:VK),Inv X KZ σ H s->RelV x v->r x H Q->
  HJ (HP X.prog X.w) X.A (f v) (EP X KZ σ Q) X.xe s
def b5(X:Cx)(f:Hu)(r:ry->Hp->VK->Prop):Prop:=
 ∀(KZ:p4) (s:Hv) (σ:St) (H:Hp) (xs:ry) (us:List Hu) (Q:VK),Inv X KZ σ H s->Vals xs us->r xs H Q->
  HJ (HP X.prog X.w) X.A (call f us) (EP X KZ σ Q) X.xe s
def GI(X:Cx)(r:V->Hp->(Bool->Hp->Prop)->Prop):Prop:=
 ∀(KZ:p4) (s:Hv) (σ:St) (H:Hp) (x:V) (v:Hu) (Q:Bool->Hp->Prop),Inv X KZ σ H s->RelV x v->r x H Q->
  HJ (HP X.prog X.w) X.A (truthy v) (TP X KZ σ Q) X.xe s
def Qs(r:R2)(a b:TE):TE:=λσ H Q=>a σ H λx H1=>b σ H1 λy c=>r x y c Q
def ZV(r:V->Hp->VK->Prop)(a:TE):TE:=λσ H Q=>a σ H λx H1=>r x H1 Q
def rI(C:Int->Int->Prop)(g:Int->Int->V):R2:=λx y H Q=>∃i j,x=.int i/\y=.int j/\C i j/\Q (g i j) H
def QC(g:Int->Int->V):R2:=λx y H Q=>∃i j,x=.int i/\y=.int j/\Q (g i j) H
def rU(g:Int->V):V->Hp->VK->Prop:=λx H Q=>∃i,x=.int i/\Q (g i) H
section
variable{X:Cx}{a b c:pv}{ta tb tc:TE}{pos:Pos}
theorem DM(l:PE X a ta)(m:PE X b tb){KZ:p4}{s:Hv}{σ:St}{H:Hp}{R:V->V->Hp->Prop}(I:Inv X KZ σ H s) (h:ta σ H λx H1=>tb σ H1 λy g=>R x y g) {Q:Hu->Hv->Prop} {f:Hu->Hu->Sem Hu} (n:∀v u k x y g,Inv X KZ σ g k->RelV x v->RelV y u->R x y g->HJ (HP X.prog X.w) X.A (f v u) Q X.xe k) : HJ (HP X.prog X.w) X.A (eval a X.env) (λv i=>HJ (HP X.prog X.w) X.A (eval b X.env) (λu j=>HJ (HP X.prog X.w) X.A (f v u) Q X.xe j) X.xe i) X.xe s:=by refine Lc (l KZ s σ H _ I h) λv o d=>?_;let[x,H1,p,q,r]:=d;refine Lc (m KZ o σ H1 _ p r) λu k e=>?_;let[y,g,t,z,B]:=e;exact n v u k x y g t q z B
theorem EB{op:Operator}{r:R2}(d:MQ X (JR op) r)(e:PE X a ta)(f:PE X b tb):PE X (.BinOp a op b pos) (Qs r ta tb):=by intro KZ s σ H Q I h;exact wpAny_BinOp (DM e f I h λv u g x y i j k l q=>d KZ g σ i x y v u Q j k l q)
theorem Fh{op:UnaryOp}{r:V->Hp->VK->Prop}(e:WW X (unaryOp op) r)(f:PE X a ta):PE X (.UnaryOp op a pos) (ZV r ta):=by intro KZ s σ H Q I h;exact UnaryOp_ (Lc (f KZ s σ H _ I h) λv g d=>by let[x,H1,i,j,k]:=d;exact(e KZ g σ H1 x v Q i j k))
theorem Wg{f:Hu->Hu->Sem Hu}{C:Int->Int->Prop}{g:Int->Int->Int} (d:∀(i j:Int) (t u:Tok) (s:Hv) (Q:Hu->Hv->Prop) (E:Hu->Hv->Prop),C i j->Q (.int (g i j) s.toks) { s with toks:=s.toks+1 }->HJ (HP X.prog X.w) X.A (f (.int i t) (.int j u)) Q E s) : MQ X f (rI C λi j=>.int (g i j)):=by intro KZ s σ H x y v u Q I e k h;let[i,j,rfl,rfl,l,q]:=h;let[t,rfl]:=e;let[m,rfl]:=k;exact d i j t m s _ _ l #[.int (g i j),H,I.tok _,#[_,rfl],q]
theorem B2{f:Hu->Hu->Sem Hu}{g:Int->Int->Int} (d:∀(i j:Int) (t u:Tok) (s:Hv) (Q:Hu->Hv->Prop) (E:Hu->Hv->Prop),Q (.int (g i j) s.toks) { s with toks:=s.toks+1 }->HJ (HP X.prog X.w) X.A (f (.int i t) (.int j u)) Q E s) : MQ X f (QC λi j=>.int (g i j)):=by intro KZ s σ H x y v u Q I e k h;let[i,j,rfl,rfl,q]:=h;let[t,rfl]:=e;let[l,rfl]:=k;exact d i j t l s _ _ #[.int (g i j),H,I.tok _,#[_,rfl],q]
theorem D8{f:Hu->Hu->Sem Hu}{g:Int->Int->Bool} (d:∀(i j:Int) (t u:Tok) (s:Hv) (Q:Hu->Hv->Prop) (E:Hu->Hv->Prop),Q (.bool (g i j)) s->HJ (HP X.prog X.w) X.A (f (.int i t) (.int j u)) Q E s) : MQ X f (QC λi j=>.bl (g i j)):=by intro KZ s σ H x y v u Q I e k h;let[i,j,rfl,rfl,q]:=h;let[t,rfl]:=e;let[l,rfl]:=k;exact d i j t l s _ _ #[.bl (g i j),H,I,rfl,q]
def E4(i j:Int):Prop:=0<=j/\j<=1000000/\i.natAbs<2^64
theorem Ce:MQ X (JR .Add) (QC λi j=>.int (i+j)):=B2 λ_ _ _ _ _ _ _ q=>add_int q
theorem BK:MQ X (JR .Sub) (QC λi j=>.int (i-j)):=B2 λ_ _ _ _ _ _ _ q=>sub_int q
theorem zu:MQ X (JR .Mod) (rI (λ_ j=>j≠0) λi j=>.int (i.fmod j)):=Wg λ_ _ _ _ _ _ _ d q=>mod_int' d q
theorem DJ:MQ X (JR .Pow) (rI E4 λi j=>.int (i^j.toNat)):=Wg λ_ _ _ _ _ _ _ d q=>pow_int_small d.1 d.2.1 d.2.2 q
theorem DL:MQ X (JR .BitXor) (QC λi j=>.int (Builtin.bitXor i j)):=B2 λ_ _ _ _ _ _ _ q=>xor_int q
theorem ZK{f:Hu->Sem Hu}{g:Int->Int} (d:∀(i:Int) (t:Tok) (s:Hv) (Q:Hu->Hv->Prop) (E:Hu->Hv->Prop),Q (.int (g i) s.toks) { s with toks:=s.toks+1 }->HJ (HP X.prog X.w) X.A (f (.int i t)) Q E s) : WW X f (rU λi=>.int (g i)):=by intro KZ s σ H x v Q I e h;let[i,rfl,q]:=h;let[t,rfl]:=e;exact d i t s _ _ #[.int (g i),H,I.tok _,#[_,rfl],q]
theorem Dg:WW X (unaryOp .USub) (rU λi=>.int (-i)):=ZK λ_ _ _ _ _ q=>neg_int q
end
section
variable{X:Cx}{a b c:pv}{ta tb tc:TE}{pos:Pos}
theorem Eu:MQ X (IM .Lt) (QC λi j=>.bl (decide (i<j))):=D8 λ_ _ _ _ _ _ _ q=>lt_int q
theorem E2:MQ X (IM .LtE) (QC λi j=>.bl (decide (i<=j))):=D8 λ_ _ _ _ _ _ _ q=>le_int q
theorem FP:MQ X (IM .Gt) (QC λi j=>.bl (decide (j<i))):=D8 λ_ _ _ _ _ _ _ q=>gt_int q
theorem MQ.or{f:Hu->Hu->Sem Hu}{r d:R2}(h:MQ X f r)(h':MQ X f d):MQ X f (λx y H Q=>r x y H Q\/d x y H Q):=by
 intro KZ s σ H x y v u Q I e g q;rcases q with q|q
 .exact h KZ s σ H x y v u Q I e g q
 .exact h' KZ s σ H x y v u Q I e g q
theorem yc(b:pv){op:CmpOp}(h:op≠.In:=by decide)(d:op≠.NotIn:=by decide):Kt op b=KO:=by
 have e1:(op==CmpOp.In)=KO:=by cases op<;>first|rfl|exact absurd rfl h
 have e2:(op==CmpOp.NotIn)=KO:=by cases op<;>first|rfl|exact absurd rfl d
 cases b<;>simp[Kt,e1,e2]
theorem Ao{op:CmpOp}{r:R2}(d:MQ X (IM op) r)(e:PE X a ta)(f:PE X b tb)(g:Kt op b=KO):PE X (.Compare a [op] [b] pos) (Qs r ta tb):=by intro KZ s σ H Q I h;exact wpAny_Compare1 (DM e f I h λv u i x y j k l m q=>d KZ i σ j x y v u Q k l m q) g
def A7(t:TE):TT:=λσ H Q=>t σ H λx d=>∃k,x=.bl k/\Q k d
theorem Ah{op:CmpOp}{r:R2}(d:MQ X (IM op) r)(f:PE X a ta)(g:PE X b tb)(i:Kt op b=KO):PT X (.Compare a [op] [b] pos) (A7 (Qs r ta tb)):=by intro KZ s σ H Q I h;refine wpAny_isTrue_Compare1 (Lc (f KZ s σ H _ I h) λv j ⟨x,H1,l,m,n⟩=>Lc (g KZ j σ H1 _ l n) λu o ⟨y,p,q,t,w⟩=>Lc (d KZ o σ p x y v u _ q m t w) λc E ⟨z,A,B,C,k,e,D⟩=>?_) i;subst e;cases C;exact JJ #[A,B,D]
def ED(K:Ht)(x:V)(H:Hp)(k:Bool):Prop:=
 match x with
 |.non=>k=KO
 |.bl b=>k=b
 |.int i=>k=(i != 0)
 |.str y=>y.length<=HR/\k=((y.length:Int) != 0)
 |.byt y=>y.size<=HR/\k=((y.size:Int) != 0)
 |.ref p=>(∃xs,Ln K H p xs/\k=!xs.isEmpty)\/(∃xs,Lm K H p xs/\k=!xs.isEmpty)\/∃kvs,H p=KJ (.dK kvs)/\k=!kvs.isEmpty
 |_=>False
theorem rQ{d:Type}{kvs:List (d×V)}{vs:List (d×Hu)}(r:KV kvs vs):(!vs.isEmpty)=!kvs.isEmpty:=by cases r<;>rfl
theorem lN{xs:ry}{its:List Hu}(r:Vals xs its):(!its.toArray.isEmpty)=!xs.isEmpty:=by cases r<;>simp
theorem jS:(HR:Nat)<2^63:=by rw[Jr];decide
theorem Dx:GI X (λx H Q=>∃k,ED X.K x H k/\Q k H):=by
 intro KZ s σ H x v Q I g h;let[k,e,q]:=h;have u:=jS;have z:HR=16777216:=Jr;cases x with
 |non=>
  cases g
  have d:k=KO:=e
  subst d
  exact truthy_none #[H,I,q]
 |bl b=>
  cases g
  have d:k=b:=e
  subst d
  exact JJ #[H,I,q]
 |int i=>
  let[t,rfl]:=g
  have d:k=(i != 0):=e
  subst d
  exact PySem.P.truthy_int #[H,I,q]
 |str y=>
  let[t,rfl]:=g
  obtain⟨hy,d⟩:y.length<=HR/\k=((y.length:Int) != 0):=e
  subst d
  exact PySem.P.truthy_str () #[H,I.tok _,q]
 |byt y=>
  let[t,rfl]:=g
  obtain⟨hy,d⟩:y.size<=HR/\k=((y.size:Int) != 0):=e
  subst d
  exact PySem.W.truthy_bytes () #[H,I.tok _,q]
 |ref p=>
  cases g
  have d:(∃xs,Ln X.K H p xs/\k=!xs.isEmpty)\/(∃xs,Lm X.K H p xs/\k=!xs.isEmpty)\/∃kvs,H p=KJ (.dK kvs)/\k=!kvs.isEmpty:=e
  rcases d with⟨xs,hx,d⟩|⟨xs,hx,d⟩|⟨kvs,hx,d⟩
  .subst d;let[j,r,l,n]:=I.list hx;have f:=r.length;exact wpAny_truthy_list l.isList (by simp only[HL];omega) #[H,I.tok _,by rw[lN r];exact q]
  .subst d;let[j,r,l,n]:=I.tuple hx;have f:=r.length;exact truthy_tuple l (by simp only[HL];omega) #[H,I.tok _,by rw[lN r];exact q]
  .subst d;obtain⟨n,o,vs,r,m⟩:kvs.length<=HR/\(p==JC)=KO/\∃vs,KV kvs vs/\s.heap.DictOf (b4 X.prog X.w) p vs:=I.hok p _ hx;have f:kvs.length=vs.length:=Paired.length r;exact wpAny_truthy_dict o m () #[H,I.tok _,by rw[rQ r];exact q]
 |_=>exact(show False from e).elim
theorem xA(g:PE X a ta)(i:∀d,isTrue a X.env d=(do let v <-d;standAt a.pos;holding [v] (truthy v))) :
 PT X a (λσ H Q=>ta σ H λx f=>∃k,ED X.K x f k/\Q k f):=by
 intro KZ s σ H Q I h
 exact isTrue_plain (Lc (g KZ s σ H _ I h) λv j e=>by let[x,H1,l,m,n]:=e;exact(Dx KZ j σ H1 x v Q l m n)) (i _)
theorem vals1{x:V}{us:List Hu}(r:Vals [x] us):∃u,us=[u]/\RelV x u:=by
 cases r with
 |cons d e=>cases e;exact #[7,d]
theorem vals2{x y:V}{us:List Hu}(r:Vals [x,y] us):∃u d,us=[u,d]/\RelV x u/\RelV y d:=by
 cases r with
 |cons e f=>
  cases f with
  |cons g h=>cases h;exact #[_,7,e,g]
theorem xK:b5 X (.builtin "abs") (λxs H Q=>∃i,xs=[.int i]/\Q (.int (if i<0 then -i else i)) H):=by intro KZ s σ H xs us Q I r h;let[i,rfl,q]:=h;let[u,rfl,t,rfl]:=vals1 r;exact call_abs_int λu d=>#[.int (if i<0 then -i else i),H,I.tok _,#[_,rfl],q]
theorem vt(e:X.calm=KN):b5 X (.builtin "max") (λxs H Q=>∃i j,xs=[.int i,.int j]/\Q (.int (if j>i then j else i)) H):=by
 intro KZ s σ H xs us Q I r h;let[i,j,rfl,q]:=h;obtain⟨u,f,rfl,⟨t,rfl⟩,⟨g,rfl⟩⟩:=vals2 r;refine max_two_ints (I.ok.hd e) λl m k=>#[_,H,I.kept k,?_,q];by_cases d:j>i
 .rw[KQ d,KQ d];exact #[_,rfl]
 .rw[KP d,KP d];exact #[_,rfl]
theorem vI(e:X.calm=KN):b5 X (.builtin "min") (λxs H Q=>∃i j,xs=[.int i,.int j]/\Q (.int (if j<i then j else i)) H):=by
 intro KZ s σ H xs us Q I r h;let[i,j,rfl,q]:=h;obtain⟨u,f,rfl,⟨t,rfl⟩,⟨g,rfl⟩⟩:=vals2 r;refine min_two_ints (I.ok.hd e) λl m k=>#[_,H,I.kept k,?_,q];by_cases d:j<i
 .rw[KQ d,KQ d];exact #[_,rfl]
 .rw[KP d,KP d];exact #[_,rfl]
theorem uU:b5 X (.type "int") (λxs H Q=>(∃i,xs=[.int i]/\Q (.int i) H)\/∃k,xs=[.bl k]/\Q (.int (if k then 1 else 0)) H):=by
 intro KZ s σ H xs us Q I r h;rcases h with⟨i,rfl,q⟩|⟨k,rfl,q⟩
 .obtain⟨u,rfl,t,rfl⟩:=vals1 r;exact call_int_int #[.int i,H,I,#[_,rfl],q]
 .obtain⟨u,rfl,d⟩:=vals1 r;cases d;exact call_int_bool #[.int (if k then 1 else 0),H,I.tok _,#[_,rfl],q]
end
structure OG(h:pq)(x dx C:pd)(mA:Str->Option Hu):Prop where
 obj:h.get? x=KJ (K6 C dx)
 ns:h.Ns1 dx mA
 ne:dx≠x
theorem uZ{h:pq}{c:pd}{mA:Str->Option Hu}(n:h.Ns1 c mA):∃od,h.get? c=KJ od/\∀name,PySem.W.lookIn name od=KJ (mA name):=by
 let[o,d,k,f,hd,g,_,i]:=n;refine #[o,f,λname=>?_];have e:=i name;unfold nsFind findBy at e;rw[<-Array.find?_toList]at e;unfold PySem.W.lookIn;rw[hd];dsimp only;split
 .rename_i y q;rw[q]at e;exact congrArg KJ e
 .rename_i q;rw[q]at e;have a:d.toList.any (·.refKey)=KO:=by rw[List.any_eq_false];intro y hy;let[z,t,b]:=g y (Array.mem_toList_iff.mp hy);simp[DictEntry.refKey,b]
  have j:¬d.toList.any (·.refKey)=KN:=by rw[a];exact Ib
  rw[KP j];exact congrArg KJ e
theorem OG.look{h:pq}{x a C:pd}{mA:Str->Option Hu}(I:OG h x a C mA):∃od,PySem.W.InstAt h x (K6 C a) C (KJ od)/\∀name,PySem.W.lookIn name od=KJ (mA name):=
 let⟨od,b,c⟩:=uZ I.ns
 #[od,#[I.obj,rfl,rfl,b],c]
section
variable{prog:HW}{w:IA}{A:Iv}{E:Hu->Hv->Prop}{s:Hv}{K:Ht}{x dx C f:pd}{mA:Str->Option Hu}{name:Str}{v:Hu}
theorem get_map{a:Bool}{Q:Hu->Hv->Prop}(X:K.In s.heap)(I:OG s.heap x dx C mA)(c:PySem.W.plainGet K C name=KN)(d:PySem.W.hasDictIn K C=KN) (e:Jh K (.ref C) name=KJ KL) (hv:mA name=KJ v) (b:PySem.W.handedIn v=KN) (h:Q v { s with toks:=s.toks+1 }) : HJ (HP prog w) A (getAttr (.ref x) name a) Q E s:=by let[od,J,g]:=I.look;exact PySem.W.get_value X J (PySem.W.plainGet_of c).1 (PySem.W.findObj_own d e rfl (by rw[g,hv])) b h
theorem ye{pl:Sem Bool}{Q:Hu×List Hu->Hv->Prop}(X:K.In s.heap)(I:OG s.heap x dx C mA)(a:PySem.W.plainGet K C name=KN) (b:Jh K (.ref C) name=KJ (KJ (.ref f))) (c:PySem.W.isFn K (.ref f)=KN) (hv:mA name=KL) (h:Q (.ref f,[.ref x]) s) : HJ (HP prog w) A (getMethod (.ref x) name pl) Q E s:=by let[od,J,d]:=I.look;exact PySem.W.method_fn X J (PySem.W.plainGet_of a).1 (PySem.W.plainGet_of a).2 b (beq_iff_eq.mp c) (by show(PySem.W.lookIn name od).map (·.isSome)=KJ KO;rw[d,hv];rfl) h
theorem An{ns:rx}{Q:Unit->Hv->Prop}(X:K.In s.heap)(I:OG s.heap x dx C mA)
 (k:Jh K (.ref C) "__setattr__"=KJ (KJ (.builtin "object.__setattr__"))) (l:PySem.W.plainOver K C=KN) (m:PySem.W.takerIn K C name=KJ KL) (n:PySem.W.hasDictIn K C=KN)
 (hw:PySem.Within mA ns) (hsz:ns.length<=HR)
 (h:∀h',OG h' x dx C (λy=>if y=name then KJ v else mA y)->JI dx s.heap h'->Q ⟨⟩ { s with heap:=h',toks:=s.toks+2 }) :
 HJ (HP prog w) A (setAttr (.ref x) name v) Q E s:=by
 let[od,J,t]:=I.look
 refine PySem.W.set_plain X J k (PySem.W.osa_open (s:={ s with toks:=s.toks+1 }) (r:=KL) X J l m λb=>?_)
 let[u,o,e]:=PySem.W.any_some n
 have hx:s.heap.get? x=KJ #[.ref C,KJ dx,.plain,#[]]:=I.obj
 refine cc (Hz (cc (cc (wpAny_loadPart hx (cc (PySem.W.Looks.here (s:={ s with toks:=s.toks+1 }) (PySem.W.looks_clsIn X o) ?_))))))
 rw[e]
 refine Hz (a:=KJ dx) (cc (Hz (cc ?_)))
 refine wpAny_nsSet1 (s:={ s with toks:=s.toks+1 }) I.ns λh' c d=>?_
 let[z,p,q,g,i,j]:=c.count (PySem.Within.cons name v hw)
 refine cc (wpAny_lookBehind g (by rw[i];exact pastItsLine_dict (ID j (by rw[Io];omega))) ?_)
 exact Hz (h _ #[(d.2 _ (Ne.symm I.ne)).trans I.obj,c,I.ne] d)
theorem xx{R:Result->Hv->Prop}{vs:List Hu}{a:List (Str×Hu)}(X:K.In s.heap)(b:PySem.W.makesIn K C=KN)
 (c:Jh K (.ref C) "__init__"=KJ (KJ (.ref f))) (e:PySem.W.typeIn K (.ref f)=KJ (.type "function"))
 (h:JK (HP prog w) (A.under (.builtin "type.__call__" #[.ref C::vs,a])) (.call (.ref f) #[.ref (s.z+1)::vs,a]) (PySem.W.InitBack (s.z+1) R)
  { s with heap:=(s.heap.push Js).push (K6 C s.z) }) :
 JK (HP prog w) A (.call (.ref C) #[vs,a]) R s:=by
 let[i,g,d,t,os]:=s
 exact PySem.W.make_core (PySem.W.makes_of X b) (PySem.W.looks_findIn X c) (λself=>PySem.W.bind_fn X self e) (.inl rfl) h
end
def fJ(f:Str)(v:V):List (Str×V)->List (Str×V)
 |[]=>[(f,v)]
 |(g,x)::r=>if g=f then(g,v)::r else(g,x)::fJ f v r
theorem j9(f g:Str)(v:V):∀fs:List (Str×V),(fJ f v fs).lookup g=if g=f then KJ v else fs.lookup g
 |[]=>by
  show List.lookup g [(f,v)]=_
  by_cases h:g=f
  .have a:(g==f)=KN:=beq_iff_eq.mpr h
   simp only[List.lookup,a,KQ h]
  .have a:(g==f)=KO:=beq_eq_false_iff_ne.mpr h
   simp only[List.lookup,a,KP h]
 |(k,x)::r=>by
  have c:=j9 f g v r
  rw[show fJ f v ((k,x)::r)=(if k=f then(k,v)::r else(k,x)::fJ f v r)from rfl]
  by_cases b:k=f
  .rw[KQ b]
   by_cases h:g=k
   .have a:(g==k)=KN:=beq_iff_eq.mpr h
    simp only[List.lookup,a,KQ (h.trans b)]
   .have a:(g==k)=KO:=beq_eq_false_iff_ne.mpr h
    simp only[List.lookup,a,KP (λe:g=f=>h (e.trans b.symm))]
  .rw[KP b]
   by_cases h:g=k
   .have a:(g==k)=KN:=beq_iff_eq.mpr h
    simp only[List.lookup,a,KP (λe:g=f=>b (h.symm.trans e))]
   .have a:(g==k)=KO:=beq_eq_false_iff_ne.mpr h
    simp only[List.lookup,a]
    exact c
theorem jX(f:Str)(v:V):∀fs:List (Str×V),f∈(fJ f v fs).map (·.1)/\∀g,g∈fs.map (·.1)->g∈(fJ f v fs).map (·.1)
 |[]=>#[by simp[fJ],λg h=>by simp at h]
 |(k,x)::r=>by
  let[b,c]:=jX f v r
  rw[show fJ f v ((k,x)::r)=(if k=f then(k,v)::r else(k,x)::fJ f v r)from rfl]
  by_cases a:k=f
  .rw[KQ a]
   subst a
   exact #[by simp,λg h=>‹h›]
  .rw[KP a]
   refine #[?_,λg h=>?_]
   .rw[HI]
    exact J6 _ b
   .rw[HI]at h ⊢
    rcases II.mp h with e|e
    .exact II.mpr (.inl e)
    .exact J6 _ (c g e)
theorem j8(f:Str)(v:V):∀fs:List (Str×V),(fJ f v fs).length<=fs.length+1
 |[]=>by simp[fJ]
 |(k,x)::r=>by
  have b:=j8 f v r
  rw[show fJ f v ((k,x)::r)=(if k=f then(k,v)::r else(k,x)::fJ f v r)from rfl]
  by_cases a:k=f
  .rw[KQ a,Io,Io];omega
  .rw[KP a,Io,Io];omega
theorem jb.some_of{v:V}{o:Option Hu}(r:jb (KJ v) o):∃u,o=KJ u/\RelV v u:=by
 cases o with
 |none=>exact(show False from r).elim
 |some u=>exact #[u,rfl,r]
theorem jb.none_of{o:Option Hu}(r:jb KL o):o=KL:=by
 cases o with
 |none=>rfl
 |some u=>exact(show False from r).elim
theorem vd{v:V}{u:Hu}(r:RelV v u):PySem.W.handedIn u=KN:=by
 cases v with
 |non=>cases (show u=JB from r);rfl
 |bl b=>cases (show u=Value.bool b from r);rfl
 |int i=>let[t,e]:=(show ∃t,u=Value.int i t from r);cases e;rfl
 |str x=>let[t,e]:=(show ∃t,u=Value.str x t from r);cases e;rfl
 |byt b=>let[t,e]:=(show ∃t,u=Value.bytes b t from r);cases e;rfl
 |flt b=>let[t,e]:=(show ∃t,u=Value.float b t from r);cases e;rfl
 |ref a=>cases (show u=IY a from r);rfl
 |ty n=>cases (show u=KC n from r);rfl
section
variable{P:HW}{w:IA}{H H':Hp}{h h':pq}{a C dx:pd}{fs KW:List (Str×V)}
theorem oM(hok:MU P w H h)(e:H a=KJ (.ins C dx fs)):∃mA,OG h a dx C mA/\(∀f,jb (fs.lookup f) (mA f))/\PySem.Within mA (fs.map (·.1))/\fs.length<=1000/\H dx=KJ (.own a):=by let[d,z,ne,b,mA,n,r,q]:=(show bJ P w H h a (.ins C dx fs)from hok a _ e);exact #[mA,#[b,n,ne],r,q,z,d]
end
structure Cls(K:Ht)(C:pd):Prop where
 pg:PySem.W.plainGet K C Str.empty=KN
 hd:PySem.W.hasDictIn K C=KN
 po:PySem.W.plainOver K C=KN
 sa:Jh K (.ref C) "__setattr__"=KJ (KJ (.builtin "object.__setattr__"))
theorem Cls.get{K:Ht}{C:pd}(c:Cls K C)(f:Str):PySem.W.plainGet K C f=KN:=c.pg
def bS(K:Ht)(C:pd)(f:Str):Prop:=Jh K (.ref C) f=KJ KL
theorem bS.FE{K:Ht}{C:pd}{f:Str}(n:bS K C f):PySem.W.takerIn K C f=KJ KL:=by unfold PySem.W.takerIn;rw[show Jh K (.ref C) f=KJ KL from n];rfl
structure Meth(K:Ht)(C:pd)(m:Str)(f:pd):Prop where
 at_:Jh K (.ref C) m=KJ (KJ (.ref f))
 fn:PySem.W.isFn K (.ref f)=KN
 kp:Je K (.ref f)=KN
section
variable{X:Cx}{KZ:p4}{σ:St}{H:Hp}{s:Hv}{a C dx:pd}{fs:List (Str×V)}{f:Str}{v:V}{A:Iv}{E:Hu->Hv->Prop}
theorem qO{b:Bool}{Q:Hu->Hv->Prop}(I:Inv X KZ σ H s)(e:H a=KJ (.ins C dx fs))(c:Cls X.K C)(n:bS X.K C f)(l:fs.lookup f=KJ v) (h:∀u d,Inv X KZ σ H d->RelV v u->Q u d):HJ (HP X.prog X.w) A (getAttr (.ref a) f b) Q E s:=by let[mA,O,r,_,_,_]:=oM I.hok e;let[u,i,g]:=jb.some_of (v:=v) (o:=mA f) (by rw[<-l];exact r f);exact get_map I.kIn O (c.get f) c.hd n i (vd g) (h u _ (I.tok _) g)
theorem qS{m:Str}{g:pd}{pl:Sem Bool}{Q:Hu×List Hu->Hv->Prop}(I:Inv X KZ σ H s)(e:H a=KJ (.ins C dx fs))(c:Cls X.K C)(k:Meth X.K C m g)(l:fs.lookup m=KL)
 (h:Q (.ref g,[.ref a]) s):HJ (HP X.prog X.w) A (getMethod (.ref a) m pl) Q E s:=by
 let[mA,O,r,_,_,_]:=oM I.hok e
 have b:mA m=KL:=jb.none_of (by rw[<-l];exact r m)
 exact ye I.kIn O (c.get m) k.at_ k.fn b h
theorem rh{y:V}{u:Hu}{Q:Unit->Hv->Prop}(I:Inv X KZ σ H s)(e:H a=KJ (.ins C dx fs))(c:Cls X.K C)(n:bS X.K C f)(G:fs.length<1000)(l:RelV y u)
 (h:∀i,Inv X KZ σ (upd H a (.ins C dx (fJ f y fs))) i->Q .unit i):HJ (HP X.prog X.w) A (setAttr (.ref a) f u) Q E s:=by
 let[mA,O,r,j,_,k]:=oM I.hok e
 have m:(fs.map (·.1)).length<=HR:=by rw[Hw,Jr];omega
 refine An I.kIn O c.sa c.po n.FE c.hd j m λp d t=>h _ ?_
 have hd:∃o,p.get? dx=KJ o:=let⟨o,_,_,B,_⟩:=d.ns;#[o,B]
 refine I.write (x:=a) (e:=dx) (by rw[e];exact JV) (.inr k) (λb q D z=>(t.2 b D).trans z) hd ?_
 refine #[by rw[aD O.ne];exact k,?_,O.ne,d.obj,_,d.ns,λg=>?_,λg F=>?_]
 .have:=j8 f y fs;omega
 .show jb ((fJ f y fs).lookup g) (if g=f then KJ u else mA g)
  rw[j9]
  by_cases q:g=f
  .rw[KQ q,KQ q];exact l
  .rw[KP q,KP q];exact r g
 .by_cases q:g=f
  .rw[q];exact(jX f y fs).1
  .refine(jX f y fs).2 g (j g λz=>F ?_)
   show(if g=f then KJ u else mA g)=KL
   rw[KP q];exact z
theorem Inv.made(I:Inv X KZ σ H s):Inv X KZ σ (upd (upd H s.z (.own (s.z+1))) (s.z+1) (.ins C s.z []))
 { s with heap:=(s.heap.push Js).push (K6 C s.z) }:=by
 have e1:(s.heap.push Js).get? s.z=KJ Js:=HG s.heap rfl
 have e2:((s.heap.push Js).push (K6 C s.z)).get? (s.z+1)=KJ (K6 C s.z):=by
  have:=HG (s.heap.push Js) (o:=K6 C s.z) rfl
  rwa [Jf]at this
 have e3:(s.heap.push Js).Ns s.z (λ_=>KL):=#[Js,#[],_,e1,rfl,(λe c=>absurd c (by simp)),λ_=>rfl]
 have d:=I.laid (a:=s.z) (o:=.own (s.z+1)) (h':=s.heap.push Js) (t':=s.toks) (λb u q=>Hx _ q) (HD _) #[_,e1]
 refine d.laid (a:=s.z+1) (o:=.ins C s.z []) (t':=s.toks) (λb u q=>Hx _ q) (Nat.le_of_eq (Jf _ _)) ?_
 have ne:s.z≠s.z+1:=Ip (Nat.lt_succ_self _)
 refine #[by rw[aD ne,aF],J3 _,ne,e2,λ_=>KL,(Heap.Ns1.of_empty e3).at λo q=>Hx _ q,λ_=>JV,λy hy=>absurd rfl hy]
theorem AU{prog:HW}{w:IA}{env:Env}{e:pv}{f:Str}{pos:Pos}{s:Hv}{Q:Hu->Hv->Prop}(c:JX e f env (eval e env)=eval e env) (h:HJ (HP prog w) A (eval e env) (λo b=>HJ (HP prog w) A (getAttr o f KN) Q E b) E s):HJ (HP prog w) A (eval (.Attribute e f pos) env) Q E s:=Attribute_any_ h (by rw[arm_eval_Attribute,c])
end
def GQ(K:Ht)(b:TE)(f:Str):TE:=λσ H Q=>b σ H λx H1=>∃a C c fs v,x=.ref a/\H1 a=KJ (.ins C c fs)/\Cls K C/\bS K C f/\fs.lookup f=KJ v/\Q v H1
def Hj(K:Ht)(d e:TE)(f:Str):TS:=λD σ H=>e σ H λy H1=>d σ H1 λx b=>∃a C c fs,x=.ref a/\b a=KJ (.ins C c fs)/\Cls K C/\bS K C f/\fs.length<1000/\
 D.nx σ (upd b a (.ins C c (fJ f y fs)))
section
variable{X:Cx}{o e value:pv}{f:Str}{pos pos' LB:Pos}{ta tv:TE}
theorem DC(d:PE X e ta)(g:JX e f X.env (eval e X.env)=eval e X.env):PE X (.Attribute e f pos) (GQ X.K ta f):=by intro KZ s σ H Q I h;refine AU g (Lc (d KZ s σ H _ I h) λu p b=>?_);let[x,H1,i,j,a,C,r,fs,v,ex,ea,c,n,l,q]:=b;subst ex;obtain rfl:u=IY a:=j;exact qO i ea c n l λt w k m=>#[v,H1,k,m,q]
theorem Ec(d:PE X o ta)(hv:PE X value tv)(g:JU value (KJ (.Attribute o f pos')) pos.line X.env=pure KO):PS X (.Assign [.Attribute o f pos'] value pos) (Hj X.K ta tv f):=by intro KZ s σ H D I h;refine plainObj_wpAny_Assign_Attribute (Lc (hv KZ s σ H _ I h) λu i ⟨y,H1,j,k,q⟩=>Lc (d KZ i σ H1 _ j q) λm w b=>?_) g;let[x,z,p,r,a,C,A,fs,ex,ea,c,n,l,t]:=b;subst ex;obtain rfl:m=IY a:=r;exact rh p ea c n l k λB v=>#[σ,_,v,t]
end
structure La(k:Nat)(A:Iv):Prop where
 hd:A.handled=KL
 dp:A.depth+3*k+5<recursionLimit
 un:A.units+16*k+200<J9
 gd:A.guards=KJ []
theorem La.mono{j k:Nat}{A:Iv}(r:La k A)(h:j<=k):La j A:=#[r.hd,by have:=r.dp;omega,by have:=r.un;omega,r.gd]
theorem La.deeper{k:Nat}{A:Iv}(r:La (k+1) A)(env:Env):La k (A.deeper env):=#[r.hd,by have:=r.dp;show A.depth+1+3*k+5<_;omega,by have:=r.un;show A.units+3+16*k+200<_;omega,r.gd]
theorem La.in1{k:Nat}{A:Iv}(r:La (k+1) A):La k A.in1:=#[r.hd,by have:=r.dp;show A.depth+3*k+5<_;omega,by have:=r.un;show A.units+1+16*k+200<_;omega,r.gd]
theorem sL{A:Iv}{C:pd}{us:List Hu}{a:List (Str×Hu)}:(A.under (.builtin "type.__call__" #[.ref C::us,a])).depth=A.depth+1:=by first|rfl|simp[Around.under,Code.weight,Code.isCreation,Code.isGuard,Code.isCaller,Code.frames,Code.isFrame,guardIds]
theorem sI{A:Iv}{C:pd}{us:List Hu}{a:List (Str×Hu)}:(A.under (.builtin "type.__call__" #[.ref C::us,a])).units=A.units+1:=by first|rfl|simp[Around.under,Code.cUnits,Code.frames,Code.isFrame]
theorem La.make{k:Nat}{A:Iv}(r:La (k+1) A)(C:pd)(us:List Hu)(a:List (Str×Hu)):La k (A.under (.builtin "type.__call__" #[.ref C::us,a])):=#[r.hd,by have:=r.dp;rw[sL];omega,by have:=r.un;rw[sI];omega,by first|exact r.gd|(have:=r.gd;simpa[Around.under,Code.isGuard,guardIds]using this)]
theorem La.depth{k:Nat}{A:Iv}(r:La k A):A.depth<recursionLimit:=by have:=r.dp;omega
theorem La.units{k:Nat}{A:Iv}(r:La k A):A.units+64<J9:=by have:=r.un;omega
def EG:TA:=λ_ H Q=>Q [] H
def EI(a:TE)(b:TA):TA:=λσ H Q=>a σ H λx H1=>b σ H1 λxs c=>Q (x::xs) c
section
variable{X:Cx}{e:pv}{es:ro}{te:TE}{t:TA}{pos:Pos}
theorem yg:PA X [] EG:=λ_ _ _ _ H Q I h=>Calls.spliced_nil #[[],H,I,.nil,h]
theorem uj(c:PE X e te)(d:PA X es t)(f:HM (e::es) X.env=(KO,eval e X.env)::HM es X.env:=by rfl):PA X (e::es) (EI te t):=by intro pos KZ s σ H Q I h;rw[f];show HJ _ _ (spliced ((KO,eval e X.env)::Jc pos (HM es X.env))) _ _ s;refine Calls.spliced_cons (Lc (c KZ s σ H _ I h) λu g a=>?_);let[x,H1,i,j,k]:=a;exact Lc (d pos KZ g σ H1 _ i k) λus p b=>by let[xs,l,m,n,o]:=b;exact(#[x::xs,l,m,.cons j n,o])
def Hn(t:TA):TE:=λσ H Q=>t σ H λxs H1=>xs.length<=HR/\∀p,H1 p=KL->Q (.ref p) (upd H1 p (.tup xs))
def Gr(t:TA):TE:=λσ H Q=>t σ H λxs H1=>xs.length<=HR/\∀p,H1 p=KL->Q (.ref p) (upd H1 p (.lst xs))
theorem CW{x1}(h:PA X es t):PE X (.Tuple es x1 pos) (Hn t):=by intro KZ s σ H Q I d;refine wpAny_Tuple_spliced (Lc (h pos KZ s σ H _ I d) λus a ⟨xs,H1,c,r,z,q⟩=>#[by rw[<-r.length];exact z,?_]);have f:H1 a.z=KL:=c.hok.fresh (HD _);refine #[.ref a.z,upd H1 a.z (.tup xs),c.laid (t':=a.toks) (λb u e=>Hx _ e) (HD _) ?_,rfl,q _ f];exact #[z,us,r,#[_,HG _ rfl,rfl,7],#[_,HG _ rfl,rfl]]
theorem DV(h:PA X es t):PE X (.List es pos) (Gr t):=by intro KZ s σ H Q I d;refine wpAny_List_spliced (Lc (h pos KZ s σ H _ I d) λus a ⟨xs,H1,c,r,z,q⟩=>#[by rw[<-r.length];exact z,?_]);have f:H1 a.z=KL:=c.hok.fresh (HD _);refine #[.ref a.z,upd H1 a.z (.lst xs),c.laid (t':=a.toks) (λb u e=>Hx _ e) (HD _) ?_,rfl,q _ f];exact #[z,us,0,r,HG _ rfl]
end
abbrev Sp:=ry->Hp->VK->XK->Prop
abbrev QL:=List Env->Hp->Hv->XK->Hu->Hv->Prop
structure Mz(P:HW)(w:IA)(K:Ht)(mg:Str->Option Hu)(base:pq)(A:Iv)(outer:List Env)(s:Hv)(H:Hp):Prop where
 frames:A.frames=KJ outer
 mod:Mod K mg base
 bs:∀b o,base.get? b=KJ o->s.heap.get? b=KJ o/\H b=KL
 bsz:base.objs.size<=s.z
 gD:s.heap.FunFrames base outer
 frf:∀b∈OA outer,H b=KL
 hok:MU P w H s.heap
 bare:AllBare s.gens
def CE(outer:List Env)(P:HW)(w:IA)(H:Hp)(s:Hv)(Q:VK)(u:Hu)(a:Hv):Prop:=
 ∃v b,a.os=s.os/\AllBare a.gens/\Un (OA outer) [] H b s.heap a.heap/\MU P w b a.heap/\RelV v u/\Q v b
def CR(CX:QL)(outer:List Env)(P:HW)(w:IA)(H:Hp)(s:Hv)(Q:VK)(E:XK)(r:Result)(a:Hv):Prop:=
 match r with
 |.ok (.ret u)=>CE outer P w H s Q u a
 |.ok _=>False
 |.error e=>CX outer H s E e a
structure MA(P:HW)(w:IA)(K:Ht)(mg:Str->Option Hu)(base:pq)(CX:QL)(k:Nat)(f:pd)(fd:FuncData)(ps:rx)(sp:Sp):Prop where
 len:∀vs H Q E,sp vs H Q E->vs.length=ps.length
 run:∀(A:Iv) (outer:List Env) (s:Hv) (H:Hp) (args:Args) (us:List Hu) (vs:ry) (Q:VK) (E:XK),La k A->Mz P w K mg base A outer s H->BindsTo s fd args (ps.zip us)->Vals vs us->sp vs H Q E->
  JK (HP P w) A (.call (.ref f) args) (CR CX outer P w H s Q E) s
theorem MA.mono{P:HW}{w:IA}{K:Ht}{mg:Str->Option Hu}{base:pq}{CX:QL}{j k:Nat}{f:pd}{fd:FuncData}{ps:rx}{sp:Sp}(F:MA P w K mg base CX j f fd ps sp)(h:j<=k) : MA P w K mg base CX k f fd ps sp:=#[F.len,λA outer s H args us vs Q E a=>F.run A outer s H args us vs Q E (a.mono h)]
theorem Mz.make{P:HW}{w:IA}{K:Ht}{mg:Str->Option Hu}{base:pq}{A:Iv}{outer:List Env}{s:Hv}{H:Hp}(e:Mz P w K mg base A outer s H)(C:pd)(us:List Hu)(a:List (Str×Hu)) : Mz P w K mg base (A.under (.builtin "type.__call__" #[.ref C::us,a])) outer s H:=#[by first|exact e.frames|(simpa[Around.under,Code.envs,Code.isFrame,pushEnvs]using e.frames),e.mod,e.bs,e.bsz,e.gD,e.frf,e.hok,e.bare]
section
variable{X:Cx}{KZ:p4}{σ:St}{H:Hp}{s s':Hv}
theorem Inv.CZ(I:Inv X KZ σ H s):Mz X.prog X.w X.K X.mg X.base X.A X.stack s H:=#[I.ok.frames,I.ok.mod,I.bs,ID I.ok.bsz I.sz,I.stack,I.tW,I.hok,I.bare]
theorem Inv.after{Q:VK}{u:Hu}(I:Inv X KZ σ H s)(h:CE X.stack X.prog X.w H s Q u s'):EP X KZ σ Q u s':=by let[v,c,os,bare,un,hok,r,q]:=h;let[e,g,d,t,a]:=s';obtain rfl:a=s.os:=os;exact #[v,c,I.call (h':=e) (g':=g) (d':=d) (t':=t) (ch:=[]) un hok bare (λb z=>absurd z (by simp)),r,q]
end
def EZ(sp:Sp)(a:ry)(E:XK)(t:TA):TE:=λσ H Q=>t σ H λvs H1=>sp (vs++a) H1 Q E
def Et(C:pd)(m:Str)(sp:Sp)(b:ry)(E:XK)(c:TE)(t:TA):TE:=λσ H Q=>c σ H λx H1=>∃a d fs,x=.ref a/\H1 a=KJ (.ins C d fs)/\fs.lookup m=KL/\
 t σ H1 λvs e=>sp (x::(vs++b)) e Q E
def Es(C:pd)(sp:Sp)(b:ry)(E:XK)(t:TA):TE:=λσ H Q=>t σ H λvs H1=>∀x a,H1 x=KL->H1 a=KL->a≠x->
 sp (.ref x::(vs++b)) (upd (upd H1 a (.own x)) x (.ins C a [])) (λv c=>v=.non/\Q (.ref x) c) E
def Binds(K:Ht)(fd:FuncData)(ps:rx)(a:List Hu):Prop:=
 ∀(s:Hv) (us:List Hu),K.In s.heap->(us++a).length=ps.length->BindsTo s fd #[us,[]] (ps.zip (us++a))
theorem Binds.all{K:Ht}{fd:FuncData}{ps:rx}(h:∀us:List Hu,us.length=ps.length->Ko fd #[us,[]]=pure (ps.zip us)):Binds K fd ps []:=λs us _ a=>by rw[K7]at a ⊢;exact .of_eq (h us a)
def Passes(CX:QL)(X:Cx)(E:XK):Prop:=∀(KZ:p4) (σ:St) (H:Hp) (s:Hv) (e:Hu) (a:Hv),Inv X KZ σ H s->CX X.stack H s E e a->X.xe e a
section
variable{X:Cx}{CX:QL}{k:Nat}{f C:pd}{fd:FuncData}{ps:rx}{sp:Sp}{LC:ry}{ds:List Hu}{E:XK}{x m:Str}{p pos apos:Pos}{e o:pv}{es:ro}{ta:TE}{t:TA}
theorem rO{KZ:p4}{σ:St}{H:Hp}{s:Hv}{Q:VK}{us:List Hu}{vs:ry}(F:MA X.prog X.w X.K X.mg X.base CX k f fd ps sp)(c:La k X.A)(d:Binds X.K fd ps ds)(hd:Vals LC ds)(hx:Passes CX X E)
 (I:Inv X KZ σ H s) (r:Vals vs us) (h:sp (vs++LC) H Q E):HJ (HP X.prog X.w) X.A (call (.ref f) us) (EP X KZ σ Q) X.xe s:=by
 have b:Vals (vs++LC) (us++ds):=r.append hd
 have g:(us++ds).length=ps.length:=by rw[<-b.length];exact F.len _ _ _ _ h
 refine wpAny_call (codeAny_mono (F.run X.A X.stack s H #[us,[]] (us++ds) (vs++LC) Q E c I.CZ (d s us I.kIn g) b h) λr i a=>?_)
 cases r with
 |error e=>exact hx KZ σ H s e i I a
 |ok j=>
  cases j with
  |ret u=>exact I.after a
  |next=>exact Ic a
  |brk=>exact Ic a
  |cont=>exact Ic a
theorem Az(F:MA X.prog X.w X.K X.mg X.base CX k f fd ps sp)(d:La k X.A)(g:Gl X x)(i:X.mg x=KJ (.ref f))(j:Je X.K (.ref f)=KN)(l:Binds X.K fd ps ds)(hd:Vals LC ds)(hx:Passes CX X E) (n:PA X (e::es) t) (a:(x==("__debug__":Str))=KO:=by decide) (u:HM (e::es) X.env=(KO,eval e X.env)::HM es X.env:=by rfl) (b:(Jc pos (HM es X.env)).any (·.1)=KO:=by rfl) : PE X (.Call (.Name x p) (e::es) [] pos) (EZ sp LC E t):=by intro KZ s σ H Q I h;refine JW (oA I g i ?_ a);refine PySem.W.callWith_K (h₀:=X.base) I.ok.mod.kin j (Lc (n pos KZ s σ H _ I h) λus v ⟨vs,H1,c,r,q⟩=>#[c.kIn,?_]) u b;exact rO F d l hd hx c r q
theorem wO{pl:Sem Bool}(i:PE X o ta)(c:Cls X.K C)(g:Meth X.K C m f)(F:MA X.prog X.w X.K X.mg X.base CX k f fd ps sp)(j:La k X.A)(n:Binds X.K fd ps ds)(hd:Vals LC ds)(hx:Passes CX X E)
 (r:eval (.Call (.Attribute o m apos) [] [] pos) X.env=(do
  let ov <-eval o X.env
  standAt apos.atName
  let(f,first) <-holding [ov] (getMethod ov m pl)
  callWith pos f first (Jc pos (HM [] X.env)) (KG pos (JQ [] X.env))):=by rfl) :
 PE X (.Call (.Attribute o m apos) [] [] pos) (Et C m sp LC E ta EG):=by
 intro KZ s σ H Q I h
 refine PySem.W.methodCall_KW (pl:=pl) (Lc (i KZ s σ H _ I h) λu y b=>?_) r
 let[x,H1,d,v,a,z,fs,ex,ea,l,q]:=b
 subst ex
 obtain rfl:u=IY a:=v
 refine qS d ea c g l ?_
 exact PySem.W.callWith_K0 (first:=[.ref a]) d.kIn g.kp (rO (us:=[.ref a]) (vs:=[.ref a]) F j n hd hx d (.cons rfl .nil) q)
structure Mk(K:Ht)(C f:pd):Prop where
 makes:PySem.W.makesIn K C=KN
 init:Jh K (.ref C) "__init__"=KJ (KJ (.ref f))
 fn:PySem.W.isFn K (.ref f)=KN
 kp:Je K (.ref C)=KN
theorem yS{KZ:p4}{σ:St}{H:Hp}{s:Hv}{Q:VK}{us:List Hu}{vs:ry}(M:Mk X.K C f)(F:MA X.prog X.w X.K X.mg X.base CX k f fd ps sp)(i:La (k+1) X.A)(j:Binds X.K fd ps ds)(hd:Vals LC ds)
 (hx:Passes CX X E) (I:Inv X KZ σ H s) (r:Vals vs us)
 (h:∀x b,H x=KL->H b=KL->b≠x->sp (.ref x::(vs++LC)) (upd (upd H b (.own x)) x (.ins C b [])) (λv l=>v=.non/\Q (.ref x) l) E) :
 HJ (HP X.prog X.w) X.A (call (.ref C) us) (EP X KZ σ Q) X.xe s:=by
 have d:=h (s.z+1) s.z (I.hok.fresh (Nat.le_succ _)) (I.hok.fresh (HD _)) (Ip (Nat.lt_succ_self _))
 have c:=Inv.made (C:=C) I
 have g:Vals (V.ref (s.z+1)::(vs++LC)) (IY (s.z+1)::(us++ds)):=.cons rfl (r.append hd)
 have n:(IY (s.z+1)::us++ds).length=ps.length:=by
  have e:=g.length
  rw[F.len _ _ _ _ d]at e
  exact e.symm
 refine wpAny_call (xx (f:=f) I.kIn M.makes M.init (beq_iff_eq.mp M.fn) (codeAny_mono (F.run _ X.stack _ _ #[IY (s.z+1)::us,[]] (IY (s.z+1)::(us++ds)) _ _ E (i.make C us [])
  (c.CZ.make C us []) (j _ (IY (s.z+1)::us) c.kIn n) g d) λr q a=>?_))
 cases r with
 |error e=>exact hx KZ σ _ _ e q c a
 |ok y=>
  cases y with
  |ret u=>
   let[v,z,B,D,G,J]:=c.after a
   subst G
   exact #[D,#[V.ref (s.z+1),z,B,rfl,J]]
  |next=>exact Ic a
  |brk=>exact Ic a
  |cont=>exact Ic a
theorem zW(M:Mk X.K C f)(F:MA X.prog X.w X.K X.mg X.base CX k f fd ps sp)(d:La (k+1) X.A)(g:Gl X x)(i:X.mg x=KJ (.ref C))(j:Binds X.K fd ps ds)(hd:Vals LC ds)(hx:Passes CX X E) (l:PA X (e::es) t) (a:(x==("__debug__":Str))=KO:=by decide) (n:HM (e::es) X.env=(KO,eval e X.env)::HM es X.env:=by rfl) (b:(Jc pos (HM es X.env)).any (·.1)=KO:=by rfl) : PE X (.Call (.Name x p) (e::es) [] pos) (Es C sp LC E t):=by intro KZ s σ H Q I h;refine JW (oA I g i ?_ a);refine PySem.W.callWith_K (h₀:=X.base) I.ok.mod.kin M.kp (Lc (l pos KZ s σ H _ I h) λus u ⟨vs,H1,c,r,q⟩=>#[c.kIn,?_]) n b;exact yS M F d j hd hx c r q
end
structure L0(N P:rx)(sc:JH):Prop where
 kind:sc.kind=.function
 co:sc.isCoroutine=KO
 gen:sc.isGenerator=KO
 nd:N.Nodup
 pre:N.take P.length=P
 par:∀x∈P,sc.names.lookup x=KJ .local\/sc.names.lookup x=KJ .cell
 nofree:∀y∈sc.names,y.2≠.free
theorem nE{kindOf:Str->Option K1}{x:Str}:∀{binds:List (Str×Hu)} {m:Str->Option Hu},(∀v,(x,v)∉binds)->bindL kindOf binds m x=m x
 |[],_,_=>rfl
 |(n,v)::r,m,h=>by
  unfold bindL
  rw[nE λw a=>h w (J6 _ a)]
  split
  .have:x≠n:=by rintro rfl;exact h v Ki
   simp[this]
  .rfl
theorem nN{kindOf:Str->Option K1}{x:Str}:∀{binds:List (Str×Hu)} {m:Str->Option Hu},(∀v,(x,v)∉binds)->bindC kindOf binds m x=m x
 |[],_,_=>rfl
 |(n,v)::r,m,h=>by
  unfold bindC
  rw[nN λw a=>h w (J6 _ a)]
  split
  .rfl
  .have:x≠n:=by rintro rfl;exact h v Ki
   simp[this]
theorem nG{kindOf:Str->Option K1}{x:Str}{v:Hu}:∀{P:rx} {vs:List Hu} {i:Nat} {m:Str->Option Hu},P.Nodup->P[i]?=KJ x->vs[i]?=KJ v->kindOf x=KJ .local->
 bindL kindOf (P.zip vs) m x=KJ v
 |[],_,_,_,_,h,_,_=>by simp at h
 |_::_,[],_,_,_,_,h,_=>by simp at h
 |p::P,w::vs,0,m,nd,h1,h2,hk=>by
  simp at h1 h2;subst h1;subst h2
  show bindL kindOf ((p,w)::P.zip vs) m p=_
  unfold bindL
  rw[nE λv hv=>(List.nodup_cons.mp nd).1 (List.of_mem_zip hv).1,KQ hk]
  simp
 |p::P,w::vs,i+1,m,nd,h1,h2,hk=>by
  show bindL kindOf ((p,w)::P.zip vs) m x=_
  unfold bindL
  exact nG (i:=i) (List.nodup_cons.mp nd).2 ‹h1› ‹h2› hk
theorem nt{kindOf:Str->Option K1}{x:Str}{v:Hu}:∀{P:rx} {vs:List Hu} {i:Nat} {m:Str->Option Hu},P.Nodup->P[i]?=KJ x->vs[i]?=KJ v->kindOf x≠KJ .local->
 bindC kindOf (P.zip vs) m x=KJ v
 |[],_,_,_,_,h,_,_=>by simp at h
 |_::_,[],_,_,_,_,h,_=>by simp at h
 |p::P,w::vs,0,m,nd,h1,h2,hk=>by
  simp at h1 h2;subst h1;subst h2
  show bindC kindOf ((p,w)::P.zip vs) m p=_
  unfold bindC
  rw[nN λv hv=>(List.nodup_cons.mp nd).1 (List.of_mem_zip hv).1,KP hk]
  simp
 |p::P,w::vs,i+1,m,nd,h1,h2,hk=>by
  show bindC kindOf ((p,w)::P.zip vs) m x=_
  unfold bindC
  exact nt (i:=i) (List.nodup_cons.mp nd).2 ‹h1› ‹h2› hk
def start(N:rx)(vs:ry):St:=vs.map KJ++Im (N.length-vs.length) KL
def gP(CX:QL)(P:HW)(w:IA)(K:Ht)(mg:Str->Option Hu)(base:pq)(N:rx)(qual:Str)(scope:JH)(f:pd)(cd:Hu)(A:Iv)(outer:List Env)(s:Hv)(H:Hp)(E:XK):Cx where
 prog:=P
 w:=w
 K:=K
 mg:=mg
 base:=base
 A:=A.deeper (Kv qual scope s.z f cd)
 N:=N
 s₀:=s
 H₀:=H
 env:=Kv qual scope s.z f cd
 outer:=outer
 stack:=Kv qual scope s.z f cd::outer
 ex:=[]
 calm:=KN
 fn:=λ_=>KN
 pn:=[]
 xe:=λe b=>HJ (HP P w) (A.deeper (Kv qual scope s.z f cd)) (leaving (Kv qual scope s.z f cd) e) (λ_ a=>CX outer H s E e a) (λc a=>CX outer H s E c a) b
theorem k9{sc:JH}{n:Nat}{x:Str}(h:sc.names.lookup x=KJ .cell):∃c,(JD n sc.names []).lookup x=KJ c:=by have q:=PySem.W.cellsFrom_some sc.names n [] (.inl h);exact Option.isSome_iff_exists.mp q
theorem vg{CX:QL}{P:HW}{w:IA}{K:Ht}{mg:Str->Option Hu}{base:pq}{N ps:rx}{qual:Str}{scope:JH}{f:pd}{cd:Hu}{A:Iv}{outer:List Env}{s t:Hv}{H:Hp}{E:XK}{us:List Hu}{vs:ry}
 (S:L0 N ps scope) (hd:A.handled=KL) (g:Mz P w K mg base A outer s H) (I:vs.length=ps.length) (r:Vals vs us)
 (x:InCallC s s.z (bindL (Kv qual scope s.z f cd).kindOf (ps.zip us) λ_=>KL) (JD (s.z+1) scope.names []) (bindC (Kv qual scope s.z f cd).kindOf (ps.zip us) λ_=>KL) t) :
 Inv (gP CX P w K mg base N qual scope f cd A outer s H E) [] (start N vs) H t:=by
 have D:ps.length<=N.length:=by have:=congrArg List.length S.pre;rw[JE]at this;omega
 let[h1,J,rfl,B]:=x.done
 have j:∀b:pd,b∉(gP CX P w K mg base N qual scope f cd A outer s H E).ex:=λb z=>absurd (show b∈([]:rq)from z) (by simp)
 refine #[#[g.mod,S.kind,rfl,rfl,HD _,λy z c h1 d=>?_,λy hy=>?_,λy c _ h=>?_,λ_=>hd,Around.frames_deeper g.frames,.inr #[rfl,rfl],λb z=>absurd z (j b),g.bs,g.bsz,λb _ _=>j b,λb z=>absurd z (j b),g.gD,g.frf],
  rfl,g.bare,Un.kept B,#[_,x.toInCall.ns,λi y v h1 d L=>?_],λy c h=>#[_,x.cell y c h],g.hok.fresh (HD _),λy c h=>?_,λp l=>absurd (show p∈([]:p4)from l) (by simp),g.hok.kept B,?_]
 .exact name_of_addr x.apart (Iy h1) (Iy d)
 .have hy:scope.names.lookup y=KJ .cell\/scope.names.lookup y=KJ .free:=hy
  rcases hy with hy|hy
  .exact k9 hy
  .exact absurd rfl (S.nofree _ (Iy hy))
 .exact Kn (x.above y c (Iy h))
 .have o:i<vs.length:=by
   unfold start at d
   by_cases o:i<vs.length
   .exact o
   .rw[Iz ‹o›]at d
    rw[List.getElem?_replicate]at d
    split at d<;>cases d
  have F:vs[i]?=KJ v:=by
   unfold start at d
   rw[IB ‹o›,HF]at d
   cases e:vs[i]? with
   |none=>rw[e]at d;cases d
   |some a=>rw[e]at d;cases d;rfl
  let[u,C,G]:=r.get F
  have l:ps[i]?=KJ y:=by
   rw[<-S.pre,List.getElem?_take_of_lt ()];exact h1
  have m:ps.Nodup:=by rw[<-S.pre];exact S.nd.sublist (List.take_sublist _ _)
  exists u,G
  rcases S.par y (HE l)with k|k
  .exact .inl #[k,nG m l C k]
  .obtain⟨c,e⟩:=k9 (n:=s.z+1) k
   refine .inr #[.inl k,c,e,?_]
   have q:=x.cell y c e
   rw[nt m l C (by show scope.names.lookup y≠_;rw[k];decide)]at q
   exact q
 .exact g.hok.fresh (Kn (x.above y c (Iy h)))
 .unfold start
  show _=N.length
  rw[IJ,Hw,List.length_replicate]
  omega
theorem Bu{CX:QL}{P:HW}{w:IA}{K:Ht}{mg:Str->Option Hu}{base:pq}{k:Nat}{f:pd}{name qual:Str}{params:Arguments}{body:ri}{scope:JH}{F kV j G cdv ct oc:Hu}{an od:Option pd}
 {osl:Array (Option Hu)} {N ps:rx} {sp:Sp} (O:K.lookup f=KJ #[oc,od,.func (IX name qual params body scope F kV j G an cdv ct),osl]) (p:K3 K cdv qual=KN) (S:L0 N ps scope)
 (len:∀vs H Q E,sp vs H Q E->vs.length=ps.length)
 (g:∀(A:Iv) (outer:List Env) (s:Hv) (H:Hp) (vs:ry) (Q:VK) (E:XK),La k (A.deeper (Kv qual scope s.z f cdv))->sp vs H Q E->
  ∃t,Ng (gP CX P w K mg base N qual scope f cdv A outer s H E) body t/\t { nx:=λ_ d=>Q .non d,rt:=Q } (start N vs) H) :
 MA P w K mg base CX (k+1) f (IX name qual params body scope F kV j G an cdv ct) ps sp:=by
 refine #[len,λA outer s H args us vs Q E z l R r m=>?_]
 have T:=len _ _ _ _ m
 have L:K.In s.heap:=l.mod.kin.keeps λb o e=>(l.bs b o e).1
 have B:s.heap.NoLimit:=l.mod.nolimit.keeps λb o e=>(l.bs b o e).1
 have h:∀y∈ps.zip us,scope.names.lookup y.1=KJ .local\/(scope.names.lookup y.1=KJ .cell/\((JD (s.z+1) scope.names []).lookup y.1).isSome=KN):=λa hy=>by
  let[n,v]:=a
  rcases S.par n (List.of_mem_zip hy).1 with q|q
  .exact .inl q
  .exact .inr #[q,PySem.W.cellsFrom_some _ _ _ (.inl q)]
 refine codeAny_call_function z.depth (L _ _ O) rfl S.co S.gen rfl (PySem.W.codeRec_of L p) (R _ _ _ _ ?_)
 refine wpAny_newFunctionEnv_cells S.kind h λenv U M x=>?_
 subst U
 refine #[B.keeps x.toInCall.keep,codeAny_func ?_]
 let[t,X,Y]:=g A outer s H vs Q E (z.deeper _) m
 have I:Inv (gP CX P w K mg base N qual scope f cdv A outer s H E) [] (start N vs) H M:=vg S z.hd l T r x
 refine HQ (X [] M (start N vs) H _ I Y) (λZ C i=>?_) λe C i=>i
 have fin:∀{c:St} {d:Hp} {v:V} {u:Hu},Inv (gP CX P w K mg base N qual scope f cdv A outer s H E) [] c d C->RelV v u->Q v d->CE outer P w H s Q u C:=
  λ{c d v u} J D q=>#[v,d,J.os,J.bare,J.base,J.hok,D,q]
 cases Z with
 |ret u=>
  let[v,c,d,J,D,q]:=i
  exact fin J D q
 |next=>
  let[c,d,J,q]:=i
  exact fin (v:=V.non) (u:=JB) J rfl q
 |brk=>
  let[_,_,_,q]:=i
  exact Ic q
 |cont=>
  let[_,_,_,q]:=i
  exact Ic q
section
variable{X:Cx}{x:Str}{p pos:Pos}{e:pv}{es:ro}{t:TA}{id T:String}{r:ry->Hp->VK->Prop}
def Wo(r:ry->Hp->VK->Prop)(t:TA):TE:=λσ H Q=>t σ H λvs H1=>r vs H1 Q
theorem xm(d:b5 X (.builtin id) r)(f:Gl X x)(g:X.mg x=KL)(hv:J5 x=KJ (.builtin id))(i:PA X (e::es) t)(j:x≠"__name__":=by decide)(b:(x==("__debug__":Str))=KO:=by decide) (k:HM (e::es) X.env=(KO,eval e X.env)::HM es X.env:=by rfl) (c:(Jc pos (HM es X.env)).any (·.1)=KO:=by rfl):PE X (.Call (.Name x p) (e::es) [] pos) (Wo r t):=by intro KZ s σ H Q I h;refine JW (gM I f g hv ?_ j b);exact PyProof.Rows.callWith_builtin1 (Lc (i pos KZ s σ H _ I h) λus l a=>by let[vs,H1,m,n,o]:=a;exact(d KZ l σ H1 vs us Q m n o)) k c
theorem nB(d:b5 X (.type T) r)(f:Gl X x)(g:X.mg x=KL)(hv:J5 x=KJ (.type T))(i:PA X (e::es) t)(j:x≠"__name__":=by decide)(b:(x==("__debug__":Str))=KO:=by decide) (k:HM (e::es) X.env=(KO,eval e X.env)::HM es X.env:=by rfl) (c:(Jc pos (HM es X.env)).any (·.1)=KO:=by rfl):PE X (.Call (.Name x p) (e::es) [] pos) (Wo r t):=by intro KZ s σ H Q I h;refine JW (gM I f g hv ?_ j b);exact JG (Lc (i pos KZ s σ H _ I h) λus l a=>by let[vs,H1,m,n,o]:=a;exact(d KZ l σ H1 vs us Q m n o)) k c
end
end L2
namespace HT
open PySem PyProof.Rows
def lexLt:q_->q_->Bool
 |[],[]=>KO
 |[],_::_=>KN
 |_::_,[]=>KO
 |x::xs,y::ys=>if x=y then lexLt xs ys else decide (x<y)
theorem rG(x y:Int)(xs a:q_):lexLt (x::xs) (y::a)=if x=y then lexLt xs a else decide (x<y):=rfl
theorem mH:lexLt [] []=KO:=rfl
theorem mv(y:Int)(a:q_):lexLt [] (y::a)=KN:=rfl
theorem l3(x:Int)(xs:q_):lexLt (x::xs) []=KO:=rfl
theorem qb(A:Iv)(s:Hv)(a:Int)(t:Tok)(c:Int)(u:Tok):∃e,SeqAt.EqAt A s (.int a t) (.int c u) e/\(e=KN↔a=c):=#[(a==c),SeqAt.EqAt.int_int a t c u,by simp]
theorem yZ(A:Iv)(s:Hv)(a:Int)(t:Tok)(c:Int)(u:Tok)(prog:HW)(w:IA)(E:Hu->Hv->Prop)(Q:Hu->Hv->Prop)(h:Q (.bool (decide (a<c))) s) : HJ (HP prog w) A (richCompare .Lt (.int a t) (.int c u)) Q E s:=(PyProof.Rows.lt_int h:HJ (HP prog w) A (IM .Lt (.int a t) (.int c u)) Q E s)
section
open PySem.SeqAt
open PySem.AutoSeq1 (wpAny_loadPart')
open PySem.MeetsSeq PySem.MeetsSeq2 PySem.MeetsSeq3
theorem mP(l b:pd)(items f:Array Hu)(n O:Nat)(P H:Option pd)(Q I:Array (Option Hu))(ns ms:q_)(M:Jt items.toList ns)(N:Jt f.toList ms) :
 Meets (KH.«tuple.__lt__» #[[.ref l,.ref b],[]])
  (λ_ R s=>s.heap.get? l=KJ { cls:=.type "tuple",dict:=P,data:=.seq items n,slots:=Q }/\s.heap.get? b=KJ { cls:=.type "tuple",dict:=H,data:=.seq f O,slots:=I }/\
   R (.ok (.ret (.bool (lexLt ns ms)))) s):=
 .of_wp λprog w A R s h=>by
  let[F,g,d,G,os]:=s;let[S,T,h]:=h
  have W:=AutoSeq1.sub_tuple_tuple
  have X:items.size=ns.length:=by rw[<-M.length];simp
  have Y:f.size=ms.length:=by rw[<-N.length];simp
  wp_walk using Jd S,Jd T,wpAny_forIn_list _ (λp b J=>b.1=KL/\J=#[F,g,d,G,os]/\∃(vs ws:List Hu) (j k:q_),p=vs.zip ws/\
   Jt vs j/\Jt ws k/\j.length+f.size=k.length+items.size/\R (.ok (.ret (.bool (lexLt j k)))) #[F,g,d,G,os]) _
  case turn=>
   rintro⟨y,x⟩ p b J ⟨z,rfl,vs,ws,j,k,m,B,o,i,r⟩
   cases B with
   |nil=>rw[List.zip_nil_left]at m;cases m
   |cons a t D=>
    cases o with
    |nil=>rw[List.zip_nil_right]at m;cases m
    |cons c u E=>
     rw[List.zip_cons_cons]at m
     injection m with K C
     injection K with hy hx
     subst hy hx
     rw[rG]at r
     simp only[Io]at i
     let[e,U,v]:=qb A.in1 #[F,g,d,G,os] a t c u
     refine cc (U prog w _ _ ?_)
     cases e with
     |true=>
      rw[KQ (v.mp rfl)]at r
      wp_walk
      exact #[rfl,rfl,_,_,_,_,C,D,E,(),r]
     |false=>
      rw[KP (λq=>absurd (v.mpr q) Ib)]at r
      have L:=yZ A.in1 #[F,g,d,G,os] a t c u prog w
      wp_walk using L
      exact #[7,‹r›]
  case fin=>
   rintro⟨b1,Z⟩ J ⟨z,rfl,vs,ws,j,k,m,B,o,i,r⟩
   simp only at z
   subst z
   have hv:lexLt j k=decide (items.size<f.size):=by
    cases B with
    |nil=>
     cases o with
     |nil=>
      simp only[List.length_nil]at i
      rw[mH]
      exact(KR ()).symm
     |cons c u V=>
      simp only[List.length_nil,Io]at i
      rw[mv]
      exact(KS ()).symm
    |cons a t hv=>
     cases o with
     |nil=>
      simp only[List.length_nil,Io]at i
      rw[l3]
      exact(KR ()).symm
     |cons c u V=>
      rw[List.zip_cons_cons]at m
      cases m
   rw[hv]at r
   wp_walk
   exact #[7,by simpa[Builtin.Tuple.tupleCompareSizes]using r]
  case h=>
   exact #[rfl,rfl,items.toList,f.toList,ns,ms,rfl,M,N,(),h]
end
section
variable{prog:HW}{w:IA}{A:Iv}{E:Hu->Hv->Prop}{s:Hv}
theorem lO{l b:pd}{items a:Array Hu}{ns ms:q_}{Q:Hu->Hv->Prop}(o:IsTup s.heap l items)(p:IsTup s.heap b a)(q:Jt items.toList ns)(r:Jt a.toList ms) (t:A.units<J9) (h:Q (.bool (lexLt ns ms)) s):HJ (HP prog w) A (IM .Lt (.ref l) (.ref b)) Q E s:=by obtain⟨⟨cls,u,data,v⟩,j,k,n,hd⟩:=id o;obtain⟨⟨m,f,g,i⟩,c,d,y,e⟩:=id p;simp only at k hd d e;subst k hd d e;exact richCompare_meets_room (op:=.Lt) #[_,j,rfl] #[_,c,rfl] PySem.F.slot_tuple_lt PySem.F.entry_tuple_lt (PySem.F.args_tuple_lt_2 _ _) (mP l b items a n y u f v i ns ms q r) #[j,c,show Value.bool (lexLt ns ms)≠Value.notImplemented/\Q (.bool (lexLt ns ms)) s from #[(λx=>nomatch x),h]] t
theorem zS{t b:pd}{vs ws:List Hu}{Q:Hu->Hv->Prop}(q:IsTup s.heap t vs.toArray)(r:IsTup s.heap b ws.toArray)(hv:vs≠[])
 (h1:ws=[]->Q (.ref t) s) (u:ws≠[]->Q (.ref s.z) { s with heap:=s.heap.push { cls:=.type "tuple",data:=.seq (vs++ws).toArray } })
 (hsz:vs.length+ws.length<=HR):HJ (HP prog w) A (JR .Add (.ref t) (.ref b)) Q E s:=by
 obtain⟨⟨cls,k,data,l⟩,h,m,n,hd⟩:=id q
 obtain⟨⟨o,c,j,d⟩,a,f,p,g⟩:=id r
 simp only at m hd f g
 subst m hd f g
 have e:vs.toArray++ws.toArray=(vs++ws).toArray:=by simp
 by_cases i:ws=[]
 .exact concat_meets #[_,h,rfl] #[_,a,rfl] noFill_tuple_add seq_tuple_add PySem.F.slot_tuple_add PySem.F.entry_tuple_add (PySem.F.args_tuple_add_2 _ _)
   (tuple_addW1 t b vs.toArray ws.toArray n p k c l d ‹hv› (by simp[i])) #[h,a,h1 i]
 .refine concat_meets #[_,h,rfl] #[_,a,rfl] noFill_tuple_add seq_tuple_add PySem.F.slot_tuple_add PySem.F.entry_tuple_add (PySem.F.args_tuple_add_2 _ _)
   (tuple_addW2 t b vs.toArray ws.toArray n p k c l d ‹hv› ‹i› (by rw[HL,HL];exact hsz)) #[h,a,?_]
  rw[e]
  exact u i
def sIx(n d:Nat):rf->Nat
 |none=>d
 |some v=>if v<0 then(v+(n:Int)).toNat else min v.toNat n
theorem yD(n d:Nat):sIx n d KL=d:=rfl
theorem Ac(n d k:Nat):sIx n d (KJ (k:Int))=min k n:=by show(if(k:Int)<0 then((k:Int)+(n:Int)).toNat else min (k:Int).toNat n)=min k n;rw[KP (),Ju]
theorem C9(n d:Nat)(hd:d<=n)(o:rf):sIx n d o<=n:=by
 cases o with
 |none=>exact hd
 |some v=>
  show(if v<0 then(v+(n:Int)).toNat else min v.toNat n)<=n
  by_cases hv:v<0
  .rw[KQ hv];omega
  .rw[KP hv];exact Nat.min_le_right _ _
theorem tL(v:Int)(n d:Nat):(if v<0 then max (v+(n:Int)) 0 else min v (n:Int))=((sIx n d (KJ v):Nat):Int):=by
 show(if v<0 then max (v+(n:Int)) 0 else min v (n:Int))=(((if v<0 then(v+(n:Int)).toNat else min v.toNat n):Nat):Int);by_cases hv:v<0
 .simp only[KQ hv];omega
 .simp only[KP hv];omega
theorem si(a b:rf)(n:Nat):Builtin.Slice.sliceAdjust a b 1 (n:Int)=(((sIx n 0 a:Nat):Int),((sIx n n b:Nat):Int)):=by
 have h1:¬((1:Int)<0):=()
 unfold Builtin.Slice.sliceAdjust;simp only[h1,if_false];refine Prod.ext ?_ ?_
 .cases a with
  |none=>rfl
  |some v=>exact tL v n 0
 .cases b with
  |none=>rfl
  |some v=>exact tL v n n
theorem qV(i j:Nat):Builtin.Slice.slicePlaces (i:Int) (j:Int) 1=j-i:=by
 unfold Builtin.Slice.slicePlaces;have h1:(1:Int)>0:=()
 simp only[h1,if_true,Int.ediv_one];split<;>omega
theorem lh{v:Hu}{o:rf}{Q:rf->Hv->Prop}(p:IsPart v o)(h:Q o s):HJ (HP prog w) A (Builtin.Slice.slicePartIndex v) Q E s:=by
 cases p with
 |none=>exact slicePart_none h
 |int i t=>exact slicePart_int h
theorem jx{f:pd}{vl e:Hu}{a b:rf}{n:Nat}{Q:Int×Int×Nat->Hv->Prop}(g:s.heap.IsSliceOf f vl e .none)(pl:IsPart vl a)(i:IsPart e b)
 (h:Q (((sIx n 0 a:Nat):Int),1,sIx n n b-sIx n 0 a) s):HJ (HP prog w) A (Builtin.Slice.sliceApplied (.ref f) (pure (n:Int))) Q E s:=by
 let[os,c,j,d]:=id g
 unfold Builtin.Slice.sliceApplied Builtin.Slice.sliceFields
 refine cc (cc (wpAny_field c d (x:=vl) rfl (cc (wpAny_field c d (x:=e) rfl (cc (wpAny_field c d (x:=.none) rfl (Hz ?_)))))))
 refine cc (slicePart_none ?_)
 show HJ _ _ (if((1:Int)==0)=KN then _ else _) _ _ s
 rw[KP ⋯]
 refine cc (lh pl (cc (lh i (cc (Hz ?_)))))
 show HJ _ _ (match Builtin.Slice.sliceAdjust a b 1 (n:Int)with|(a,b)=>pure (a,(1:Int),Builtin.Slice.slicePlaces a b 1)) _ _ s
 rw[si a b n]
 show HJ _ _ (pure (((sIx n 0 a:Nat):Int),(1:Int),Builtin.Slice.slicePlaces ((sIx n 0 a:Nat):Int) ((sIx n n b:Nat):Int) 1)) _ _ s
 rw[qV]
 exact Hz h
theorem yP(xs:Array Hu)(i k:Nat):((HK k).filterMap λ(m:Nat)=>xs[((i:Int)+(m:Int)*1).toNat]?).toArray=((xs.toList.drop i).take k).toArray:=by
 have e:(λ(m:Nat)=>xs[((i:Int)+(m:Int)*1).toNat]?)=λm=>xs[i+m]?:=by
  funext m
  have:((i:Int)+(m:Int)*1).toNat=i+m:=()
  rw[this]
 rw[e];have:=pick_run xs i k;rw[List.filterMap_map]at this;have e2:((λx=>xs[x]?)∘λx=>i+x)=λm=>xs[i+m]?:=rfl;rw[e2]at this;rw[this]
theorem jh{t e:pd}{items:Array Hu}{vl k:Hu}{b c:rf}{Q:Hu->Hv->Prop}(d:IsTup s.heap t items)(l:s.heap.IsSliceOf e vl k .none)(pl:IsPart vl b)(n:IsPart k c)
 (hw:¬(sIx items.size 0 b=0/\sIx items.size items.size c=items.size))
 (h:Q (.ref s.z) { s with heap:=s.heap.push { cls:=.type "tuple",data:=.seq ((items.toList.drop (sIx items.size 0 b)).take (sIx items.size items.size c-sIx items.size 0 b)).toArray } })
 (hsz:items.size<=HR):HJ (HP prog w) A (getItem (.ref t) (.ref e)) Q E s:=by
 have a:sizeOk (.seq ((items.toList.drop (sIx items.size 0 b)).take (sIx items.size items.size c-sIx items.size 0 b)).toArray):=by
  show((items.toList.drop (sIx items.size 0 b)).take (sIx items.size items.size c-sIx items.size 0 b)).toArray.size<=HR
  rw[HL,JE,List.length_drop,IW]
  omega
 have p:sIx items.size items.size c<=items.size:=C9 _ _ (HD _) c
 let[os,f,g,o]:=id l
 have i:s.TypeIs (.ref e) "slice":=#[os,f,g]
 unfold getItem
 try with_reducible refine Jg ?_
 first|refine cc (Hz ?_)|skip
 refine cc (wpAny_sequenceKey d.typeIs ⋯ ?_)
 refine cc (K5 (name:=Ja "__getitem__") d.typeIs PyProof.Rows.slot_tuple_getitem
  (Kh PyProof.Rows.slot_tuple_getitem d.typeIs entry_tuple_getitem ?_ (args_tuple_getitem _ _)))
 show HJ _ _ (Builtin.Tuple.tupleItemsOf (.ref t) >>= _) _ _ s
 refine cc (tupleItemsOf_ d ?_)
 refine cc (wpAny_typeOf i ?_)
 rw[KQ ⋯]
 refine cc (jx l pl n ?_)
 have j:¬((((sIx items.size 0 b:Nat):Int)==0&&(1:Int)==1&&(sIx items.size items.size c-sIx items.size 0 b)==items.size)=KN):=by
  intro q
  rw[Ji,Ji]at q
  have r:((sIx items.size 0 b:Nat):Int)=0:=eq_of_beq q.1.1
  have u:sIx items.size items.size c-sIx items.size 0 b=items.size:=eq_of_beq q.2
  exact hw #[(),()]
 show HJ _ _ (if(((sIx items.size 0 b:Nat):Int)==0&&(1:Int)==1&&(sIx items.size items.size c-sIx items.size 0 b)==items.size)=KN then _ else _) _ _ s
 rw[KP j,yP]
 first
  |exact cc (m:=Builtin.Tuple.tupleExact _) (IT (Hz #[7,Hz h]) a)
  |exact cc (m:=Builtin.Tuple.tupleExact _) (IT (cc (Hz (Hz #[7,Hz h]))) a)
  |exact cc (cc (m:=Builtin.Tuple.tupleExact _) (IT (Hz (Hz #[7,Hz h])) a))
  |exact cc (cc (m:=Builtin.Tuple.tupleExact _) (IT (Hz #[7,Hz h]) a))
end
end HT
namespace L2
open PySem PySem.Spec PyProof.Rows
abbrev TO:=St->Hp->(rf->Hp->Prop)->Prop
def PO(X:Cx)(e:Option pv)(t:TO):Prop:=
 ∀(KZ:p4) (s:Hv) (σ:St) (H:Hp) (Q:rf->Hp->Prop),Inv X KZ σ H s->t σ H Q->
  HJ (HP X.prog X.w) X.A (evalPart e X.env) (λu b=>∃o a,Inv X KZ σ a b/\IsPart u o/\Q o a) X.xe s
def zO:TO:=λ_ H Q=>Q KL H
def F9(t:TE):TO:=λσ H Q=>t σ H λx H1=>∃i,x=.int i/\Q (KJ i) H1
theorem intsAre_of{ns:q_}:∀{us:List Hu},Vals (ns.map V.int) us->Jt us ns:=by
 induction ns with
 |nil=>intro us r;rw[Jm]at r;cases r;exact .nil
 |cons n ns a=>
  intro us r
  rw[HI]at r
  cases r with
  |cons b c=>
   let[t,e]:=b
   subst e
   exact .cons n t (a c)
section
variable{X:Cx}{e:pv}{te:TE}{lo hi:Option pv}{tl th:TO}{pos p2:Pos}
theorem zC:PO X KL zO:=by intro KZ s σ H Q I h;rw[evalPart_none];exact Hz #[KL,H,I,.none,h]
theorem A5(h:PE X e te):PO X (KJ e) (F9 te):=by intro KZ s σ H Q I b;rw[evalPart_some];refine Lc (h KZ s σ H _ I b) λu g a=>?_;let[x,H1,c,d,f]:=a;let[i,rfl,q]:=f;let[t,rfl]:=d;exact #[KJ i,H1,c,.int i t,q]
def Qc(X:Cx)(r:V->rf->rf->Hp->VK->Prop):Prop:=
 ∀(KZ:p4) (s:Hv) (σ:St) (H:Hp) (x:V) (v vl a:Hu) (lo hi:rf) (b:pd) (Q:VK),Inv X KZ σ H s->RelV x v->s.heap.IsSliceOf b vl a .none->IsPart vl lo->IsPart a hi->r x lo hi H Q->
  ∃T id,typeLookup (.type T) "__getitem__"=pure (KJ (.builtin id))/\s.TypeIs v T/\HJ (HP X.prog X.w) X.A (getItem v (.ref b)) (EP X KZ σ Q) X.xe s
theorem Qc.or{r a:V->rf->rf->Hp->VK->Prop}(h:Qc X r)(h':Qc X a):Qc X (λx lo hi H Q=>r x lo hi H Q\/a x lo hi H Q):=by
 intro KZ s σ H x v vl b lo hi c Q I d f g i q;rcases q with q|q
 .exact h KZ s σ H x v vl b lo hi c Q I d f g i q
 .exact h' KZ s σ H x v vl b lo hi c Q I d f g i q
def ZW(r:V->rf->rf->Hp->VK->Prop)(te:TE)(tl th:TO):TE:=λσ H Q=>te σ H λx H1=>tl σ H1 λl a=>th σ a λu b=>r x l u b Q
theorem we{r:V->rf->rf->Hp->VK->Prop}(i:Qc X r)(j:PE X e te)(k:PO X lo tl)(m:PO X hi th):PE X (.Subscript e (.Slice lo hi KL p2) pos) (ZW r te tl th):=by intro KZ s σ H Q I h;refine Subscript_ (Lc (j KZ s σ H _ I h) λv n c=>?_);let[x,H1,o,p,t]:=c;refine wpAny_Slice (Lc (k KZ n σ H1 _ o t) λvl y ⟨l,z,B,C,D⟩=>Lc (m KZ y σ z _ B D) λf a d=>?_);let[u,g,E,F,G]:=d;rw[evalPart_none];refine Hz ?_;have J:Inv X KZ σ g { a with heap:=a.heap.push { cls:=.type "slice",data:=.fields (List.toArray [vl,f,.none]) } }:=E.kept (t':=a.toks) λb N q=>Hx _ q;let[T,id,K,L,M]:=i KZ { a with heap:=a.heap.push { cls:=.type "slice",data:=.fields (List.toArray [vl,f,.none]) } } σ g x v vl f l u a.z Q J p (Heap.IsSliceOf.new ..) C F G;show HJ (HP X.prog X.w) X.A (subscriptTail e (.Slice lo hi KL p2) v (.ref a.z)) (EP X KZ σ Q) X.xe { a with heap:=a.heap.push { cls:=.type "slice",data:=.fields (List.toArray [vl,f,.none]) } };exact tail_any (ops:=[.ref a.z,v]) L K M (by with_unfolding_all rfl)
def pb(xs:ry)(lo hi:rf):ry:=(xs.drop (HT.sIx xs.length 0 lo)).take (HT.sIx xs.length xs.length hi-HT.sIx xs.length 0 lo)
theorem j7(xs:ry)(lo hi:rf):(pb xs lo hi).length<=xs.length:=by unfold pb;rw[JE,List.length_drop];omega
def Gz(K:Ht):V->rf->rf->Hp->VK->Prop:=λx lo hi H Q=>∃a xs,x=.ref a/\Lm K H a xs/\
 ¬(HT.sIx xs.length 0 lo=0/\HT.sIx xs.length xs.length hi=xs.length)/\∀p,H p=KL->Q (.ref p) (upd H p (.tup (pb xs lo hi)))
theorem C1:Qc X (Gz X.K):=by
 intro KZ s σ H x v vl n lo hi p Q I i j k l h;let[a,xs,rfl,hx,m,q]:=h;cases i;let[d,r,f,g]:=I.tuple hx;have c:d.toArray.size=xs.length:=by rw[HL];exact r.length.symm
 exists "tuple",_,PyProof.Rows.slot_tuple_getitem.lookup,f.typeIs;refine HT.jh f j k l (by rw[c];exact m) ?_ (by rw[c];exact g);rw[c];refine #[.ref s.z,_,I.laid (t':=s.toks) (o:=.tup (pb xs lo hi)) (λb t q=>Hx _ q) (HD _) ?_,rfl,q _ (I.hok.fresh (HD _))];exact #[ID (j7 xs lo hi) g,_,(r.drop (HT.sIx xs.length 0 lo)).take (HT.sIx xs.length xs.length hi-HT.sIx xs.length 0 lo),IsTup.new _ _,Qf.new _ _]
def Hr(K:Ht):R2:=λx y H Q=>∃a b ns c,x=.ref a/\y=.ref b/\Lm K H a (ns.map V.int)/\Lm K H b (c.map V.int)/\Q (.bl (HT.lexLt ns c)) H
theorem BZ(g:X.A.units<J9):MQ X (IM .Lt) (Hr X.K):=by intro KZ s σ H x y v u Q I i j h;let[a,b,ns,f,rfl,rfl,k,l,q]:=h;cases i;cases j;let[d,m,n,_]:=I.tuple k;let[c,o,p2,_]:=I.tuple l;have p:Jt d.toArray.toList ns:=intsAre_of m;have r:Jt c.toArray.toList f:=intsAre_of o;exact HT.lO n p2 p r g #[.bl (HT.lexLt ns f),H,I,rfl,q]
def FR(K:Ht):R2:=λx y H Q=>∃a b xs c,x=.ref a/\y=.ref b/\Lm K H a xs/\Lm K H b c/\xs≠[]/\xs.length+c.length<=HR/\
 (c=[]->Q (.ref a) H)/\(c≠[]->∀p,H p=KL->Q (.ref p) (upd H p (.tup (xs++c))))
theorem Vals.oJ{xs:ry}{us:List Hu}(r:Vals xs us):us=[]↔xs=[]:=by
 cases r with
 |nil=>simp
 |cons _ _=>simp
theorem A6:MQ X (JR .Add) (FR X.K):=by intro KZ s σ H x y v u Q I i j h;let[a,b,xs,k,rfl,rfl,l,m,hx,f,n,p]:=h;cases i;cases j;let[r,d,t,_]:=I.tuple l;let[g,c,p2,_]:=I.tuple m;refine HT.zS t p2 (λz=>hx (d.oJ.mp z)) (λz=>#[.ref a,H,I,rfl,n (c.oJ.mp z)]) (λz=>?_) (by rw[<-d.length,<-c.length];exact f);refine #[.ref s.z,_,I.laid (t':=s.toks) (o:=.tup (xs++k)) (λb A q=>Hx _ q) (HD _) ?_,rfl,p (λw=>z (c.oJ.mpr w)) _ (I.hok.fresh (HD _))];exact #[by rw[IJ];exact f,_,d.append c,IsTup.new _ _,Qf.new _ _]
end
def ixN(n:Nat)(i:Int):Option Nat:=if 0<=i then(if i<n then KJ i.toNat else KL)else if -(n:Int)<=i then KJ (i+n).toNat else KL
def atI{a:Type}(xs:List a)(i:Int):Option a:=(ixN xs.length i).bind λj=>xs[j]?
theorem uk{n:Nat}{i:Int}{j:Nat}(h:ixN n i=KJ j):seqIndex? i n=KJ j/\j<n/\-(n:Int)<=i/\i<n:=by
 unfold ixN at h;by_cases h0:0<=i
 .rw[KQ h0]at h;by_cases h1:i<n
  .rw[KQ h1]at h;have e:i.toNat=j:=Option.some.inj h;exact #[by rw[seqIndex_of h0 h1,e],(),(),h1]
  .rw[KP h1]at h;cases h
 .rw[KP h0]at h;by_cases h1:-(n:Int)<=i
  .rw[KQ h1]at h;have e:(i+n).toNat=j:=Option.some.inj h;exact #[by rw[seqIndex_neg () h1,e],(),h1,()]
  .rw[KP h1]at h;cases h
theorem nX{a:Type}{xs:List a}{i:Int}{v:a}(h:atI xs i=KJ v):∃j,seqIndex? i xs.length=KJ j/\xs[j]?=KJ v/\j<xs.length/\-(xs.length:Int)<=i/\i<xs.length:=by
 unfold atI at h;cases e:ixN xs.length i with
 |none=>rw[e]at h;cases h
 |some j=>
  rw[e]at h
  let[h1,b,c,d]:=uk e
  exact #[j,h1,h,b,c,d]
theorem bz{a:Type}{xs:List a}{j:Nat}{v:a}(h:xs[j]?=KJ v):atI xs (j:Int)=KJ v:=by
 have b:j<xs.length:=(HC.mp h).1;have e:ixN xs.length (j:Int)=KJ j:=by unfold ixN;rw[KQ (),KQ ()];simp
 unfold atI;rw[e];exact h
def oq(b:pv):Prop:=∀o i,subscripted b KO o i=operate [o,i] (getItem o i)
def OX(X:Cx)(r:R2):Prop:=
 ∀(b a:pv) (KZ:p4) (s:Hv) (σ:St) (H:Hp) (x y:V) (v u:Hu) (Q:VK),Inv X KZ σ H s->RelV x v->RelV y u->r x y H Q->
  subscripted a KO v u=operate [v,u] (getItem v u)->HJ (HP X.prog X.w) X.A (subscriptTail b a v u) (EP X KZ σ Q) X.xe s
def Yx(X:Cx)(id:String)(r:V->ry->Hp->VK->Prop):Prop:=
 ∀(KZ:p4) (s:Hv) (σ:St) (H:Hp) (x:V) (xs:ry) (v:Hu) (us:List Hu) (Q:VK),Inv X KZ σ H s->RelV x v->Vals xs us->r x xs H Q->
  HJ (HP X.prog X.w) X.A (call (.builtin id) (v::us)) (EP X KZ σ Q) X.xe s
section
variable{X:Cx}{a b:pv}{ta tb:TE}{pos:Pos}
theorem OX.or{r e:R2}(h:OX X r)(h':OX X e):OX X (λx y H Q=>r x y H Q\/e x y H Q):=by
 intro c d KZ s σ H x y v u Q I f g q i;rcases q with q|q
 .exact h c d KZ s σ H x y v u Q I f g q i
 .exact h' c d KZ s σ H x y v u Q I f g q i
theorem Fq{r:R2}(c:OX X r)(d:PE X a ta)(e:PE X b tb)(f:oq b):PE X (.Subscript a b pos) (Qs r ta tb):=by intro KZ s σ H Q I h;exact Subscript_ (DM d e I h λv u g x y i j k l q=>c a b KZ g σ i x y v u Q j k l q (f _ _))
def Fx(K:Ht):R2:=λx y H Q=>∃p xs i v,x=.ref p/\y=.int i/\Ln K H p xs/\atI xs i=KJ v/\Q v H
def FI(K:Ht):R2:=λx y H Q=>∃p xs i v,x=.ref p/\y=.int i/\Lm K H p xs/\atI xs i=KJ v/\Q v H
def Er:R2:=λx y H Q=>∃z i c,x=.str z/\y=.int i/\z.length<=HR/\atI z.cps.toList i=KJ c/\Q (.str ⟨#[c]⟩) H
theorem Aq:OX X (Fx X.K):=by
 intro c d KZ s σ H x y v u Q I n o h l;let[p,xs,i,z,rfl,rfl,A,B,q]:=h;cases n;let[t,rfl]:=o;let[e,r,f,J]:=I.list A;let[j,h1,C,L,D,E]:=nX B;let[w,m,g]:=r.get C;have F:=r.length;have M:=jS;have fin:EP X KZ σ Q w s:=#[z,H,I,g,q];by_cases h0:0<=i
 .have k:i.toNat=j:=by rw[seqIndex_of h0 E]at h1;exact Option.some.inj h1
  exact item_listR f.isList h0 () (by rw[k];simpa using m) fin l
 .have k:(i+(e.toArray.size:Int)).toNat=j:=by rw[seqIndex_neg () D]at h1;rw[HL,<-F];exact Option.some.inj h1
  exact subscriptTail_builtinR (x:=w) f.isList.typeIs slot_list_getitem.lookup (wpAny_getItem_list_neg (Q:=λr G=>r=w/\EP X KZ σ Q r G) f.isList () (by rw[HL]<;>omega) () (by rw[k];simpa using m) #[rfl,fin]) l
theorem B4:OX X (FI X.K):=by intro c d KZ s σ H x y v u Q I g k h l;let[p,xs,i,z,rfl,rfl,m,n,q]:=h;cases g;let[t,rfl]:=k;let[o,r,f,E]:=I.tuple m;let[j,h1,A,F,G,J]:=nX n;let[w,B,e]:=r.get A;have C:=r.length;have L:=jS;have fin:EP X KZ σ Q w s:=#[z,H,I,e,q];exact subscriptTail_builtinR (x:=w) f.typeIs slot_tuple_getitem.lookup (getItem_tuple (j:=j) (Q:=λr D=>r=w/\EP X KZ σ Q r D) f () () (by rw[HL,<-C];exact h1) ‹B› #[rfl,fin]) l
theorem Cu:OX X Er:=by
 intro d e KZ s σ H x y v u Q I f g h k;let[z,i,c,rfl,rfl,r,l,q]:=h;let[t,rfl]:=f;let[w,rfl]:=g;let[j,h1,m,A,n,o]:=nX l;have p:z.cps.toList.length=z.length:=by simp[Str.length]
 rw[p]at h1 n o;have B:=jS
 exact tail_any (typeIs_str s z t) slot_str_getitem.lookup (getItem_str (c:=c) (by
  have e1:decide (i < -(2^63:Int))=KO:=KR ()
  have e2:decide (i≥2^63)=KO:=KR ()
  rw[e1,e2,Bool.or_false]) (by rw[h1];simpa using m) #[.str ⟨#[c]⟩,H,I.tok _,#[_,rfl],q]) k
def Yp(K:Ht):R2:=λx y H Q=>Fx K x y H Q\/FI K x y H Q\/Er x y H Q
theorem Di:OX X (Yp X.K):=Aq.or (B4.or Cu)
theorem qT(its:List Hu)(n j:Nat)(u:Hu):IG (·.setIfInBounds j u) { cls:=.type "list",data:=.seq its.toArray n }={ cls:=.type "list",data:=.seq (its.set j u).toArray n }:=by simp[IG]
theorem Inv.lst{KZ:p4}{σ:St}{H:Hp}{s:Hv}{p:pd}{xs:ry}(I:Inv X KZ σ H s)(h:H p=KJ (.lst xs)) : ∃(its:List Hu) (n:Nat),Vals xs its/\s.heap.get? p=KJ { cls:=.type "list",data:=.seq its.toArray n }/\xs.length<=HR:=by let[z,its,n,r,e]:=I.hok p _ h;exact #[its,n,r,e,z]
theorem Inv.Cv{KZ:p4}{σ:St}{H:Hp}{s:Hv}{p:pd}{xs c:ry}{its its':List Hu}{n d:Nat}{f:Obj->Obj}(I:Inv X KZ σ H s)(h:H p=KJ (.lst xs))
 (i:s.heap.get? p=KJ { cls:=.type "list",data:=.seq its.toArray n }) (g:f { cls:=.type "list",data:=.seq its.toArray n }={ cls:=.type "list",data:=.seq its'.toArray d }) (r:Vals c its') (hz:c.length<=HR) (t:Nat) :
 Inv X KZ σ (upd H p (.lst c)) { s with heap:=s.heap.update p f,toks:=t }:=by
 have e:(s.heap.update p f).get? p=KJ { cls:=.type "list",data:=.seq its'.toArray d }:=by
  rw[JS f i (by rw[g]<;>rfl),g]
 refine I.write (x:=p) (e:=p) (by rw[h];trivial) (.inl rfl) (λb u j q=>(Jn _ _ (Ne.symm j)).trans q) #[_,e] ?_
 exact #[hz,its',d,r,e]
def FK:V->V->V->Hp->(Hp->Prop)->Prop:=λo i v H Q=>∃p xs k j,o=.ref p/\i=.int k/\H p=KJ (.lst xs)/\ixN xs.length k=KJ j/\Q (upd H p (.lst (xs.set j v)))
theorem set_list:E5 X FK:=by
 intro KZ s σ H o i v C D u Q I x y z h;let[p,xs,k,j,rfl,rfl,g,A,q]:=h;cases x;let[t,rfl]:=y;let[c,n,r,d,B]:=I.lst g;let[h1,E,l,m]:=uk A;have e:=r.length;have F:=jS;have w:Inv X KZ σ (upd H p (.lst (xs.set j v))) { s with heap:=s.heap.update p (IG (·.setIfInBounds j u)) }:=I.Cv g d (qT c n j u) (r.set z j) (by rw[List.length_set];exact B) s.toks;by_cases h0:0<=k
 .have f:k.toNat=j:=by rw[seqIndex_of h0 m]at h1;exact Option.some.inj h1
  exact PySem.W.ki_setAt d h0 () (by rw[HL,<-e];exact m) (by rw[f];exact #[_,w,q])
 .have f:(k+(c.toArray.size:Int)).toNat=j:=by rw[seqIndex_neg () l]at h1;rw[HL,<-e];exact Option.some.inj h1
  exact PySem.W.ki_setBack d () (by rw[HL,<-e];exact l) () (by rw[f];exact #[_,w,q])
theorem oK(c d:rf)(n:Nat):(sliceBounds c d KL n).1=((HT.sIx n 0 c:Nat):Int)/\(sliceBounds c d KL n).2.1=((HT.sIx n n d:Nat):Int)/\(sliceBounds c d KL n).2.2=1:=by
 refine #[?_,?_,rfl]
 .cases c with
  |none=>simp[sliceBounds,HT.sIx]
  |some i=>
   simp only[sliceBounds,HT.sIx,Option.getD_none,show(1:Int)>0 by decide,if_true]
   by_cases h:i<0
   .simp only[h,if_true]<;>omega
   .simp only[h,if_false]<;>omega
 .cases d with
  |none=>simp[sliceBounds,HT.sIx]
  |some i=>
   simp only[sliceBounds,HT.sIx,Option.getD_none,show(1:Int)>0 by decide,if_true]
   by_cases h:i<0
   .simp only[h,if_true]<;>omega
   .simp only[h,if_false]<;>omega
theorem mN(its:List Hu)(c d:rf):slicePick its.toArray c d KL=((its.drop (HT.sIx its.length 0 c)).take (HT.sIx its.length its.length d-HT.sIx its.length 0 c)).toArray:=by let[h1,e,f]:=oK c d its.toArray.size;unfold slicePick;rw[h1,e,f];simp only[sliceRange_one,pick_run,HL]<;>rfl
def GO(K:Ht):V->rf->rf->Hp->VK->Prop:=λx c d H Q=>∃a xs,x=.ref a/\Ln K H a xs/\∀p,H p=KL->Q (.ref p) (upd H p (.lst (pb xs c d)))
theorem AQ:Qc X (GO X.K):=by intro KZ s σ H x v vl n d e p Q I g i j k h;let[a,xs,rfl,hx,q]:=h;cases g;let[l,r,f,m]:=I.list hx;have c:=r.length;exists "list",_,slot_list_getitem.lookup,f.isList.typeIs;refine wpAny_getItem_list_slice f.isList i j k .none (by simp) ?_ (by rw[HL]<;>omega);rw[mN,<-c];refine #[.ref s.z,_,I.laid (t':=s.toks) (o:=.lst (pb xs d e)) (λb t q=>Hx _ q) (HD _) ?_,rfl,q _ (I.hok.fresh (HD _))];exact #[ID (j7 xs d e) m,_,0,(r.drop (HT.sIx xs.length 0 d)).take (HT.sIx xs.length xs.length e-HT.sIx xs.length 0 d),HG _ rfl]
theorem oo:b5 X (.builtin "len") (λxs H Q=>∃p d,xs=[.ref p]/\(Ln X.K H p d\/Lm X.K H p d)/\Q (.int d.length) H):=by
 intro KZ s σ H xs us Q I r h;let[p,d,rfl,e,q]:=h;let[u,rfl,j]:=vals1 r;cases j;have l:=jS;rcases e with e|e
 .obtain⟨f,g,i,k⟩:=I.list e;have c:=g.length;exact Calls.call_len_list i.isList (by simp only[HL]<;>omega) #[.int d.length,H,I.tok _,#[s.toks+1,by rw[HL,c]],q]
 .obtain⟨f,g,i,k⟩:=I.tuple e;have c:=g.length;exact len_tuple i (by simp only[HL]<;>omega) #[.int d.length,H,I.tok _,#[s.toks+1,by rw[HL,c]],q]
theorem b5.or{f:Hu}{r c:ry->Hp->VK->Prop}(h:b5 X f r)(h':b5 X f c):b5 X f (λxs H Q=>r xs H Q\/c xs H Q):=by
 intro KZ s σ H xs us Q I d q;rcases q with q|q
 .exact h KZ s σ H xs us Q I d q
 .exact h' KZ s σ H xs us Q I d q
theorem n6:b5 X (.type "list") (λxs H Q=>∃p f,xs=[.ref p]/\(Ln X.K H p f\/Lm X.K H p f)/\∀l,H l=KL->Q (.ref l) (upd H l (.lst f))):=by
 intro KZ s σ H xs us Q I r h;let[p,f,rfl,j,q]:=h;let[u,rfl,z]:=vals1 r;cases z;have fin:∀(c:List Hu),Vals f c->f.length<=HR->∀(d:pq) (g:Nat),(∀b y,s.heap.get? b=KJ y->d.get? b=KJ y)->d.get? s.z=KJ { cls:=.type "list",dict:=KL,data:=.seq c.toArray g,slots:=#[] }->EP X KZ σ Q (.ref s.z) { s with heap:=d }:=λc i k d g kp e=>#[.ref s.z,_,I.laid (t':=s.toks) kp (HD _) (show bJ X.prog X.w _ d _ (.lst f)from #[k,c,g,i,e]),rfl,q _ (I.hok.fresh (HD _))];rcases j with j|j
 .obtain⟨c,i,t,k⟩:=I.list j;have m:=i.length;let[o,v,x,n,hd]:=t.isList;exact call_list_seq p (.inl rfl) v x hd (λd g kp e=>fin c i k d g kp e) (by simp only[HL]<;>omega)
 .obtain⟨c,i,t,k⟩:=I.tuple j;have m:=i.length;let[o,v,x,n,hd]:=t;exact call_list_seq p (.inr rfl) v x hd (λd g kp e=>fin c i k d g kp e) (by simp only[HL]<;>omega)
theorem mF:b5 X (.type "tuple") (λxs H Q=>∃p d,xs=[.ref p]/\((Ln X.K H p d/\∀l,H l=KL->Q (.ref l) (upd H l (.tup d)))\/(Lm X.K H p d/\Q (.ref p) H))):=by
 intro KZ s σ H xs us Q I r h;let[p,d,rfl,h]:=h;let[u,rfl,t]:=vals1 r;cases t;rcases h with⟨g,q⟩|⟨g,q⟩
 .obtain⟨c,i,j,k⟩:=I.list g;have m:=i.length;refine call_tuple_list j.isList (λf kp=>?_) (by simp only[HL]<;>omega);have n:Inv X KZ σ H { s with heap:=f }:=I.kept (t':=s.toks) kp;have v:Inv X KZ σ (upd H f.objs.size (.tup d)) { s with heap:=f.push { cls:=.type "tuple",data:=.seq c.toArray } }:=n.laid (t':=s.toks) (λb o e=>Hx _ e) (HD _) (show bJ X.prog X.w _ _ _ (.tup d)from #[k,c,i,IsTup.new _ _,Qf.new _ _]);exact #[.ref f.objs.size,_,v,rfl,q _ (n.hok.fresh (HD _))]
 .obtain⟨c,i,j,k⟩:=I.tuple g;exact call_tuple_same j #[.ref p,H,I,rfl,q]
def Ym(K:Ht)(T:String)(x:V)(H:Hp):Prop:=match x with
 |.str _=>T="str"
 |.int _=>T="int"
 |.ref p=>(T="list"/\∃xs,Ln K H p xs)\/(T="tuple"/\∃o,K.lookup p=KJ o/\o.cls=.type "tuple"/\o.dict=KL)\/
  (T="dict"/\((∃kvs,H p=KJ (.dK kvs))\/∃kvs,H p=KJ (.dT kvs)))\/(T="set"/\∃S n,H p=KJ (.set S n))
 |_=>False
theorem C4{KZ:p4}{σ:St}{H:Hp}{s:Hv}{T:String}{x:V}{v:Hu}(I:Inv X KZ σ H s)(r:RelV x v)(ty:Ym X.K T x H) : s.TypeIs v T/\∀a,v=.ref a->∃f,s.heap.get? a=KJ f/\f.dict=KL:=by
 cases x with
 |str z=>
  let[t,rfl]:=r
  cases (show T="str" from ty)
  exact #[typeIs_str s z t,λ_ e=>nomatch e]
 |int i=>
  let[t,rfl]:=r
  cases (show T="int" from ty)
  exact #[typeIs_int s i t,λ_ e=>nomatch e]
 |ref p=>
  cases r
  rcases ty with⟨rfl,xs,h⟩|⟨rfl,o,d,j,hd⟩|⟨rfl,d⟩|⟨rfl,S,n,d⟩
  .obtain⟨k,_,g,_⟩:=I.list h;refine #[g.isList.typeIs,λa e=>?_];cases e;let[o,n,e,c,hd,_]:=g;exact #[o,e,hd]
  .refine #[#[o,I.kIn p o d,j],λa e=>?_];cases e;exact #[o,I.kIn _ o d,hd]
  .have z:∃o,s.heap.get? p=KJ o/\o.ExactDict:=by
    rcases d with⟨kvs,d⟩|⟨kvs,d⟩
    .obtain⟨_,_,_,_,o,_,_,e,ex,_⟩:=I.hok p _ d;exact #[o,e,ex]
    .obtain⟨_,_,_,_,o,_,_,e,ex,_⟩:=I.hok p _ d;exact #[o,e,ex]
   let[o,e,ex]:=z;refine #[#[o,e,ex.1],λa e2=>?_];cases e2;exact #[o,e,ex.2.1]
  .obtain⟨o,_,_,_,e,ex,_⟩:=I.hok p _ d;refine #[#[o,e,ex.1],λa e2=>?_];cases e2;exact #[o,e,ex.2.1]
 |_=>exact Ic ty
def ZZ(K:Ht)(T:String)(r:V->ry->Hp->VK->Prop)(to:TE)(t:TA):TE:=λσ H Q=>to σ H λx H1=>Ym K T x H1/\t σ H1 λxs c=>r x xs c Q
variable{o e:pv}{es:ro}{to:TE}{t:TA}{name:Str}{apos LD:Pos}{T id:String}{r:V->ry->Hp->VK->Prop}
theorem Bh(p:PlainAttrs T)(slot:Slot T name id)(k:typeOf (.builtin id)=pure (.type "method_descriptor"))(q:Yx X id r)(u:PE X o to)(w:PA X (e::es) t)
 (g:JX o name X.env (eval o X.env)=eval o X.env:=by rfl)
 (j:((Jc LD (HM (e::es) X.env)).all (λx=>!x.1)&&(KG LD (JQ [] X.env)).all (λx=>x.1.isSome)
  && decide ((e::es).length+([]:List Keyword).length+(if([]:List Keyword).isEmpty then 0 else 1)<30))=KN:=by rfl)
 (i:(apos.endLine==LD.line)=KN:=by rfl) (y:HM (e::es) X.env=(KO,eval e X.env)::HM es X.env:=by rfl) (c:(Jc LD (HM es X.env)).any (·.1)=KO:=by rfl) :
 PE X (.Call (.Attribute o name apos) (e::es) [] LD) (ZZ X.K T r to t):=by
 intro KZ s σ H Q I h
 refine wpAny_Call_method_late g j i rfl (Lc (u KZ s σ H _ I h) λv z d=>?_)
 let[x,H1,l,m,ty,A]:=d
 let[h1,B]:=C4 l m ty
 exists T,id,p,slot,k,h1,B
 have n:=w LD KZ z σ H1 _ l A
 rw[y]at n ⊢
 refine Calls.callWith_builtin (by show(KO||(Jc LD (HM es X.env)).any (·.1))=KO;rw[c]<;>rfl) (Calls.evalArgs_plain ?_)
 exact Lc n λus C f=>by let[vs,D,E,F,G]:=f;exact(q KZ C σ D x vs v us Q E m F G)
/- xs.append(e),list.index on a module's tuple .. are Yx facts of 06m -/
end
def Ye(X:Cx)(id:String)(r:V->ry->Hp->VK->Prop):Prop:=
 ∀(KZ:p4) (s:Hv) (σ:St) (H:Hp) (x:V) (xs:ry) (v:Hu) (us:List Hu) (Q:VK),Inv X KZ σ H s->RelV x v->Vals xs us->r x xs H Q->
  HJ (HP X.prog X.w) X.A (call (.builtin id) (v::us)) (EP X KZ σ Q) X.xe s
theorem Vals.one:∀{x:V} {us:List Hu},Vals [x] us->∃u,us=[u]/\RelV x u:=by
 intro x us h;cases h with
 |cons r t=>cases t;exact #[7,r]
theorem Vals.two:∀{x y:V} {us:List Hu},Vals [x,y] us->∃u v,us=[u,v]/\RelV x u/\RelV y v:=by
 intro x y us h;cases h with
 |cons r t=>
  cases t with
  |cons q n=>cases n;exact #[_,7,r,q]
theorem Vals.rep{xs:ry}{us:List Hu}(h:Vals xs us):∀k:Nat,Vals (Im k xs).flatten (Im k us).flatten
 |0=>.nil
 |k+1=>by
  rw[Jq,Jq,Kp,Kp]
  exact Vals.append h (Vals.rep h k)
theorem foldl_rep(its:List Hu):∀(k:Nat) (a:List Hu),
 List.foldl (λx1 b=>x1++b) a.toArray (Im k its.toArray)=(a++(Im k its).flatten).toArray
 |0,a=>by simp
 |k+1,a=>by
  have e:a.toArray++its.toArray=(a++its).toArray:=by simp
  have e2:(a++its)++(Im k its).flatten=a++(Im (k+1) its).flatten:=by
   rw[Jq,Kp,Kq]
  rw[<-e2,<-foldl_rep its k (a++its),<-e,Jq,List.foldl_cons]
section
variable{X:Cx}{KZ:p4}{σ:St}{H:Hp}{s:Hv}{l b:pd}{xs ys zs:ry}
theorem Inv.EL{its its':List Hu}{n:Nat}{f:Array Hu->Array Hu}{t':Nat}(I:Inv X KZ σ H s)(a:H l=KJ (.lst xs))
 (e:s.heap.get? l=KJ { cls:=.type "list",data:=.seq its.toArray n }) (c:f its.toArray=its'.toArray) (hv:Vals ys its') (hz:ys.length<=HR) :
 Inv X KZ σ (upd H l (.lst ys)) { s with heap:=s.heap.update l (IG f),toks:=t' }:=by
 have q:=PySem.IsL.update e f
 rw[c]at q
 refine I.write (x:=l) (e:=l) (by rw[a];exact trivial) (.inl rfl) (λh u d g=>(Jn s.heap (IG f) (Ne.symm d)).trans g) #[_,q] ?_
 exact #[hz,its',_,hv,q]
theorem Inv.Ez{its:List Hu}{t':Nat}(I:Inv X KZ σ H s)(hv:Vals ys its)(hz:ys.length<=HR) : Inv X KZ σ (upd H s.z (.lst ys)) { s with heap:=s.heap.push { cls:=.type "list",data:=.seq its.toArray },toks:=t' }:=I.laid (λ_ _ q=>Hx _ q) (HD _) #[hz,its,0,hv,HG _ rfl]
theorem Inv.fresh(I:Inv X KZ σ H s):H s.z=KL:=I.hok.fresh (HD _)
theorem Inv.pV(I:Inv X KZ σ H s)(a:H l=KJ (.lst xs)):xs.length<=HR/\∃(its:List Hu) (n:Nat),Vals xs its/\xs.length=its.length/\s.heap.get? l=KJ { cls:=.type "list",data:=.seq its.toArray n }:=by let[z,its,n,r,e]:=I.hok l _ a;exact #[z,its,n,r,r.length,e]
theorem v8{n:Nat}(h:n<=HR):Builtin.List.listTooLong n=KO:=by unfold Builtin.List.listTooLong;exact KR ()
end
section
variable{X:Cx}
def zT:V->ry->Hp->VK->Prop:=λx vs H Q=>∃l xs y,x=.ref l/\vs=[y]/\H l=KJ (.lst xs)/\xs.length<HR/\Q .non (upd H l (.lst (xs++[y])))
theorem jD:Ye X "list.append" zT:=by intro KZ s σ H x vs v us Q I c d h;let[l,xs,y,rfl,rfl,b,g,q]:=h;cases c;let[u,rfl,f]:=d.one;let[z,a,n,r,i,e]:=I.pV b;refine call_meets F.slot_list_append #[_,e,rfl] F.entry_list_append (F.args_list_append_2 _ _) (PySem.list_append l a.toArray n u (by rw[HL];omega)) #[e,?_];refine #[.non,_,I.EL (its':=a++[u]) b e (by simp) (r.append (.cons f .nil)) ?_,rfl,q];rw[IJ,List.length_singleton];omega
def GV:R2:=λx y H Q=>∃l b xs a,x=.ref l/\y=.ref b/\H l=KJ (.lst xs)/\H b=KJ (.lst a)/\xs.length+a.length<=HR/\∀p,H p=KL->Q (.ref p) (upd H p (.lst (xs++a)))
theorem B7:MQ X (JR .Add) GV:=by
 intro KZ s σ H x y v u Q I d f h;let[l,b,xs,m,rfl,rfl,g,i,o,q]:=h;cases d;cases f;let[z,c,n,r,p,e]:=I.pV g;let[t,a,w,j,k,e2]:=I.pV i;refine PySem.P.add_list e e2 ?_ (by rw[HL,HL];omega);have ea:c.toArray++a.toArray=(c++a).toArray:=by simp
 rw[ea];exact #[.ref _,_,I.Ez (t':=s.toks) (r.append j) (by rw[IJ];omega),rfl,q _ I.fresh]
def Gq:R2:=λx y H Q=>∃l k xs,x=.ref l/\y=.int k/\H l=KJ (.lst xs)/\-(2^63)<=k/\k<2^63/\xs.length*k.toNat<=HR/\
 ∀p,H p=KL->Q (.ref p) (upd H p (.lst (Im k.toNat xs).flatten))
theorem len_rep{a:Type}(xs:List a)(k:Nat):(Im k xs).flatten.length=k*xs.length:=by
 induction k with
 |zero=>simp
 |succ k b=>rw[Jq,Kp,IJ,b,Nat.succ_mul,Nat.add_comm]
theorem DR:MQ X (JR .Mult) Gq:=by
 intro KZ s σ H x y v u Q I p w h;let[l,k,xs,rfl,rfl,A,h1,B,o,q]:=h;cases p;let[t,rfl]:=w;let[z,b,n,r,C,e]:=I.pV A;have d:b.toArray.size*k.toNat<=HR:=by rw[HL,<-C];exact o
 have f:¬b.toArray.size*k.toNat>(2^63-1)/8:=by
  have:(HR:Nat)<=(2^63-1)/8:=⋯
  omega
 have g:¬(!Builtin.List.listFitsIndex k)=KN:=by rw[fitsIndex_both h1 B];exact Ib
 have c:¬Builtin.List.listTooLong (b.toArray.size*k.toNat)=KN:=by rw[v8 d];exact Ib
 have i:List.foldl (λx1 j=>x1++j) #[] (Im (if b.toArray.isEmpty=KN then 0 else k.toNat) b.toArray)=(Im k.toNat b).flatten.toArray:=by
  have D:∀m:Nat,List.foldl (λx1 j=>x1++j) #[] (Im m b.toArray)=(Im m b).flatten.toArray:=λm=>by
   have:=foldl_rep b m []
   rw[List.nil_append]at this
   exact this
  rw[D]
  cases b with
  |nil=>simp
  |cons a G=>rw[KP (by simp)]
 refine wpAny_binaryOp_repeat_ref (T:="list") (U:="int") ⋯ #[_,e,rfl] (λE=>typeIs_int E k t) noFill_list_mul F.fills_int_mul F.slot_int_rmul repeat_list F.slot_int_index.lookup
  (call_meets F.slot_int_rmul (typeIs_int s k t) F.entry_int_rmul (F.args_int_rmul_2 _ _) (int___rmul___int_list k t l b.toArray n)
   #[e,rfl,#[_,e,rfl],call_meets F.slot_list_mul #[_,e,rfl] F.entry_list_mul (F.args_list_mul_2 _ _) (AutoListH.list___mul___list_int_3 l b.toArray n k t g f c) #[e,?_]])
 rw[i];exact #[.ref _,_,I.Ez (t':=s.toks) (r.rep k.toNat) (by rw[len_rep,Nat.mul_comm];exact o),rfl,q _ I.fresh]
end
end L2
namespace Att
open PySem PySem.W PySem.Calls PyProof.Rows
theorem kj{P:HZ}{h:pq}:∀(ns:q_) (vs:List Hu),WellAll P h vs (ns.map WData.int)->Jt vs ns:=by
 intro ns
 induction ns with
 |nil=>
  intro vs w
  rw[Jm]at w
  cases w
  exact .nil
 |cons n ns c=>
  intro vs w
  rw[HI]at w
  cases w with
  |cons a b=>
   cases a
   exact .cons _ _ (c _ b)
theorem uI{l:OpenLaw}{n:Nat}(o:l.most=KJ n){P:HZ}{h:pq}{args:List WData}{b:List Hu}
 (c:l.row.toRowW.claim.pre args=KN) (j:WellAll P h b args) :
 ∃a vs ns,b=[IY a]/\args=[WData.list (ns.map WData.int)]/\h.get? a=KJ { cls:=.type "list",data:=.seq vs.toArray }/\Jt vs ns/\ns.length<=n:=by
 have k:WShape.hasAll [] args [.list .int]=KN:=(pre_splitW c).1
 have m:l.pre.holds [] { args:=args }=KN:=(pre_splitW c).2
 let[d,r,rfl,h1,p]:=hasAllW_cons k
 obtain rfl:=hasAllW_nil p
 let[xs,rfl,s]:=hasW_list h1
 let[ns,rfl]:=items_int s
 have e:ns.length<=n:=by
  unfold OpenLaw.pre at m
  have g:(WTm.not (.lt (.lit (.int (n:Int))) (.len (.arg 0)))).holds [] { args:=[.list (ns.map .int)] }=KN:=by
   have g:=(holds_andW m).1
   rw[o]at g
   exact g
  have i:=condW_of g (w_not (w_lt w_lit (w_len_list (w_arg rfl))))
  rw[Hw]at i
  refine Nat.le_of_not_lt λq=>?_
  have t:(n:Int)<((ns.length:Nat):Int):=()
  first
   |(rw[KS t]at i;exact absurd i ⋯)
   |(simp at i;omega)
 cases j with
 |cons u v=>
  cases v
  cases u with
  |list w f=>exact #[_,_,ns,rfl,rfl,w,kj ns _ f,e]
theorem u5(l:OpenLaw)(args:List WData):l.row.toRowW.claim.post args (.bool KN) args=KN:=
 postW_of (r:=l.row.toRowW) (X:=(KN==KN))
  (show WShape.has [] (.bool KN) .bool=KN by first|rfl|decide|simp[WShape.has,WShape.arms,WShape.armsAll])
  (show(WTm.eq .res (.lit (.bool KN))).value [] { args:=args,res:=KJ (.bool KN),after:=args }=KJ (.bool (KN==KN))from w_eq_bool (w_res rfl) w_lit) rfl
theorem pG{l:OpenLaw}{n:Nat}{q:HW}{c:rx}{x:(Str->Option Hu)->pq->Prop}{y:IA->pq->Prop}{d:DefRec}
 (C:l.most=KJ n) (m:d.params.defaults=[])
 (call:∀(w:IA) (s₀ b:Hv) (mg p:Str->Option Hu) (fa:pd) (o:Obj) (s cd e:Hu) (a:pd) (vs:List Hu) (ns:q_),
  Ground q c [] x w s₀ mg p b.heap->y w b.heap->
  b.heap.get? fa=KJ o->o.data=.func (docDef d.name d.params d.body d.scope s cd e)->b.heap.CodeRec cd d.name->mg d.name=KJ (.ref fa)->
  b.heap.get? a=KJ { cls:=.type "list",data:=.seq vs.toArray }->Jt vs ns->ns.length<=n->b.gens=#[]->
  JK (HP l.prog w) callerA (.call (.ref fa) #[[.ref a],[]]) (λr k=>r=.ok (.ret (.bool KN))/\OldK b.heap k.heap/\k.os=b.os/\AllBare k.gens) b) :
 WalkO q c x y l.row.toRowW d [] (λf vs=>PySem.call f vs):=by
 intro w s₀ b mg p G Y fa o s cd e D kV E hd t z u F args A O h B H v I
 obtain rfl:D=.none:=Dflts.none z m
 obtain rfl:kV=.none:=Dflts.noKw z
 let[a,vs,ns,rfl,rfl,i,g,j]:=uI C h v
 refine enter_call (codeAny_mono (call w s₀ b mg p fa o s cd e a vs ns G Y E (fd_plain hd) t u i g j F) λr k J=>?_)
 let[rfl,K,L,M]:=J
 exact #[.inl #[.bool KN,.bool KN,[],rfl,λ_=>rfl,.bool KN,u5 l _,λ_=>#[List.Pairwise.nil,λ_ N=>(nomatch N)]],K,L,M]
section
variable{prog:HW}{w:IA}{A:Iv}{E:Hu->Hv->Prop}{s:Hv}{K:Frag}
end
end Att
namespace L2
open PySem PySem.Spec PyProof.Rows
theorem jG:∀{vs:List Hu} {ns:q_},Jt vs ns->Vals (ns.map V.int) vs
 |_,_,.nil=>.nil
 |_,_,.cons n t h=>.cons #[t,rfl] (jG h)
abbrev KOf{K:Ht}{h:pq}(_:K.In h):Ht:=K
def aX(s:pe):Arguments:=match s with
 |.FunctionDef _ a _ _ _ _ _ _ _ _=>a
 |_=>{ posonlyargs:=[],args:=[],vararg:=KL,kwonlyargs:=[],kw_defaults:=[],kwarg:=KL,defaults:=[] }
def aJ(s:pe):ri:=match s with
 |.FunctionDef _ _ b _ _ _ _ _ _ _=>b
 |_=>[]
def ao(s:pe):JH:=match s with
 |.FunctionDef _ _ _ _ _ _ sc _ _ _=>sc
 |_=>{ kind:=.function,names:=[],isGenerator:=KO,isCoroutine:=KO }
abbrev Mt:QL:=λ_ _ _ _ _ _=>False
abbrev E0:XK:=λ_ _ _=>False
theorem tP{X:Cx}:Passes Mt X E0:=λ_ _ _ _ _ _ _ h=>h.elim
structure QB(K:Ht)(x qual:Str)(st:pe)(f:pd)(fd:FuncData):Prop where
 ex:∃(oc:Hu) (od:Option pd) (kV doc pm:Hu) (an:Option pd) (cdv ct:Hu) (osl:Array (Option Hu)),
  fd=IX x qual (aX st) (aJ st) (ao st) .none kV doc pm an cdv ct/\K.lookup f=KJ #[oc,od,.func fd,osl]/\K3 K cdv qual=KN
 kp:Je K (.ref f)=KN
section
variable{P:HW}{w:IA}{K:Ht}{mg:Str->Option Hu}{base:pq}
theorem QB.ok{x qual:Str}{st:pe}{f:pd}{fd:FuncData}{N ps:rx}{k:Nat}{sp:Sp}(F:QB K x qual st f fd)(S:L0 N ps (ao st))(len:∀vs H Q E,sp vs H Q E->vs.length=ps.length)
 (a:∀(cdv:Hu) (A:Iv) (outer:List Env) (s:Hv) (H:Hp) (vs:ry) (Q:VK) (E:XK),La k (A.deeper (Kv qual (ao st) s.z f cdv))->sp vs H Q E->
  ∃t,Ng (gP Mt P w K mg base N qual (ao st) f cdv A outer s H E).nox (aJ st) t/\t { nx:=λ_ d=>Q .non d,rt:=Q } (start N vs) H):MA P w K mg base Mt (k+1) f fd ps sp:=by
 let[oc,od,kV,e,j,an,cdv,ct,osl,rfl,g,b]:=F.ex
 refine Bu g b S len λA outer s H vs Q E i c=>?_
 let[t,h,q]:=a cdv A outer s H vs Q E i c
 exact #[t,h.nox,q]
theorem QB.binds{x qual:Str}{st:pe}{f:pd}{fd:FuncData}{ps:rx}(F:QB K x qual st f fd) (h:∀(kV a b:Hu) (an:Option pd) (cdv ct:Hu) (us:List Hu),us.length=ps.length->Ko (IX x qual (aX st) (aJ st) (ao st) .none kV a b an cdv ct) #[us,[]]=pure (ps.zip us)):Binds K fd ps []:=by let[oc,od,kV,a,b,an,cdv,ct,osl,rfl,d,c]:=F.ex;exact .all (h kV a b an cdv ct)
theorem oe{x qual:Str}{st:pe}{f:pd}{oc:Hu}{od an:Option pd}{osl:Array (Option Hu)}{kV a b cdv ct:Hu}(l:K.lookup f=KJ #[oc,od,.func (IX x qual (aX st) (aJ st) (ao st) .none kV a b an cdv ct),osl]) (c:K3 K cdv qual=KN) (k:Je K (.ref f)=KN):QB K x qual st f (IX x qual (aX st) (aJ st) (ao st) .none kV a b an cdv ct):=#[#[oc,od,kV,a,b,an,cdv,ct,osl,rfl,l,c],k]
end
theorem jL{A B:Prop}(h:A):if KN=KN then A else B:=by rw[KQ rfl];exact h
theorem bF{c A B:Prop}[Decidable c](h1:c->A)(a:¬c->B):if c then A else B:=by
 by_cases h:c
 .rw[KQ h];exact h1 h
 .rw[KP h];exact a h
section
variable{κ:Type}[DecidableEq κ]
def fu(kvs:List (κ×V))(k:κ):Option V:=(kvs.find? λa=>decide (a.1=k)).map (·.2)
def putK(kvs:List (κ×V))(k:κ)(v:V):List (κ×V):=
 if(kvs.any λa=>decide (a.1=k))=KN then kvs.map (λa=>if a.1=k then(a.1,v)else a)else kvs++[(k,v)]
theorem b8{p:κ×V}{r:List (κ×V)}{k:κ}(e:p.1=k):fu (p::r) k=KJ p.2:=by simp[fu,Iq,e]
theorem ck{p:κ×V}{r:List (κ×V)}{k:κ}(e:¬p.1=k):fu (p::r) k=fu r k:=by simp[fu,Iq,e]
theorem eB(k:κ):∀kvs:List (κ×V),(kvs.any λa=>decide (a.1=k))=(fu kvs k).isSome
 |[]=>rfl
 |p::r=>by
  rw[Ke]
  by_cases e:p.1=k
  .simp only[b8 e,KS e,Bool.true_or,Option.isSome_some]
  .rw[ck e,KR e,Bool.false_or];exact eB k r
theorem oZ(k j:κ)(y:V):∀kvs:List (κ×V),fu (kvs.map λa=>if a.1=k then(a.1,y)else a) j=(fu kvs j).map λx=>if j=k then y else x
 |[]=>rfl
 |p::r=>by
  have b:=oZ k j y r
  rw[HI]
  by_cases h:p.1=k
  .rw[KQ h]
   by_cases e:p.1=j
   .rw[b8 (p:=(p.1,y)) e,b8 e,Option.map_some,KQ (e.symm.trans h)]
   .rw[ck (p:=(p.1,y)) e,ck e,b]
  .rw[KP h]
   by_cases e:p.1=j
   .rw[b8 (p:=p) e,b8 e,Option.map_some,KP (λz=>h (e.trans z))]
   .rw[ck (p:=p) e,ck e,b]
theorem nD(k j:κ)(y:V):∀kvs:List (κ×V),fu kvs k=KL->fu (kvs++[(k,y)]) j=if j=k then KJ y else fu kvs j
 |[],_=>by
  by_cases e:k=j
  .rw[KQ e.symm];exact b8 (p:=(k,y)) e
  .rw[KP (λz=>e z.symm)];exact ck (p:=(k,y)) e
 |p::r,hn=>by
  rw[List.cons_append]
  have a:¬p.1=k:=λz=>by rw[b8 z]at hn;cases hn
  rw[ck a]at hn
  have b:=nD k j y r hn
  by_cases e:p.1=j
  .rw[b8 e,b8 e,KP (λz=>a (e.trans z))]
  .rw[ck e,ck e,b]
theorem ym(kvs:List (κ×V))(k j:κ)(y:V):fu (putK kvs k y) j=if j=k then KJ y else fu kvs j:=by
 unfold putK;by_cases a:(kvs.any λb=>decide (b.1=k))=KN
 .rw[KQ a,oZ];rw[eB]at a;by_cases e:j=k
  .obtain⟨x,hx⟩:=Option.isSome_iff_exists.mp a;rw[KQ e,e,hx,Option.map_some,KQ rfl]
  .rw[KP e];cases fu kvs j with
   |none=>rfl
   |some x=>rw[Option.map_some,KP e]
 .rw[KP a];refine nD k j y kvs ?_;rw[eB]at a;cases q:fu kvs k with
  |none=>rfl
  |some x=>rw[q]at a;exact(a rfl).elim
theorem gC(kvs:List (κ×V))(k:κ)(v:V):(putK kvs k v).length<=kvs.length+1:=by
 unfold putK;split
 .rw[Hw];omega
 .rw[IJ,Io,List.length_nil];omega
theorem jb.jv{o:Option V}{u:Option Hu}(r:jb o u):o.isSome=u.isSome:=by
 cases o with
 |none=>cases u with
  |none=>rfl
  |some _=>exact(show False from r).elim
 |some _=>cases u with
  |none=>exact(show False from r).elim
  |some _=>rfl
theorem KV.val{kvs:List (κ×V)}{vs:List (κ×Hu)}(r:KV kvs vs)(k:κ):jb (fu kvs k) (valueAt vs k):=by
 unfold KV at r
 induction r with
 |nil=>exact JV
 |@cons p q ps qs h t ih=>
  let[h1,c]:=h
  by_cases e:p.1=k
  .have a:q.1=k:=h1.symm.trans e;have b:valueAt (q::qs) k=KJ q.2:=by simp[valueAt,Iq,a]
   rw[b8 e,b];exact c
  .have a:¬q.1=k:=λz=>e (h1.trans z);have b:valueAt (q::qs) k=valueAt qs k:=by simp[valueAt,Iq,a]
   rw[ck e,b];exact ih
theorem KV.any{kvs:List (κ×V)}{vs:List (κ×Hu)}(r:KV kvs vs)(k:κ):(kvs.any λa=>decide (a.1=k))=vs.any λa=>decide (a.1=k):=by
 unfold KV at r
 induction r with
 |nil=>rfl
 |cons h t b=>rw[Ke,Ke,b,h.1]
theorem KV.Ck{kvs:List (κ×V)}{vs:List (κ×Hu)}(r:KV kvs vs)(k:κ){y:V}{u:Hu}(b:RelV y u) :
 KV (kvs.map λa=>if a.1=k then(a.1,y)else a) (vs.map λa=>if a.1=k then(a.1,u)else a):=by
 unfold KV at r ⊢
 induction r with
 |nil=>exact .nil
 |@cons p q ps qs h t ih=>
  rw[HI,HI]
  refine .cons ?_ ih
  let[h1,c]:=h
  by_cases e:p.1=k
  .rw[KQ e,KQ (h1.symm.trans e)];exact #[h1,b]
  .rw[KP e,KP (λz=>e (h1.trans z))];exact #[h1,c]
theorem KV.put{kvs:List (κ×V)}{vs:List (κ×Hu)}(r:KV kvs vs)(k:κ){y:V}{u:Hu}(a:RelV y u):KV (putK kvs k y) (stored vs k u):=by
 unfold putK stored;rw[r.any k];by_cases e:(vs.any λb=>decide (b.1=k))=KN
 .rw[KQ e,KQ e];exact r.Ck k a
 .rw[KP e,KP e];exact Paired.snoc r #[rfl,a]
theorem KV.length{kvs:List (κ×V)}{vs:List (κ×Hu)}(r:KV kvs vs):kvs.length=vs.length:=Paired.length r
end
theorem wW{P:HW}{w:IA}{k:Key}{u:Hu}(r:RelV (kV k) u):(b4 P w).is k u=KN:=by
 cases k with
 |inl i=>let[t,e]:=(show ∃t,u=Value.int i t from r);subst e;exact pK P w i t
 |inr x=>let[t,e]:=(show ∃t,u=Value.str x t from r);subst e;exact qq P w x t
theorem m9{P:HW}{w:IA}:∀{ks:List Key} {us:List Hu},Vals (ks.map kV) us->ItemsAre (b4 P w) ks us
 |[],_,r=>by rw[Jm]at r;cases r;exact .nil
 |k::ks,_,r=>by
  rw[HI]at r
  cases r with
  |cons h t=>exact .cons (wW h) (m9 t)
abbrev KT(H:Hp):List (List Key×V)->List (List Key×pd×Hu)->Prop:=KI λp q=>p.1=q.1/\H q.2.1=KJ (.tup (p.1.map kV))/\RelV p.2 q.2.2
theorem KT.val{H:Hp}{kvs:List (List Key×V)}{xs:List (List Key×pd×Hu)}(r:KT H kvs xs)(k:List Key):jb (fu kvs k) ((atKey xs k).map (·.2)):=by
 induction r with
 |nil=>exact JV
 |@cons p q ps qs h t ih=>
  let[h1,_,c]:=h
  by_cases e:p.1=k
  .have a:q.1=k:=h1.symm.trans e;have b:atKey (q::qs) k=KJ q.2:=by simp[atKey,Iq,a]
   rw[b8 e,b];exact c
  .have a:¬q.1=k:=λz=>e (h1.trans z);have b:atKey (q::qs) k=atKey qs k:=by simp[atKey,Iq,a]
   rw[ck e,b];exact ih
theorem KT.Ck{H:Hp}{kvs:List (List Key×V)}{xs:List (List Key×pd×Hu)}(r:KT H kvs xs)(k:List Key){y:V}{u:Hu}(c:RelV y u) :
 KT H (kvs.map λa=>if a.1=k then(a.1,y)else a) (xs.map (putAt k u)):=by
 induction r with
 |nil=>exact .nil
 |@cons p q ps qs h t ih=>
  rw[HI,HI]
  refine .cons ?_ ih
  let[h1,b,d]:=h
  unfold putAt
  by_cases e:p.1=k
  .rw[KQ e,KQ (h1.symm.trans e)];exact #[h1,b,c]
  .rw[KP e,KP (λz=>e (h1.trans z))];exact #[h1,b,d]
theorem KT.put{H:Hp}{kvs:List (List Key×V)}{xs:List (List Key×pd×Hu)}(r:KT H kvs xs)(k:List Key){b:pd}{y:V}{u:Hu}(c:H b=KJ (.tup (k.map kV)))(a:RelV y u) :
 KT H (putK kvs k y) (storedH xs k b u):=by
 have e:(kvs.any λd=>decide (d.1=k))=(atKey xs k).isSome:=by
  rw[eB,(r.val k).jv,Option.isSome_map]
 unfold putK storedH
 rw[e]
 by_cases q:(atKey xs k).isSome=KN
 .rw[KQ q,KQ q];exact r.Ck k a
 .rw[KP q,KP q];exact Paired.snoc r #[rfl,c,a]
theorem KT.keeps{H a:Hp}{kvs:List (List Key×V)}{xs:List (List Key×pd×Hu)}(r:KT H kvs xs)(d:∀b c,H b=KJ (.tup c)->a b=KJ (.tup c)):KT a kvs xs:=Paired.Ey r λ_ _ z=>#[z.1,d _ _ z.2.1,z.2.2]
section
variable{P:HW}{w:IA}{H:Hp}{h:pq}{a:pd}
theorem Bx{u:HO}(ok:MU P w H h)(e:Rd H a u):bJ P w H h a u:=e.ok ok
theorem BC{kvs:List (Key×V)}(ok:MU P w H h)(e:Rd H a (.dK kvs)):kvs.length<=HR/\(a==JC)=KO/\∃vs,KV kvs vs/\h.DictOf (b4 P w) a vs:=show bJ P w H h a (.dK kvs)from Bx ok e
theorem E6{kvs:List (Key×V)}(ok:MU P w H h)(e:H a=KJ (.dK kvs)):kvs.length<=HR/\(a==JC)=KO/\∃vs,KV kvs vs/\h.DictOf (b4 P w) a vs:=BC ok (.inl e)
theorem rR{ks:List Key}(ok:MU P w H h)(e:H a=KJ (.tup (ks.map kV))):(tupleKind (b4 P w)).is h ks a:=by obtain⟨_,b,r,⟨o,h1,c,n,d⟩,_⟩:=(show bJ P w H h a (.tup (ks.map kV))from ok a _ e);exact #[o,b.toArray,n,h1,c,d,‹m9 r›]
theorem BF{kvs:List (List Key×V)}(ok:MU P w H h)(e:Rd H a (.dT kvs)):kvs.length<=HR/\(a==JC)=KO/\
 ∃xs,KT H kvs xs/\h.DictOfH (tupleKind (b4 P w)) a xs:=by
 let[z,y,xs,r,o,b,c,h1,d,f,g,i]:=(show bJ P w H h a (.dT kvs)from Bx ok e)
 refine #[z,y,xs,r,o,b,c,h1,d,f,g,λx hx=>?_,i]
 have all:∀{l:List (List Key×V)} {m:List (List Key×pd×Hu)},KT H l m->∀x∈m,(tupleKind (b4 P w)).is h x.1 x.2.1:=by
  intro l m q
  induction q with
  |nil=>intro x hx;exact nomatch hx
  |@cons p q ps qs hq t ih=>
   intro x hx
   rcases II.mp hx with e|hx
   .subst e
    exact rR ok (by rw[<-hq.1];exact hq.2.1)
   .exact ih x hx
 exact all r x hx
theorem FC{kvs:List (List Key×V)}(ok:MU P w H h)(e:H a=KJ (.dT kvs)):kvs.length<=HR/\(a==JC)=KO/\∃xs,KT H kvs xs/\h.DictOfH (tupleKind (b4 P w)) a xs:=BF ok (.inl e)
end
def BN(H:Hp)(a:pd)(y:V)(r:Option V):Prop:=
 (∃kvs k,Rd H a (.dK kvs)/\y=kV k/\r=fu kvs k)\/∃kvs k b,Rd H a (.dT kvs)/\y=.ref b/\H b=KJ (.tup (k.map kV))/\r=fu kvs k
def FD(H:Hp)(a:pd)(y v:V)(c:Hp):Prop:=
 (∃kvs k,H a=KJ (.dK kvs)/\y=kV k/\kvs.length<HR/\c=upd H a (.dK (putK kvs k v)))\/
 ∃kvs k b,H a=KJ (.dT kvs)/\y=.ref b/\H b=KJ (.tup (k.map kV))/\kvs.length<HR/\c=upd H a (.dT (putK kvs k v))
section
variable{X:Cx}{KZ:p4}{σ:St}{H:Hp}{s:Hv}{a:pd}{y v:V}{u r:Hu}{o:Option V}{A:Iv}{E:Hu->Hv->Prop}
theorem Inv.big(I:Inv X KZ σ H s):JC<s.z:=by have h:IS<s.z:=(I.mod.glob.keeps I.bk).lt;exact Nat.lt_trans ⋯ h
theorem zH{Q:Hu->Hv->Prop}(m:A.units+1<J9)(I:Inv X KZ σ H s)(g:BN H a y o)(i:RelV y u)(h:∀j,Inv X KZ σ H j->Q (.bool (!o.isSome)) j) : HJ (HP X.prog X.w) A (IM .NotIn u (.ref a)) Q E s:=by
 rcases g with⟨kvs,k,e,d,l⟩|⟨kvs,k,b,e,d,eb,l⟩
 .subst d;let[z,hd,vs,c,f]:=BC I.hok e;refine wpAny_notIn_of (wW i) hd f.mapOf ?_;rw[<-(c.val k).jv,<-l];exact h _ (I.tok _)
 .subst d;cases (show u=IY b from i);let[z,hd,xs,c,f]:=BF I.hok e;refine wpAny_notIn_heap (tupleKind_room_in1 m) (rR I.hok eb) hd f ?_;have q:=(c.val k).jv;rw[Option.isSome_map]at q;rw[<-q,<-l];exact h _ (I.tok _)
theorem iU{h':pq}{t':Nat}{c:HO}(I:Inv X KZ σ H s)(d:W0 (H a))(f:JI a s.heap h')(g:∃q,h'.get? a=KJ q)(new:bJ X.prog X.w (upd H a c) h' a c) : Inv X KZ σ (upd H a c) { s with heap:=h',toks:=t' }:=I.write (x:=a) (e:=a) d (.inl rfl) (λb q h z=>(f.2 b h).trans z) g new
theorem BJ{P:HW}{w:IA}{c:Hp}{h':pq}{kvs:List (Key×V)}{vs:List (Key×Hu)}(z:kvs.length<=HR)(hd:(a==JC)=KO)(b:KV kvs vs)(d:h'.DictOf (b4 P w) a vs) : bJ P w c h' a (.dK kvs):=#[z,hd,vs,b,d]
theorem vA{B:Hp}{Q:Unit->Hv->Prop}(K:A.units+1<J9)(I:Inv X KZ σ H s)(g:FD H a y v B)(C:RelV y u)(D:RelV v r)(h:∀F,Inv X KZ σ B F->Q .unit F) : HJ (HP X.prog X.w) A (setItem (.ref a) u r) Q E s:=by
 rcases g with⟨kvs,k,e,j,l,m⟩|⟨kvs,k,b,e,j,eb,l,m⟩
 .subst j m;let[z,hd,vs,d,n]:=E6 I.hok e;have p:vs.length<=HR:=by rw[<-d.length];exact z
  have t:(putK kvs k v).length<=HR:=by have:=gC kvs k v;omega
  refine wpAny_setItem_pairs (hsz:=p) (wW C) n λG f x=>h _ ?_;have L:∃q,G.get? a=KJ q:=let⟨q,_,_,i,_⟩:=f;#[q,i]
  exact iU I (by rw[e];exact JV) x L (BJ t hd (d.put k D) f)
 .subst j m;cases (show u=IY b from C);let[z,hd,xs,d,n]:=FC I.hok e;have p:xs.length<=HR:=by rw[<-Paired.length d];exact z
  have t:(putK kvs k v).length<=HR:=by have:=gC kvs k v;omega
  refine wpAny_setItem_heap (hsz:=p) (tupleKind_room_in1 K) (rR I.hok eb) n λG f x=>h _ ?_;let[q,M,N,i,O,P,R,_,S]:=f;refine iU I (by rw[e];exact JV) x #[q,i] #[t,hd,_,(d.put k eb D).keeps λc T J=>?_,q,M,N,i,O,P,R,S];rw[aD (FH J e (λz=>nomatch z))];exact J
end
def EK(i:pv):Prop:=∀a b,subscripted i KO a b=operate [a,b] (getItem a b)
def Af(ty c:TE):TE:=λσ H Q=>ty σ H λy H1=>c σ H1 λx b=>∃a o,x=.ref a/\BN b a y o/\Q (.bl (!o.isSome)) b
def EW(c ty d:TE):TS:=λD σ H=>d σ H λv H1=>c σ H1 λx e=>ty σ e λy f=>∃a b,x=.ref a/\FD f a y v b/\D.nx σ b
section
variable{X:Cx}{o i e value:pv}{pos pos' LB:Pos}{td ty tv:TE}
theorem uP(b:X.A.units+1<J9)(c:PE X i ty)(d:PE X o td):PC X .NotIn i o (Af ty td):=by intro KZ s σ H Q I h;refine Lc (c KZ s σ H _ I h) λv f ⟨y,H1,j,k,l⟩=>Lc (d KZ f σ H1 _ j l) λu w ⟨x,m,n,p,a,q,ex,g,r⟩=>?_;subst ex;obtain rfl:u=IY a:=p;exact zH b n g k λz t=>#[.bl (!q.isSome),m,t,rfl,r]
theorem AS(b:X.A.units+1<J9)(c:PE X o td)(d:PE X i ty)(hv:PE X value tv)(f:JU value (KJ (.Subscript o i pos')) pos.line X.env=pure KO) : PS X (.Assign [.Subscript o i pos'] value pos) (EW td ty tv):=by intro KZ s σ H D I h;refine wpAny_Assign_Subscript (Lc (hv KZ s σ H _ I h) λr j ⟨v,H1,k,l,m⟩=>Lc (c KZ j σ H1 _ k m) λu n ⟨x,p,q,t,w⟩=>Lc (d KZ n σ p _ q w) λG J ⟨y,K,z,B,a,C,ex,g,E⟩=>?_) f;subst ex;obtain rfl:u=IY a:=t;exact vA b z g B l λL F=>#[σ,C,F,E]
end
theorem xf{P:HW}{w:IA}{H:Hp}(h:pq)(a:JC<h.objs.size):bJ P w H (h.push { cls:=.type "dict",data:=.dict #[] }) h.objs.size (.dK []):=#[J3 _,beq_eq_false_iff_ne.mpr (Ne.symm (Ip a)),[],.nil,Heap.DictOf.new h]
def Dd:TE:=λ_ H Q=>∀p,H p=KL->Q (.ref p) (upd H p (.dK []))
section
variable{X:Cx}{pos:Pos}
theorem xn:PE X (.Dict [] [] pos) Dd:=λKZ s σ H Q I h=>wpAny_Dict_empty #[.ref s.z,_,I.laid (a:=s.z) (o:=.dK []) (t':=s.toks) (λ_ _ q=>Hx _ q) (HD _) (xf s.heap I.big),rfl,h _ (I.hok.fresh (HD _))]
end
end L2
namespace SD
theorem xw{c:Type}{l:List c}(h:l.length=1):∃a,l=[a]:=by
 cases l with
 |nil=>cases h
 |cons a l=>
  cases l with
  |nil=>exact #[a,rfl]
  |cons b l=>cases h
theorem Cs{b:Type}{n:Nat}{l:List b}(h:l.length=n+1):∃a r,l=a::r/\r.length=n:=by
 cases l with
 |nil=>cases h
 |cons a l=>exact #[a,l,rfl,Nat.succ.inj h]
theorem rP{c:Type}{l:List c}(h:l.length=2):∃a b,l=[a,b]:=by let[a,r,rfl,d]:=Cs h;let[b,rfl]:=xw d;exact #[a,b,rfl]
theorem EJ{d:Type}{l:List d}(h:l.length=3):∃a b c,l=[a,b,c]:=by let[a,r,rfl,e]:=Cs h;let[b,c,rfl]:=rP e;exact #[a,b,c,rfl]
theorem GC{e:Type}{l:List e}(h:l.length=4):∃a b c d,l=[a,b,c,d]:=by let[a,r,rfl,f]:=Cs h;let[b,c,d,rfl]:=EJ f;exact #[a,b,c,d,rfl]
open PySem PySem.Spec PyProof.Rows L2
inductive D where
 |non|bl (b:Bool)|int (i:Int)|str (x:Str)|ty (n:String)|ref (a:pd)|rol (ds:List D)|tup (ds:List D)
abbrev _root_.sg(g:Nat):SD.D:=.int (g:Int)
abbrev _root_.r_:=Option D
abbrev _root_.r8:=List D
abbrev _root_.r4:=List (r_)
def Qp(K:Ht)(H:Hp)(a:pd)(xs:ry):Prop:=
 (∃o,H a=KJ (.frz o (.lst xs)))\/
  ∃(o:Obj) (b:Array Hu) (n:Nat),K.lookup a=KJ o/\o.cls=.type "list"/\o.dict=KL/\o.data=.seq b n/\b.size<=HR/\Vals xs b.toList
theorem Qp.sql{K:Ht}{H:Hp}{a:pd}{xs:ry}(h:Qp K H a xs):Ln K H a xs:=by
 rcases h with h|h
 .exact .inl (.inr h)
 .exact .inr h
mutual
def Rep(K:Ht)(H:Hp):D->V->Prop
 |.non,v=>v=.non
 |.bl b,v=>v=.bl b
 |.int i,v=>v=.int i
 |.str x,v=>v=.str x
 |.ty n,v=>v=.ty n
 |.ref a,v=>v=.ref a
 |.rol ds,v=>∃a xs,v=.ref a/\Qp K H a xs/\aC K H ds xs
 |.tup ds,v=>∃a xs,v=.ref a/\Lm K H a xs/\aC K H ds xs
def aC(K:Ht)(H:Hp):r8->ry->Prop
 |[],xs=>xs=[]
 |d::ds,xs=>∃x r,xs=x::r/\Rep K H d x/\aC K H ds r
end
structure L5(K:Ht)(H H':Hp):Prop where
 t:∀a xs,Lm K H a xs->Lm K H' a xs
 f:∀a xs,Qp K H a xs->Qp K H' a xs
theorem L5.refl{K:Ht}{H:Hp}:L5 K H H:=#[λ_ _ h=>h,λ_ _ h=>h]
theorem L5.trans{K:Ht}{H H1 c:Hp}(a:L5 K H H1)(b:L5 K H1 c):L5 K H c:=#[λx y h=>b.t x y (a.t x y h),λx y h=>b.f x y (a.f x y h)]
theorem L5.put{K:Ht}{H:Hp}{p:pd}{o:HO}(h1:∀xs,H p≠KJ (.tup xs))(b:∀u xs,H p≠KJ (.frz u xs)):L5 K H (upd H p o):=by
 refine #[λa xs h=>?_,λa xs h=>?_]
 .rcases h with(h|⟨u,h⟩)|h
  .exact .inl (.inl (by rw[aD (by intro e;subst e;exact h1 _ h)];exact h))
  .exact .inl (.inr #[u,by rw[aD (by intro e;subst e;exact b _ _ h)];exact h])
  .exact .inr h
 .rcases h with⟨u,h⟩|h
  .exact .inl #[u,by rw[aD (by intro e;subst e;exact b _ _ h)];exact h]
  .exact .inr h
theorem L5.new{K:Ht}{H:Hp}{p:pd}{o:HO}(h:H p=KL):L5 K H (upd H p o):=.put (λxs e=>by rw[h]at e;cases e) (λu xs e=>by rw[h]at e;cases e)
theorem L5.lst{K:Ht}{H:Hp}{p:pd}{o:HO}{xs:ry}(h:H p=KJ (.lst xs)):L5 K H (upd H p o):=.put (λa e=>by rw[h]at e;cases e) (λu a e=>by rw[h]at e;cases e)
mutual
theorem Rep.mono{K:Ht}{H c:Hp}(g:L5 K H c):∀{d:D} {v:V},Rep K H d v->Rep K c d v
 |.non,_,h=>h
 |.bl _,_,h=>h
 |.int _,_,h=>h
 |.str _,_,h=>h
 |.ty _,_,h=>h
 |.ref _,_,h=>h
 |.rol ds,_,h=>by
  rw[Rep]at h ⊢
  let[a,xs,e,h1,b]:=h
  exact #[a,xs,e,g.f _ _ h1,aC.mono g b]
 |.tup ds,_,h=>by
  rw[Rep]at h ⊢
  let[a,xs,e,h1,b]:=h
  exact #[a,xs,e,g.t _ _ h1,aC.mono g b]
theorem aC.mono{K:Ht}{H b:Hp}(g:L5 K H b):∀{a:r8} {xs:ry},aC K H a xs->aC K b a xs
 |[],_,h=>h
 |d::a,_,h=>by
  rw[aC]at h ⊢
  let[x,r,e,h1,c]:=h
  exact #[x,r,e,Rep.mono g h1,aC.mono g c]
end
section
variable{K:Ht}{H H':Hp}
theorem aC.nil:aC K H [] []:=by rw[aC]
theorem aC.cons{d:D}{c:r8}{x:V}{r:ry}(a:Rep K H d x)(b:aC K H c r):aC K H (d::c) (x::r):=by rw[aC];exact #[x,r,rfl,a,b]
theorem aC.length:∀{a:r8} {xs:ry},aC K H a xs->a.length=xs.length
 |[],xs,h=>by rw[aC]at h;subst h;rfl
 |d::a,xs,h=>by
  rw[aC]at h
  let[x,r,rfl,_,b]:=h
  simp[aC.length b]
theorem aC.get:∀{a:r8} {xs:ry} {i:Nat} {d:D},aC K H a xs->a[i]?=KJ d->∃x,xs[i]?=KJ x/\Rep K H d x
 |[],_,_,_,_,e=>by simp at e
 |_::_,xs,0,_,h,e=>by
  rw[aC]at h
  let[x,r,rfl,h1,_]:=h
  simp at e;subst e
  exact #[x,rfl,h1]
 |_::a,xs,i+1,d,h,e=>by
  rw[aC]at h
  let[x,r,rfl,_,b]:=h
  simpa using aC.get (i:=i) (d:=d) b ‹e›
theorem aC.set{d:D}{x:V}(a:Rep K H d x):∀{b:r8} {xs:ry} (i:Nat),aC K H b xs->aC K H (b.set i d) (xs.set i x)
 |[],_,_,h=>by rw[aC]at h;subst h;simp[aC.nil]
 |_::_,_,0,h=>by
  rw[aC]at h
  let[y,r,rfl,_,c]:=h
  exact .cons a c
 |_::b,_,i+1,h=>by
  rw[aC]at h
  let[y,r,rfl,h1,c]:=h
  exact .cons h1 (aC.set a i c)
theorem aC.append:∀{a es:r8} {xs b:ry},aC K H a xs->aC K H es b->aC K H (a++es) (xs++b)
 |[],_,_,_,h,k=>by rw[aC]at h;subst h;exact k
 |_::a,_,_,_,h,k=>by
  rw[aC]at h
  let[y,r,rfl,h1,c]:=h
  exact .cons h1 (aC.append c k)
theorem aC.of_get:∀{c:r8} {xs:ry},c.length=xs.length->(∀(i:Nat) d x,c[i]?=KJ d->xs[i]?=KJ x->Rep K H d x)->aC K H c xs
 |[],[],_,_=>.nil
 |[],_::_,h,_=>by simp at h
 |_::_,[],h,_=>by simp at h
 |d::c,x::xs,h,k=>.cons (k 0 d x rfl rfl) (aC.of_get ‹h› λi d x a b=>k (i+1) d x ‹a› ‹b›)
theorem aC.take{c:r8}{xs:ry}(n:Nat)(h:aC K H c xs):aC K H (c.take n) (xs.take n):=by
 refine .of_get (by simp[h.length]) λi d x a b=>?_
 have f:i<n:=by
  rw[List.getElem?_take]at a;split at a
  .assumption
  .cases a
 rw[List.getElem?_take_of_lt f]at a b;let[y,e,r]:=h.get a;rw[e]at b;cases b;exact r
theorem aC.drop{c:r8}{xs:ry}(n:Nat)(h:aC K H c xs):aC K H (c.drop n) (xs.drop n):=by refine .of_get (by simp[h.length]) λi d x a b=>?_;rw[List.getElem?_drop]at a b;let[y,e,r]:=h.get a;rw[e]at b;cases b;exact r
theorem fG:∀(ns:q_),aC K H (ns.map D.int) (ns.map V.int)
 |[]=>.nil
 |n::ns=>.cons (by rw[Rep]) (fG ns)
end
def Hd(a C:pd):pq->Prop:=λh=>∃o,h.get? a=KJ o/\o.cls=.ref C
inductive MO where
 |lst (ds:r8)|err (C:pd)
 |dct (n:Nat) (P:q_->Bool)
 |gen (A:Ht->Hp->pd->Prop)
abbrev MH:=pd->Option MO
def mO(K:Ht)(H:Hp)(a:pd):MO->Prop
 |.lst c=>∃xs,H a=KJ (.lst xs)/\aC K H c xs
 |.err C=>H a=KJ (.ext (Hd a C))
 |.dct n P=>∃kvs:List (List Key×V),H a=KJ (.dT kvs)/\kvs.length<=n/\∀k:q_,(kvs.any λd=>decide (d.1=k.map Sum.inl))=P k
 |.gen A=>A K H a/\H a≠KL/\∀b,L5 K H b->b a=H a->A K b a
def Lb(K:Ht)(H:Hp)(M:MH):Prop:=∀a o,M a=KJ o->mO K H a o
def au(M:MH)(a:pd)(o:MO):MH:=λb=>if b=a then KJ o else M b
theorem ag{M:MH}{a:pd}{o:MO}:au M a o a=KJ o:=by unfold au;rw[KQ rfl]
theorem ak{M:MH}{a b:pd}{o:MO}(h:b≠a):au M a o b=M b:=by unfold au;rw[KP h]
theorem bg{M:MH}{a:pd}{o u:MO}:au (au M a o) a u=au M a u:=by funext b;unfold au;split<;>rfl
section
variable{K:Ht}{H H':Hp}{M:MH}
theorem mO.some{a:pd}{o:MO}(h:mO K H a o):H a≠KL:=by
 cases o with
 |lst b=>
  let[xs,h1,_]:=h
  rw[h1];simp
 |err C=>rw[show H a=_ from h];simp
 |dct n P=>
  let[kvs,h1,_]:=h
  rw[h1];simp
 |gen A=>exact h.2.1
theorem Lb.fresh(h:Lb K H M){p:pd}(a:H p=KL):M p=KL:=by
 cases e:M p with
 |none=>rfl
 |some o=>exact absurd a (h p o e).some
theorem mO.ff{a:pd}{o:MO}(g:L5 K H H')(e:H' a=H a)(h:mO K H a o):mO K H' a o:=by
 cases o with
 |lst f=>
  let[xs,h1,b]:=h
  exact #[xs,e.trans h1,b.mono g]
 |err C=>exact e.trans h
 |dct n P=>
  let[kvs,h1,b]:=h
  exact #[kvs,e.trans h1,b]
 |gen A=>exact #[h.2.2 H' g e,λz=>h.2.1 (by rw[<-e];exact z),λc d e2=>h.2.2 c (g.trans d) (e2.trans e)]
theorem Lb.new{p:pd}{o:HO}(h:Lb K H M)(b:H p=KL):Lb K (upd H p o) M:=λa u e=>by
 have ne:a≠p:=λz=>by subst z;rw[h.fresh b]at e;cases e
 exact(h a u e).ff (.new b) (aD ne)
theorem Lb.mj{p:pd}{xs:ry}{b:r8}(h:Lb K H M)(c:H p=KL)(r:aC K H b xs):Lb K (upd H p (.lst xs)) (au M p (.lst b)):=λa u e=>by
 by_cases ne:a=p
 .subst ne;rw[ag]at e;cases e;exact #[xs,aF,r.mono (.new c)]
 .rw[ak ne]at e;exact(h a u e).ff (.new c) (aD ne)
theorem Lb.wt{p:pd}{xs b:ry}{c:r8}(h:Lb K H M)(d:H p=KJ (.lst xs))(r:aC K H c b):Lb K (upd H p (.lst b)) (au M p (.lst c)):=λa u e=>by
 by_cases ne:a=p
 .subst ne;rw[ag]at e;cases e;exact #[b,aF,r.mono (.lst d)]
 .rw[ak ne]at e;exact(h a u e).ff (.lst d) (aD ne)
theorem Lb.sub{b:MH}(h:Lb K H M)(s:∀a o,b a=KJ o->M a=KJ o):Lb K H b:=λa o e=>h a o (s a o e)
end
abbrev DS:=r4
structure Slots(K:Ht)(H:Hp)(δ:DS)(σ:L2.St):Prop where
 len:δ.length=σ.length
 at':∀(i:Nat) d,δ[i]?=KJ (KJ d)->∃v,σ[i]?=KJ (KJ v)/\Rep K H d v
section
variable{K:Ht}{H H':Hp}{δ:DS}{σ:L2.St}
theorem Slots.mono(g:L5 K H H')(h:Slots K H δ σ):Slots K H' δ σ:=#[h.len,λi d e=>let⟨v,a,b⟩:=h.at' i d e;#[v,a,b.mono g]]
theorem Slots.set{d:D}{v:V}(r:Rep K H d v)(i:Nat)(h:Slots K H δ σ):Slots K H (δ.set i (KJ d)) (σ.set i (KJ v)):=by
 refine #[by simp[h.len],λj e q=>?_];rw[List.getElem?_set]at q;by_cases a:i=j
 .subst a;rw[KQ rfl]at q;by_cases b:i<δ.length
  .rw[KQ b]at q;cases q;exact #[v,by rw[List.getElem?_set,KQ rfl,KQ (by rw[<-h.len];exact b)],r]
  .rw[KP b]at q;cases q
 .rw[KP a]at q;let[c,e1,e2]:=h.at' j e q;exact #[c,by rw[List.getElem?_set,KP a];exact e1,e2]
theorem j5{N:rx}{a:r8}{vs:ry}(r:aC K H a vs):Slots K H (a.map KJ++Im (N.length-a.length) KL) (L2.start N vs):=by
 have c:=r.length;refine #[by unfold L2.start;simp[c],λi d e=>?_];unfold L2.start;by_cases b:i<a.length
 .rw[IB ‹b›,HF]at e;cases q:a[i]? with
  |none=>rw[q]at e;cases e
  |some f=>
   rw[q]at e;cases e
   let[x,e1,e2]:=r.get q
   refine #[x,?_,e2]
   rw[IB (by simp;omega),HF,e1];rfl
 .rw[Iz ‹b›,List.getElem?_replicate]at e;split at e<;>cases e
end
abbrev DK:=D->MH->Prop
abbrev TD:=DS->MH->DK->Prop
abbrev MI:=DS->MH->(Bool->MH->Prop)->Prop
abbrev Ly:=DS->MH->(r8->MH->Prop)->Prop
structure EndsD where
 nx:DS->MH->Prop
 rt:DK
 bk:DS->MH->Prop:=λ_ _=>False
 ct:DS->MH->Prop:=λ_ _=>False
@[reducible] def EndsD.nxt(B:EndsD)(n:DS->MH->Prop):EndsD:={ B with nx:=n }
@[reducible] def EndsD.lp(B:EndsD)(w:DS->MH->Prop):EndsD:={ B with nx:=w,ct:=w,bk:=B.nx }
abbrev MN:=EndsD->DS->MH->Prop
section
variable(K:Ht)
def Fin(H:Hp)(R:DK)(Q:VK):Prop:=∀d b v a,L5 K H a->Rep K a d v->Lb K a b->R d b->Q v a
def Am(H:Hp)(R:Bool->MH->Prop)(Q:Bool->Hp->Prop):Prop:=∀b c a,L5 K H a->Lb K a c->R b c->Q b a
def FinA(H:Hp)(R:r8->MH->Prop)(Q:ry->Hp->Prop):Prop:=∀b c vs a,L5 K H a->aC K a b vs->Lb K a c->R b c->Q vs a
def lift(t:TD):TE:=λσ H Q=>∃δ M R,Slots K H δ σ/\Lb K H M/\t δ M R/\Fin K H R Q
def liftT(t:MI):TT:=λσ H Q=>∃δ M R,Slots K H δ σ/\Lb K H M/\t δ M R/\Am K H R Q
def xB(t:Ly):TA:=λσ H Q=>∃δ M R,Slots K H δ σ/\Lb K H M/\t δ M R/\FinA K H R Q
structure NU(H:Hp)(B:EndsD)(E:Ends):Prop where
 nx:∀δ M σ H',L5 K H H'->Slots K H' δ σ->Lb K H' M->B.nx δ M->E.nx σ H'
 rt:∀d M v H',L5 K H H'->Rep K H' d v->Lb K H' M->B.rt d M->E.rt v H'
 bk:∀δ M σ H',L5 K H H'->Slots K H' δ σ->Lb K H' M->B.bk δ M->E.bk σ H'
 ct:∀δ M σ H',L5 K H H'->Slots K H' δ σ->Lb K H' M->B.ct δ M->E.ct σ H'
def Bw(t:MN):TS:=λE σ H=>∃δ M,Slots K H δ σ/\Lb K H M/\∃B,NU K H B E/\t B δ M
end
namespace Zq
@[scoped irreducible]def _root_.SD.DE(X:Cx)(e:pv)(t:TD):Prop:=PE X e (lift X.K t)
@[scoped irreducible]def _root_.SD.DT(X:Cx)(e:pv)(t:MI):Prop:=PT X e (liftT X.K t)
@[scoped irreducible]def _root_.SD.DW(X:Cx)(e:pv)(t:MI):Prop:=PW X e (liftT X.K t)
@[scoped irreducible]def _root_.SD.DA(X:Cx)(es:ro)(t:Ly):Prop:=PA X es (xB X.K t)
@[scoped irreducible]def _root_.SD.DSt(X:Cx)(st:pe)(t:MN):Prop:=PS X st (Bw X.K t)
@[scoped irreducible]def _root_.SD.DSs(X:Cx)(st:ri)(t:MN):Prop:=Ng X st (Bw X.K t)
end Zq
theorem aY{X:Cx}{e:pv}{t t':TE}(h:PE X e t)(k:∀σ H Q,t' σ H Q->t σ H Q):PE X e t':=λKZ s σ H Q I q=>h KZ s σ H Q I (k σ H Q q)
theorem mw{X:Cx}{e:pv}{t t':TT}(h:PT X e t)(k:∀σ H Q,t' σ H Q->t σ H Q):PT X e t':=λKZ s σ H Q I q=>h KZ s σ H Q I (k σ H Q q)
theorem wg{X:Cx}{e:pv}{t t':TT}(h:PW X e t)(k:∀σ H Q,t' σ H Q->t σ H Q):PW X e t':=λa KZ s σ H Q I q=>h a KZ s σ H Q I (k σ H Q q)
theorem y9{X:Cx}{e:ro}{t t':TA}(h:PA X e t)(k:∀σ H Q,t' σ H Q->t σ H Q):PA X e t':=λpos KZ s σ H Q I q=>h pos KZ s σ H Q I (k σ H Q q)
theorem cA{X:Cx}{e:pe}{t t':TS}(h:PS X e t)(k:∀D σ H,t' D σ H->t D σ H):PS X e t':=λKZ s σ H D I q=>h KZ s σ H D I (k D σ H q)
theorem oG{X:Cx}{e:ri}{t t':TS}(h:Ng X e t)(k:∀D σ H,t' D σ H->t D σ H):Ng X e t':=λKZ s σ H D I q=>h KZ s σ H D I (k D σ H q)
section
variable{K:Ht}{H H1 H':Hp}
theorem Fin.go{R:DK}{Q:VK}(g:L5 K H H1)(h:Fin K H R Q):Fin K H1 R Q:=λd M v H' a=>h d M v H' (g.trans a)
theorem Am.go{R:Bool->MH->Prop}{Q:Bool->Hp->Prop}(g:L5 K H H1)(h:Am K H R Q):Am K H1 R Q:=λb M H' a=>h b M H' (g.trans a)
theorem NU.go{B:EndsD}{E:Ends}(g:L5 K H H1)(h:NU K H B E):NU K H1 B E:=#[λd M v H' a=>h.nx d M v H' (g.trans a),λd M v H' a=>h.rt d M v H' (g.trans a),λd M v H' a=>h.bk d M v H' (g.trans a),λd M v H' a=>h.ct d M v H' (g.trans a)]
end
section
variable{X:Cx}
inductive OK(i:Nat)(δ:DS)(M:MH)(Q:DK):Prop
 |mk (d:D) (h:δ[i]?=KJ (KJ d)) (q:Q d M):OK i δ M Q
def Qt(d:D):TD:=λ_ M Q=>Q d M
theorem dv(i:Nat){x:Str}{pos:Pos}(b:X.N[i]?=KJ x:=by rfl)(hv:WV X.env.scope x:=by first|exact Or.inl rfl|exact Or.inr (Or.inl rfl)|exact Or.inr (Or.inr rfl))(hd:(x==("__debug__":Str))=KO:=by decide)
 (a:(x==("__classdict__":Str))=KO:=by decide):DE X (.Name x pos) (OK i):=
 aY (B9 b hv hd a) λσ H Q c=>by
  obtain⟨δ,M,R,f,g,⟨d,e,r⟩,fin⟩:=c
  let[v,e1,e2]:=f.at' i d e
  exact #[v,e1,fin d M v H .refl e2 g r]
theorem dc{e:pv}{v:V}{d:D}(h:PE X e (tC v))(r:∀H,Rep X.K H d v):DE X e (Qt d):=aY h λσ H Q a=>by let[δ,M,R,c,b,q,fin]:=a;exact(fin d M v H .refl (r H) b q)
theorem ai{i j pos}:DE X (.Constant (.int i) j pos) (Qt (.int i)):=dc yL λ_=>by rw[Rep]
theorem je{i j pos}:DE X (.Constant (.bool i) j pos) (Qt (.bl i)):=dc ET λ_=>by rw[Rep]
theorem om{j pos}:DE X (.Constant .none j pos) (Qt .non):=dc BX λ_=>by rw[Rep]
theorem ft{x j pos}:DE X (.Constant (.str x) j pos) (Qt (.str x)):=dc Cw λ_=>by rw[Rep]
end
abbrev Mh:=D->D->MH->DK->Prop
def oU(K:Ht)(r:Mh):R2:=λv u H Q=>∃x y M R,Rep K H x v/\Rep K H y u/\Lb K H M/\r x y M R/\Fin K H R Q
def Mi(X:Cx)(f:Hu->Hu->Sem Hu)(r:Mh):Prop:=MQ X f (oU X.K r)
def uL(r:Mh)(a b:TD):TD:=λδ M Q=>a δ M λx c=>b δ c λy d=>r x y d Q
theorem ik{X:Cx}{f:Hu->Hu->Sem Hu}{r c:R2}(h:MQ X f r)(k:∀x y H Q,c x y H Q->r x y H Q):MQ X f c:=λKZ s σ H x y v u Q I a b q=>h KZ s σ H x y v u Q I a b (k _ _ _ _ q)
theorem k5{K:Ht}{r:Mh}{a b:TD}{σ:L2.St}{H:Hp}{Q:VK}(h:lift K (uL r a b) σ H Q):Qs (oU K r) (lift K a) (lift K b) σ H Q:=by let[δ,M,R,c,e,q,fin]:=h;refine #[δ,M,_,c,e,q,λx f v H1 g1 g i j=>?_];exact #[δ,f,_,c.mono g1,i,j,λy k u o d l m n=>#[x,y,k,R,g.mono d,l,m,n,fin.go (g1.trans d)]]
section
variable{X:Cx}{a b:pv}{ta tb:TD}{pos:Pos}
theorem aw{op:Operator}{r:Mh}(c:Mi X (JR op) r)(d:DE X a ta)(e:DE X b tb):DE X (.BinOp a op b pos) (uL r ta tb):=aY (EB c d e) λ_ _ _ h=>k5 h
theorem bL{op:CmpOp}{r:Mh}(c:Mi X (IM op) r)(d:DE X a ta)(e:DE X b tb)(f:Kt op b=KO:=by exact yc _):DE X (.Compare a [op] [b] pos) (uL r ta tb):=aY (Ao c d e f) λ_ _ _ h=>k5 h
inductive QJ(x:D)(M:MH)(Q:Bool->MH->Prop):Prop
 |mk (c:Bool) (h:x=.bl c) (q:Q c M):QJ x M Q
def tBD(t:TD):MI:=λδ M Q=>t δ M λx c=>QJ x c Q
theorem nI{K:Ht}{t:TD}{t':TE}(g:∀σ H Q,lift K t σ H Q->t' σ H Q){σ:L2.St}{H:Hp}{Q:Bool->Hp->Prop}(h:liftT K (tBD t) σ H Q):A7 t' σ H Q:=by let[δ,M,R,i,j,q,fin]:=h;refine g _ _ _ #[δ,M,_,i,j,q,λx k v H1 g1 f l d=>?_];let[c,e,m]:=d;subst e;rw[Rep]at f;exact #[c,f,fin c k H1 g1 l m]
theorem aI{op:CmpOp}{r:Mh}(c:Mi X (IM op) r)(d:DE X a ta)(e:DE X b tb)(f:Kt op b=KO:=by exact yc _):DT X (.Compare a [op] [b] pos) (tBD (uL r ta tb)):=mw (Ah c d e f) λ_ _ _ h=>nI (λ_ _ _ h=>k5 h) h
theorem dH{e:pv}{t:TD}(h:DE X e t)(d:∀c,isTrue e X.env c=(do let v <-c;standAt e.pos;holding [v] (truthy v)):=by intro _;rfl):DT X e (tBD t):=
 mw (BM h d) λ_ _ _ h=>nI (t':=lift X.K t) (λ_ _ _ h=>h) h
end
section
variable{X:Cx}{a b c:pv}{ta tb:TD}{tA LA:MI}{rest:ro}{pos:Pos}
def Bf(t u:MI):MI:=λδ M Q=>t δ M λc d=>if c=KN then u δ d Q else Q KO d
def Ft(t u:MI):MI:=λδ M Q=>t δ M λc d=>if c=KN then Q KN d else u δ d Q
def f7(t:MI):MI:=λδ M Q=>t δ M λc d=>Q (!c) d
theorem gS(d:DT X a tA):DW X (.BoolOp .And [a] pos) tA:=AM d
theorem xD(d:DT X a tA):DW X (.BoolOp .Or [a] pos) tA:=CT d
theorem jR(h:DT X a tA)(i:DW X (.BoolOp .And (b::rest) pos) LA):DW X (.BoolOp .And (a::b::rest) pos) (Bf tA LA):=
 wg (CK h i) λσ H Q d=>by let[δ,M,R,f,j,q,fin]:=d;exact(#[δ,M,_,f,j,q,λc k H1 g1 g e=>by
  cases c with
  |true=>rw[KQ rfl]at e ⊢;exact #[δ,k,R,f.mono g1,g,e,fin.go g1]
  |false=>rw[KP Ib]at e ⊢;exact fin _ _ _ g1 g e])
theorem BD(h:DT X a tA)(i:DW X (.BoolOp .Or (b::rest) pos) LA):DW X (.BoolOp .Or (a::b::rest) pos) (Ft tA LA):=
 wg (Fe h i) λσ H Q d=>by let[δ,M,R,f,j,q,fin]:=d;exact(#[δ,M,_,f,j,q,λc k H1 g1 g e=>by
  cases c with
  |true=>rw[KQ rfl]at e ⊢;exact fin _ _ _ g1 g e
  |false=>rw[KP Ib]at e ⊢;exact #[δ,k,R,f.mono g1,g,e,fin.go g1]])
theorem pO{e:pv}{t:MI}(h:DW X e t):DT X e t:=PW.pt h
theorem nP(e:DT X a tA):DT X (.UnaryOp .Not a pos) (f7 tA):=mw (Dc e) λσ H Q d=>by let[δ,M,R,f,g,q,fin]:=d;exact(#[δ,M,_,f,g,q,λc j H1 g1 h i=>fin _ _ _ g1 h i])
def wz(ta tb:TD):TD:=λδ M Q=>ta δ M λx d=>QJ x d λc d=>if c=KN then tb δ d Q else Q (.bl KO) d
def CQ(ta:TD):TD:=λδ M Q=>ta δ M λx d=>QJ x d λc d=>Q (.bl (!c)) d
theorem lG{op}{t:TD}(h:DE X a t):DE X (.BoolOp op [a] pos) t:=CA h
theorem jt(i:DE X a ta)(j:DE X (.BoolOp .And (b::rest) pos) tb):DE X (.BoolOp .And (a::b::rest) pos) (wz ta tb):=
 aY (Cg i j) λσ H Q ⟨δ,M,R,f,k,q,fin⟩=>#[δ,M,_,f,k,q,λx l v H1 g1 g h m=>by
  let[c,e,d]:=m
  subst e
  rw[Rep]at g
  exists c,g
  cases c with
  |true=>rw[KQ rfl]at d ⊢;exact #[δ,l,R,f.mono g1,h,d,fin.go g1]
  |false=>rw[KP Ib]at d ⊢;exact fin _ _ _ _ g1 (by rw[Rep]) h d]
theorem wx(g:DE X a ta):DE X (.UnaryOp .Not a pos) (CQ ta):=
 aY (CH g) λσ H Q d=>by let[δ,M,R,h,i,q,fin]:=d;exact(#[δ,M,_,h,i,q,λx m v H1 g1 f j k=>by
  let[c,e,l]:=k
  subst e
  rw[Rep]at f
  exact #[c,f,fin _ _ _ _ g1 (by rw[Rep]) j l]])
def GP(t:MI)(ta tb:TD):TD:=λδ M Q=>t δ M λc d=>if c=KN then ta δ d Q else tb δ d Q
theorem jT(i:DT X c tA)(j:DE X a ta)(k:DE X b tb):DE X (.IfExp c a b pos) (GP tA ta tb):=
 aY (wM i j k) λσ H Q d=>by let[δ,M,R,f,l,q,fin]:=d;exact(#[δ,M,_,f,l,q,λc g H1 g1 h e=>by
  cases c with
  |true=>rw[KQ rfl]at e ⊢;exact #[δ,g,R,f.mono g1,h,e,fin.go g1]
  |false=>rw[KP Ib]at e ⊢;exact #[δ,g,R,f.mono g1,h,e,fin.go g1]])
end
def G6(r:D->MH->DK->Prop)(a:TD):TD:=λδ M Q=>a δ M λx b=>r x b Q
def Bo(K:Ht)(r:D->MH->DK->Prop):V->Hp->VK->Prop:=λv H Q=>∃x M R,Rep K H x v/\Lb K H M/\r x M R/\Fin K H R Q
theorem pB{X:Cx}{a:pv}{c:TD}{pos:Pos}{op:UnaryOp}{r:D->MH->DK->Prop}(d:WW X (unaryOp op) (Bo X.K r))(e:DE X a c):DE X (.UnaryOp op a pos) (G6 r c):=aY (Fh d e) λσ H Q b=>by let[δ,M,R,f,g,q,fin]:=b;exact(#[δ,M,_,f,g,q,λx h v H1 g1 i j k=>#[x,h,R,i,j,k,fin.go g1]])
def xN:Ly:=λ_ M Q=>Q [] M
def sP(a:TD)(b:Ly):Ly:=λδ M Q=>a δ M λx c=>b δ c λxs d=>Q (x::xs) d
section
variable{X:Cx}{e:pv}{es:ro}{te:TD}{t:Ly}{pos:Pos}
theorem af:DA X [] xN:=y9 yg λσ H Q a=>by let[δ,M,R,c,b,q,fin]:=a;exact(fin _ _ _ _ .refl .nil b q)
theorem ae(d:DE X e te)(f:DA X es t)(b:HM (e::es) X.env=(KO,eval e X.env)::HM es X.env:=by rfl):DA X (e::es) (sP te t):=
 y9 (uj d f b) λσ H Q a=>by let[δ,M,R,b,g,q,fin]:=a;exact(#[δ,M,_,b,g,q,λx h v H1 g1 i j k=>
  #[δ,h,_,b.mono g1,j,k,λxs o vs p c l m n=>fin _ _ _ _ (g1.trans c) (.cons (i.mono c) l) m n]])
def FQ(t:Ly):TD:=λδ M Q=>t δ M λxs a=>xs.length<=HR/\Q (.tup xs) a
def EC(t:Ly):TD:=λδ M Q=>t δ M λxs a=>xs.length<=HR/\∀p,a p=KL->Q (.ref p) (au a p (.lst xs))
theorem aE{x1}(h:DA X es t):DE X (.Tuple es x1 pos) (FQ t):=aY (CW h) λσ H Q a=>by let[δ,M,R,f,g,q,fin]:=a;exact(#[δ,M,_,f,g,q,λxs k vs H1 g1 d i b=>by let[z,j]:=b;exact(#[by rw[<-d.length];exact z,λp c=>fin _ _ _ _ (g1.trans (.new c)) (by rw[Rep];exact #[p,vs,rfl,Lm.of aF,d.mono (.new c)]) (i.new c) j])])
theorem bK(h:DA X es t):DE X (.List es pos) (EC t):=aY (DV h) λσ H Q a=>by let[δ,M,R,g,i,q,fin]:=a;exact(#[δ,M,_,g,i,q,λxs k vs H1 g1 d f b=>by let[z,j]:=b;exact(#[by rw[<-d.length];exact z,λp c=>fin _ _ _ _ (g1.trans (.new c)) (by rw[Rep]) (f.mj c d) (j p (f.fresh c))])])
end
def Zx(X:Cx)(r:Mh):Prop:=OX X (oU X.K r)
theorem Co{X:Cx}{r c:R2}(h:OX X r)(k:∀x y H Q,c x y H Q->r x y H Q):OX X c:=λe1 e2 KZ s σ H x y v u Q I a b q=>h e1 e2 KZ s σ H x y v u Q I a b (k _ _ _ _ q)
theorem CM{X:Cx}{a b:pv}{c d:TD}{pos:Pos}{r:Mh}(e:Zx X r)(f:DE X a c)(g:DE X b d)(i:oq b):DE X (.Subscript a b pos) (uL r c d):=aY (Fq e f g i) λ_ _ _ h=>k5 h
inductive Yj(ds:r8)(i:Int)(M:MH)(Q:DK):Prop
 |mk (d:D) (h:atI ds i=KJ d) (q:Q d M):Yj ds i M Q
inductive ZD(a:pd)(i:Int)(M:MH)(Q:DK):Prop
 |mk (ds:r8) (d:D) (h:M a=KJ (.lst ds)) (q:atI ds i=KJ d/\Q d M):ZD a i M Q
def CF:Mh:=λx y M Q=>match x,y with
 |.tup ds,.int i=>Yj ds i M Q
 |.rol ds,.int i=>Yj ds i M Q
 |.ref a,.int i=>ZD a i M Q
 |_,_=>False
theorem aC.atI{K:Ht}{H:Hp}{a:r8}{xs:ry}{i:Int}{d:D}(h:aC K H a xs)(e:L2.atI a i=KJ d):∃x,L2.atI xs i=KJ x/\Rep K H d x:=by
 unfold L2.atI at e ⊢;rw[<-h.length];cases q:ixN a.length i with
 |none=>rw[q]at e;cases e
 |some j=>
  rw[q]at e
  exact h.get e
theorem vB{K:Ht}{v u:V}{H:Hp}{Q:VK}(h:oU K CF v u H Q):Yp K v u H Q:=by
 let[x,y,M,R,b,f,a,q,fin]:=h;unfold CF at q;split at q
 .obtain⟨d,e,q⟩:=q;obtain rfl:u=.int _:=f;rw[Rep]at b;let[p,xs,rfl,g,c]:=b;let[x,e1,e2]:=c.atI e;exact .inr (.inl #[p,xs,_,x,rfl,rfl,g,e1,fin _ _ _ _ .refl e2 a q])
 .obtain⟨d,e,q⟩:=q;obtain rfl:u=.int _:=f;rw[Rep]at b;let[p,xs,rfl,g,c]:=b;let[x,e1,e2]:=c.atI e;exact .inl #[p,xs,_,x,rfl,rfl,g.sql,e1,fin _ _ _ _ .refl e2 a q]
 .obtain⟨j,d,i,e,q⟩:=q;obtain rfl:u=.int _:=f;obtain rfl:v=.ref _:=b;let[xs,hx,c]:=a _ _ i;let[x,e1,e2]:=c.atI e;exact .inl #[_,xs,_,x,rfl,rfl,Ln.of hx,e1,fin _ _ _ _ .refl e2 a q]
 .exact q.elim
theorem ax{X:Cx}{a b:pv}{c d:TD}{pos:Pos}(e:DE X a c)(f:DE X b d)(g:oq b:=by exact λ_ _=>rfl):DE X (.Subscript a b pos) (uL CF c d):=CM (Co Di λ_ _ _ _ h=>vB h) e f g
def Bd(n:Nat)(i:Int):Prop:=i.natAbs<2^n
instance(n:Nat)(i:Int):Decidable (Bd n i):=inferInstanceAs (Decidable (i.natAbs<2^n))
theorem Bd.mono{m n:Nat}{i:Int}(h:Bd m i)(l:m<=n):Bd n i:=Ig h (Nat.pow_le_pow_right ⋯ l)
theorem Bd.bits{n:Nat}{i:Int}(h:Bd n i):Builtin.Int.intBits i<=n:=by
 unfold Builtin.Int.intBits;split
 .exact J3 _
 .rename_i hz;have h0:i.natAbs≠0:=λe=>hz ‹Int.natAbs_eq_zero.mp e›;exact(Nat.log2_lt h0).mpr h
theorem Bd.log2{n:Nat}{i:Int}(h:Bd n i)(a:0<n):i.natAbs.log2<n:=by
 by_cases h0:i.natAbs=0
 .rw[h0];simpa using a
 .exact(Nat.log2_lt h0).mpr h
theorem Bd.mul{m n:Nat}{i j:Int}(a:Bd m i)(b:Bd n j):Bd (m+n) (i*j):=by unfold Bd at *;rw[Int.natAbs_mul,Nat.pow_add];exact Nat.mul_lt_mul'' a b
theorem Bd.add{n:Nat}{i j:Int}(a:Bd n i)(b:Bd n j):Bd (n+1) (i+j):=by unfold Bd at *;rw[Nat.pow_succ];have:=Int.natAbs_add_le i j;omega
theorem Bd.sub{n:Nat}{i j:Int}(a:Bd n i)(b:Bd n j):Bd (n+1) (i-j):=by unfold Bd at *;rw[Nat.pow_succ];have:=Int.natAbs_sub_le i j;omega
theorem Bd.neg{n:Nat}{i:Int}(a:Bd n i):Bd n (-i):=by unfold Bd at *;rw[Int.natAbs_neg];exact a
theorem Bd.of_le{n:Nat}{i j:Int}(a:Bd n i)(b:j.natAbs<=i.natAbs):Bd n j:=Nat.lt_of_le_of_lt b a
theorem bM{n:Nat}{i:Int}(h:i.natAbs<2^64)(l:64<=n:=by decide):Bd n i:=Bd.mono (m:=64) h l
theorem eK{i j:Int}(a:Bd 1000000 i)(b:Bd 1000000 j):IntMulOk i j:=.of_bits (ID a.bits ⋯) (ID b.bits ⋯)
theorem aL{i j:Int}(a:Bd 64 i):IntMulOk i j:=.of_left a.bits
theorem AV{i j:Int}(a:Bd 64 j):IntMulOk i j:=.of_right a.bits
def OU(C:Int->Int->Prop)(g:Int->Int->D):Mh:=λx y M Q=>match x,y with
 |.int i,.int j=>C i j/\Q (g i j) M
 |_,_=>False
section
variable{X:Cx}
theorem dR{f:Hu->Hu->Sem Hu}{C:Int->Int->Prop}{g:Int->Int->V}{g':Int->Int->D}(h:MQ X f (rI C g))(e:∀i j H,Rep X.K H (g' i j) (g i j)):Mi X f (OU C g'):=
 ik h λv u H Q b=>by
  let[x,y,M,R,c,d,a,q,fin]:=b
  unfold OU at q
  split at q
  .obtain rfl:v=.int _:=c
   obtain rfl:u=.int _:=d
   exact #[_,7,rfl,q.1,fin _ _ _ _ .refl (e _ _ _) a q.2]
  .exact q.elim
theorem RF{f:Hu->Hu->Sem Hu}{g:Int->Int->V}(h:MQ X f (QC g)):MQ X f (rI (λ_ _=>True) g):=ik h λx y H Q c=>by let[i,j,a,b,_,q]:=c;exact(#[i,j,a,b,q])
def EX:Mh:=OU (λ_ _=>True) λi j=>.int (i-j)
def Gd:Mh:=OU IntMulOk λi j=>.int (i*j)
def Zy(i j:Int):Prop:=j≠0/\Bd 8000 j
def He:Mh:=OU Zy λi j=>.int (i.fdiv j)
def F0:Mh:=OU (λ_ j=>j≠0) λi j=>.int (i.fmod j)
def Ep:Mh:=OU E4 λi j=>.int (i^j.toNat)
def Gw:Mh:=OU (λ_ _=>True) λi j=>.bl (decide (i<j))
def GR:Mh:=OU (λ_ _=>True) λi j=>.bl (decide (i<=j))
def Hq:Mh:=OU (λ_ _=>True) λi j=>.bl (decide (j<i))
theorem bf:Mi X (JR .Sub) EX:=dR (RF BK) λ_ _ _=>by rw[Rep]
theorem aH:Mi X (JR .Mult) Gd:=dR (Wg λ_ _ _ _ _ _ _ a q=>mul_int q a) λ_ _ _=>by rw[Rep]
theorem gh:Mi X (JR .FloorDiv) He:=dR (Wg λ_ _ _ _ _ _ _ a q=>floordiv_int a.1 q (.inl (PyProof.noPylong_of_log2 (Nat.lt_trans (a.2.log2 ⋯) ⋯)))) λ_ _ _=>by rw[Rep]
theorem fI:Mi X (JR .Mod) F0:=dR zu λ_ _ _=>by rw[Rep]
theorem gA:Mi X (JR .Pow) Ep:=dR DJ λ_ _ _=>by rw[Rep]
theorem Eg:Mi X (IM .Lt) Gw:=dR (RF Eu) λ_ _ _=>by rw[Rep]
theorem Fz:Mi X (IM .LtE) GR:=dR (RF E2) λ_ _ _=>by rw[Rep]
theorem E8:Mi X (IM .Gt) Hq:=dR (RF FP) λ_ _ _=>by rw[Rep]
def Bi:D->MH->DK->Prop:=λx M Q=>match x with
 |.int i=>Q (.int (-i)) M
 |_=>False
theorem jc:WW X (unaryOp .USub) (Bo X.K Bi):=λKZ s σ H x v Q I r b=>by let[d,M,R,c,a,q,fin]:=b;exact(Dg KZ s σ H x v Q I r (by
 unfold Bi at q
 split at q
 .obtain rfl:x=.int _:=c;exact #[7,fin _ _ _ _ .refl (by rw[Rep]) a q]
 .exact q.elim))
def Bc:Mh:=λx y M Q=>match x,y with
 |.int i,.int j=>Q (.int (i+j)) M
 |.tup a,.tup b=>a≠[]/\a.length+b.length<=HR/\Q (.tup (a++b)) M
 |.ref a,.ref b=>∃xs c,M a=KJ (.lst xs)/\M b=KJ (.lst c)/\xs.length+c.length<=HR/\∀p,M p=KL->Q (.ref p) (au M p (.lst (xs++c)))
 |_,_=>False
theorem aR:Mi X (JR .Add) Bc:=ik (Ce.or (A6.or B7)) λv u H Q i=>by
 let[x,y,M,R,f,g,a,q,fin]:=i;unfold Bc at q;split at q
 .obtain rfl:v=.int _:=f;obtain rfl:u=.int _:=g;exact .inl #[_,7,rfl,fin _ _ _ _ .refl (by rw[Rep]) a q]
 .rename_i da db;let[j,k,q]:=q;rw[Rep]at f;let[p,xs,rfl,hx,c]:=f;obtain⟨l,h,rfl,hy,d⟩:∃a xs,u=V.ref a/\Lm X.K H a xs/\aC X.K H db xs:=by rw[Rep]at g;exact g
  have l1:=c.length;have l2:=d.length;refine .inr (.inl #[p,l,xs,h,rfl,rfl,hx,hy,?_,(),λe=>?_,λ_ z b=>?_])
  .intro e;subst e;exact j (JF.mp ‹l1›)
  .subst e;obtain rfl:db=[]:=JF.mp ‹l2›;exact fin _ _ _ _ .refl (by rw[Rep,K7];exact #[p,xs,rfl,hx,c]) a q
  .exact fin _ _ _ _ (.new b) (by rw[Rep];exact #[z,7,Lm.of aF,(c.append d).mono (.new b)]) (a.new b) q
 .obtain⟨m,n,e1,e2,k,q⟩:=q;obtain rfl:v=.ref _:=f;obtain rfl:u=.ref _:=g;let[xs,hx,c]:=a _ _ e1;let[h,hy,d]:=a _ _ e2;have l1:=c.length;have l2:=d.length;exact .inr (.inr #[_,_,xs,h,rfl,rfl,hx,hy,(),λz b=>fin _ _ _ _ (.new b) (by rw[Rep]) (a.mj b (c.append d)) (q z (a.fresh b))])
 .exact q.elim
end
mutual
inductive Pd(M:MH):D->K8->Prop
 |non:Pd M .non .none
 |bl (b:Bool):Pd M (.bl b) (.bool b)
 |int (i:Int):Pd M (.int i) (.int i)
 |str (x:Str):Pd M (.str x) (.str x)
 |tup {ds:r8} {ps:List K8}:OF M ds ps->Pd M (.tup ds) (.tuple ps)
 |rol {ds:r8} {ps:List K8}:OF M ds ps->Pd M (.rol ds) (.list ps)
 |lst {a:pd} {ds:r8} {ps:List K8}:M a=KJ (.lst ds)->OF M ds ps->Pd M (.ref a) (.list ps)
inductive OF(M:MH):r8->List K8->Prop
 |nil:OF M [] []
 |cons {d:D} {ds:r8} {p:K8} {ps:List K8}:Pd M d p->OF M ds ps->OF M (d::ds) (p::ps)
end
mutual
def Pq:D->Option K8
 |.non=>KJ .none
 |.bl b=>KJ (.bool b)
 |.int i=>KJ (.int i)
 |.str x=>KJ (.str x)
 |.tup a=>match sR a with
  |some ps=>KJ (.tuple ps)
  |none=>KL
 |_=>KL
def sR:r8->Option (List K8)
 |[]=>KJ []
 |d::ds=>match Pq d,sR ds with
  |some p,KJ ps=>KJ (p::ps)
  |_,_=>KL
end
mutual
theorem Pd.of{M:MH}:∀{d:D} {p:K8},Pq d=KJ p->Pd M d p
 |.non,p,h=>by rw[Pq]at h;cases h;exact .non
 |.bl b,p,h=>by rw[Pq]at h;cases h;exact .bl b
 |.int i,p,h=>by rw[Pq]at h;cases h;exact .int i
 |.str x,p,h=>by rw[Pq]at h;cases h;exact .str x
 |.ty _,p,h=>by simp[Pq]at h
 |.ref _,p,h=>by simp[Pq]at h
 |.rol _,p,h=>by simp[Pq]at h
 |.tup ds,p,h=>by
  rw[Pq]at h
  cases e:sR ds with
  |none=>rw[e]at h;cases h
  |some ps=>rw[e]at h;cases h;exact .tup (OF.of e)
theorem OF.of{M:MH}:∀{a:r8} {ps:List K8},sR a=KJ ps->OF M a ps
 |[],ps,h=>by rw[sR]at h;cases h;exact .nil
 |d::a,ps,h=>by
  rw[sR]at h
  cases e1:Pq d with
  |none=>rw[e1]at h;cases h
  |some p=>
   cases e2:sR a with
   |none=>rw[e1,e2]at h;cases h
   |some qs=>rw[e1,e2]at h;cases h;exact .cons (Pd.of e1) (OF.of e2)
end
section
variable{X:Cx}{KZ:p4}{σ:L2.St}{H:Hp}{s:Hv}{M:MH}
mutual
theorem cm(I:Inv X KZ σ H s)(m:Lb X.K H M):∀{d:D} {p:K8} {v:V} {u:Hu},Pd M d p->Rep X.K H d v->L2.RelV v u->∃c,Reads s.heap u p c
 |_,_,_,_,.non,r,e=>by rw[Rep]at r;subst r;cases e;exact #[_,.none]
 |_,_,_,_,.bl b,r,e=>by rw[Rep]at r;subst r;cases e;exact #[_,.bool b]
 |_,_,_,_,.int i,r,e=>by rw[Rep]at r;subst r;let[t,rfl]:=e;exact #[_,.int i t]
 |_,_,_,_,.str x,r,e=>by rw[Rep]at r;subst r;let[t,rfl]:=e;exact #[_,.str x t]
 |_,_,_,_,.tup hp,r,e=>by
  rw[Rep]at r
  let[a,xs,rfl,q,f]:=r
  cases e
  obtain⟨g,h,⟨o,h1,j,n,k⟩,_⟩:=I.tuple q
  let[c,l]:=gY I m hp f h
  exact #[c,reads_tuple_at h1 j k ‹l›]
 |_,_,_,_,.rol hp,r,e=>by
  rw[Rep]at r
  let[a,xs,rfl,q,f]:=r
  cases e
  obtain⟨g,h,⟨o,n,h1,j,_,k⟩,_⟩:=I.list q.sql
  let[c,l]:=gY I m hp f h
  exact #[_,reads_list_at h1 j k ‹l›]
 |_,_,_,_,.lst ha hp,r,e=>by
  rw[Rep]at r
  subst r
  cases e
  let[xs,hx,f]:=m _ _ ha
  obtain⟨g,h,⟨o,n,h1,j,_,k⟩,_⟩:=I.list (Ln.of hx)
  let[c,l]:=gY I m hp f h
  exact #[_,reads_list_at h1 j k ‹l›]
theorem gY(I:Inv X KZ σ H s)(a:Lb X.K H M):∀{b:r8} {ps:List K8} {vs:ry} {us:List Hu},OF M b ps->aC X.K H b vs->Vals vs us->∃c,ReadsAll s.heap us ps c
 |_,_,_,_,.nil,r,e=>by rw[aC]at r;subst r;cases e;exact #[_,.nil]
 |_,_,_,_,.cons h1 h2,r,e=>by
  rw[aC]at r
  let[x,r,rfl,d,f]:=r
  cases e with
  |cons e1 e2=>
   let[c,g]:=cm I a h1 d e1
   let[bs,h]:=gY I a h2 f e2
   exact #[_,.cons g h]
end
end
inductive Po(g:Bool->Bool)(x y:D)(M:MH)(Q:DK):Prop
 |mk (p q:K8) (h1:Pd M x p) (h2:Pd M y q) (h3:JY p=KN) (h4:JY q=KN) (hq:Q (.bl (g (J0 p q))) M):Po g x y M Q
def Ew:Mh:=λx y M Q=>match x,y with
 |.int i,.int j=>Q (.bl (decide (i=j))) M
 |.bl i,.bl j=>Q (.bl (decide (i=j))) M
 |x,y=>Po (λb=>b) x y M Q
def EM:Mh:=λx y M Q=>match x,y with
 |.int i,.int j=>Q (.bl (!decide (i=j))) M
 |.bl i,.bl j=>Q (.bl (!decide (i=j))) M
 |x,y=>Po (λb=>!b) x y M Q
section
variable{X:Cx}
theorem CS(c:X.A.units+64<J9):Mi X (IM .Eq) (Po λb=>b):=by intro KZ s σ H v u r t Q I d e h;obtain⟨x,y,M,R,f,g,a,⟨p,q,i,j,k,l,m⟩,fin⟩:=h;let[w,n]:=cm I a i f d;let[bs,o]:=cm I a j g e;exact eq_dataH n o k l c #[.bl _,H,I,rfl,fin _ _ _ _ .refl (by rw[Rep]) a m]
theorem CO(c:X.A.units+64<J9):Mi X (IM .NotEq) (Po λb=>!b):=by intro KZ s σ H v u r t Q I d e h;obtain⟨x,y,M,R,f,g,a,⟨p,q,i,j,k,l,m⟩,fin⟩:=h;let[w,n]:=cm I a i f d;let[bs,o]:=cm I a j g e;exact ne_dataH n o k l c #[.bl _,H,I,rfl,fin _ _ _ _ .refl (by rw[Rep]) a m]
theorem nV{i j:Int}:(i==j)=decide (i=j):=by by_cases h:i=j<;>simp[h]
theorem p5{i j:Bool}:(i==j)=decide (i=j):=by cases i<;>cases j<;>rfl
theorem bX(b:X.A.units+64<J9):Mi X (IM .Eq) Ew:=ik (CS b) λv u H Q c=>by
 let[x,y,M,R,d,e,a,q,fin]:=c;refine #[x,y,M,R,d,e,a,?_,fin];unfold Ew at q;split at q
 .exact #[_,_,.int _,.int _,rfl,rfl,by simpa[J0,nV]using q]
 .exact #[_,_,.bl _,.bl _,rfl,rfl,by simpa[J0,p5]using q]
 .exact q
theorem jd(b:X.A.units+64<J9):Mi X (IM .NotEq) EM:=ik (CO b) λv u H Q c=>by
 let[x,y,M,R,d,e,a,q,fin]:=c;refine #[x,y,M,R,d,e,a,?_,fin];unfold EM at q;split at q
 .exact #[_,_,.int _,.int _,rfl,rfl,by simpa[J0,nV]using q]
 .exact #[_,_,.bl _,.bl _,rfl,rfl,by simpa[J0,p5]using q]
 .exact q
def Ys(x y:D):Option Bool:=match y with
 |.non=>KJ (match x with
  |.non=>KN
  |_=>KO)
 |.bl b=>KJ (match x with
  |.bl a=>decide (a=b)
  |_=>KO)
 |_=>KL
inductive RG(g:Bool->Bool)(x y:D)(M:MH)(Q:DK):Prop
 |mk (b:Bool) (h:Ys x y=KJ b) (q:Q (.bl (g b)) M):RG g x y M Q
def Hl:Mh:=RG λb=>b
theorem vN{K:Ht}{H:Hp}{x y:D}{b:Bool}{v u:V}{j k:Hu}(h:Ys x y=KJ b)(f:Rep K H x v)(l:Rep K H y u)(g:L2.RelV v j)(i:L2.RelV u k):plainIs j k=KN/\(j==k)=b:=by
 have fin:∀{c:Hu} {d:Bool},k=c->KJ d=KJ b->plainIs j c=KN->(j==c)=d->plainIs j k=KN/\(j==k)=b:=λe h p q=>by cases h;subst e;exact #[p,q]
 cases y with
 |non=>
  rw[Rep]at l;subst l
  cases x<;>rw[Rep]at f
  case non=>subst f;cases (show j=JB from g);exact fin i h rfl rfl
  case bl=>subst f;cases (show j=Value.bool _ from g);exact fin i h rfl rfl
  case int=>subst f;let[t,rfl]:=g;exact fin i h rfl rfl
  case str=>subst f;let[t,rfl]:=g;exact fin i h rfl rfl
  case ty=>subst f;cases g;exact fin i h rfl rfl
  case ref=>subst f;cases g;exact fin i h rfl rfl
  all_goals (let[a,xs,rfl,_]:=f;cases g;exact fin i h rfl rfl)
 |bl c=>
  rw[Rep]at l;subst l
  cases x<;>rw[Rep]at f
  case non=>subst f;cases (show j=JB from g);exact fin i h rfl rfl
  case bl c'=>subst f;cases (show j=Value.bool _ from g);exact fin i h rfl (by cases c<;>cases c'<;>rfl)
  case int=>subst f;let[t,rfl]:=g;exact fin i h rfl rfl
  case str=>subst f;let[t,rfl]:=g;exact fin i h rfl rfl
  case ty=>subst f;cases g;exact fin i h rfl rfl
  case ref=>subst f;cases g;exact fin i h rfl rfl
  all_goals (let[a,xs,rfl,_]:=f;cases g;exact fin i h rfl rfl)
 |_=>cases h
theorem El:Mi X (IM .Is) Hl:=by intro KZ s σ H v u i j Q I c d h;obtain⟨x,y,M,R,f,g,a,⟨b,e,q⟩,fin⟩:=h;let[e1,e2]:=vN e f g c d;exact wpAny_is_plain e1 #[.bl b,H,I,by rw[e2];rfl,fin _ _ _ _ .refl (by rw[Rep]) a q]
end
abbrev RC:=r8->MH->DK->Prop
def Bj(K:Ht)(r:RC):ry->Hp->VK->Prop:=λvs H Q=>∃a M R,aC K H a vs/\Lb K H M/\r a M R/\Fin K H R Q
def d4(X:Cx)(f:Hu)(r:RC):Prop:=b5 X f (Bj X.K r)
theorem cj{X:Cx}{f:Hu}{r b:ry->Hp->VK->Prop}(h:b5 X f r)(k:∀xs H Q,b xs H Q->r xs H Q):b5 X f b:=λKZ s σ H xs us Q I a q=>h KZ s σ H xs us Q I a (k _ _ _ q)
def CU(r:RC)(t:Ly):TD:=λδ M Q=>t δ M λa b=>r a b Q
theorem uh{K:Ht}{r:RC}{t:Ly}{σ:L2.St}{H:Hp}{Q:VK}(h:lift K (CU r t) σ H Q):Wo (Bj K r) (xB K t) σ H Q:=by let[δ,M,R,a,b,q,fin]:=h;exact #[δ,M,_,a,b,q,λc d vs H1 g1 e f g=>#[c,d,R,e,f,g,fin.go g1]]
section
variable{X:Cx}{x:Str}{p pos:Pos}{e:pv}{es:ro}{t:Ly}{id T:String}{r:RC}
theorem aO(c:d4 X (.builtin id) r)(d:Gl X x)(f:X.mg x=KL)(hv:J5 x=KJ (.builtin id))(g:DA X (e::es) t)(i:x≠"__name__":=by decide)(a:(x==("__debug__":Str))=KO:=by decide) (j:HM (e::es) X.env=(KO,eval e X.env)::HM es X.env:=by rfl) (b:(Jc pos (HM es X.env)).any (·.1)=KO:=by rfl):DE X (.Call (.Name x p) (e::es) [] pos) (CU r t):=aY (xm c d f hv g i a j b) λ_ _ _ h=>uh h
theorem cQ(c:d4 X (.type T) r)(d:Gl X x)(f:X.mg x=KL)(hv:J5 x=KJ (.type T))(g:DA X (e::es) t)(i:x≠"__name__":=by decide)(a:(x==("__debug__":Str))=KO:=by decide) (j:HM (e::es) X.env=(KO,eval e X.env)::HM es X.env:=by rfl) (b:(Jc pos (HM es X.env)).any (·.1)=KO:=by rfl):DE X (.Call (.Name x p) (e::es) [] pos) (CU r t):=aY (nB c d f hv g i a j b) λ_ _ _ h=>uh h
theorem bP{K:Ht}{H:Hp}{d:D}{vs:ry}(h:aC K H [d] vs):∃v,vs=[v]/\Rep K H d v:=by rw[aC]at h;let[x,r,rfl,h1,a]:=h;rw[aC]at a;subst a;exact #[x,rfl,h1]
theorem gc{K:Ht}{H:Hp}{d e:D}{vs:ry}(h:aC K H [d,e] vs):∃v u,vs=[v,u]/\Rep K H d v/\Rep K H e u:=by rw[aC]at h;let[x,r,rfl,h1,a]:=h;let[u,rfl,b]:=bP a;exact #[x,u,rfl,h1,b]
def Hm:RC:=λa M Q=>match a with
 |[.int i]=>Q (.int (i.natAbs:Int)) M
 |_=>False
theorem qL:d4 X (.builtin "abs") Hm:=cj xK λvs H Q c=>by
 let[b,M,R,f,a,q,fin]:=c;rcases b with _|⟨d,b⟩
 .exact Ic q
 cases d<;>rcases b with _|⟨e,b⟩<;>try exact Ic q
 .rename_i i;let[v,rfl,r]:=bP f;rw[Rep]at r;subst r;have e:(if i<0 then -i else i)=(i.natAbs:Int):=by split<;>omega
  exact #[7,fin _ _ _ _ .refl (by rw[Rep,e]) a q]
def Gx:RC:=λa M Q=>match a with
 |[.int i,.int j]=>Q (.int (max i j)) M
 |_=>False
def GY:RC:=λa M Q=>match a with
 |[.int i,.int j]=>Q (.int (min i j)) M
 |_=>False
theorem Cj(g:X.calm=KN):d4 X (.builtin "max") Gx:=cj (vt g) λvs H Q h=>by
 let[b,M,R,k,a,q,fin]:=h;rcases b with _|⟨d,b⟩
 .exact Ic q
 cases d<;>rcases b with _|⟨e,b⟩<;>try exact Ic q
 all_goals (cases e<;>rcases b with _|⟨f,b⟩<;>try exact Ic q)
 .rename_i i j;let[v,u,rfl,r,c]:=gc k;rw[Rep]at r;subst r;have l:u=.int j:=by rw[Rep]at c;exact c
  subst l;have e:(if j>i then j else i)=max i j:=by split<;>omega
  exact #[_,7,fin _ _ _ _ .refl (by rw[Rep,e]) a q]
theorem BR(g:X.calm=KN):d4 X (.builtin "min") GY:=cj (vI g) λvs H Q h=>by
 let[b,M,R,k,a,q,fin]:=h;rcases b with _|⟨d,b⟩
 .exact Ic q
 cases d<;>rcases b with _|⟨e,b⟩<;>try exact Ic q
 all_goals (cases e<;>rcases b with _|⟨f,b⟩<;>try exact Ic q)
 .rename_i i j;let[v,u,rfl,r,c]:=gc k;rw[Rep]at r;subst r;have l:u=.int j:=by rw[Rep]at c;exact c
  subst l;have e:(if j<i then j else i)=min i j:=by split<;>omega
  exact #[_,7,fin _ _ _ _ .refl (by rw[Rep,e]) a q]
def Gy:RC:=λa M Q=>match a with
 |[.tup xs]=>Q (.int (xs.length:Int)) M
 |[.rol xs]=>Q (.int (xs.length:Int)) M
 |[.ref l]=>∃xs,M l=KJ (.lst xs)/\Q (.int (xs.length:Int)) M
 |_=>False
theorem cK:d4 X (.builtin "len") Gy:=cj oo λvs H Q g=>by
 let[c,M,R,f,a,q,fin]:=g;rcases c with _|⟨d,c⟩
 .exact Ic q
 cases d<;>rcases c with _|⟨e,c⟩<;>try exact Ic q
 .obtain⟨v,rfl,r⟩:=bP f;rw[Rep]at r;subst r;let[xs,e,q]:=q;let[h,h1,b]:=a _ _ e;exact #[_,h,rfl,.inl (Ln.of h1),fin _ _ _ _ .refl (by rw[Rep,b.length]) a q]
 .obtain⟨v,rfl,r⟩:=bP f;rw[Rep]at r;let[l,xs,rfl,h1,b]:=r;exact #[l,xs,rfl,.inl h1.sql,fin _ _ _ _ .refl (by rw[Rep,b.length]) a q]
 .obtain⟨v,rfl,r⟩:=bP f;rw[Rep]at r;let[l,xs,rfl,h1,b]:=r;exact #[l,xs,rfl,.inr h1,fin _ _ _ _ .refl (by rw[Rep,b.length]) a q]
def Cr:RC:=λa M Q=>match a with
 |[.tup xs]=>Q (.tup xs) M
 |[.rol xs]=>Q (.tup xs) M
 |[.ref l]=>∃xs,M l=KJ (.lst xs)/\Q (.tup xs) M
 |_=>False
theorem lP:d4 X (.type "tuple") Cr:=cj mF λvs H Q i=>by
 let[f,M,R,g,a,q,fin]:=i;rcases f with _|⟨d,f⟩
 .exact Ic q
 cases d<;>rcases f with _|⟨e,f⟩<;>try exact Ic q
 .obtain⟨v,rfl,r⟩:=bP g;rw[Rep]at r;subst r;let[xs,e,q]:=q;let[h,h1,c]:=a _ _ e;exact #[_,h,rfl,.inl #[Ln.of h1,λp b=>fin _ _ _ _ (.new b) (by rw[Rep];exact #[p,h,rfl,Lm.of aF,c.mono (.new b)]) (a.new b) q]]
 .obtain⟨v,rfl,r⟩:=bP g;rw[Rep]at r;let[l,xs,rfl,h1,c]:=r;exact #[l,xs,rfl,.inl #[h1.sql,λp b=>fin _ _ _ _ (.new b) (by rw[Rep];exact #[p,xs,rfl,Lm.of aF,c.mono (.new b)]) (a.new b) q]]
 .obtain⟨v,rfl,r⟩:=bP g;rw[Rep]at r;let[l,xs,rfl,h1,c]:=r;exact #[l,xs,rfl,.inr #[h1,fin _ _ _ _ .refl (by rw[Rep];exact #[l,xs,rfl,h1,c]) a q]]
def F8:RC:=λa M Q=>match a with
 |[.int i]=>Q (.int i) M
 |[.bl k]=>Q (.int (if k=KN then 1 else 0)) M
 |_=>False
theorem wY:d4 X (.type "int") F8:=cj uU λvs H Q f=>by
 let[b,M,R,c,a,q,fin]:=f;rcases b with _|⟨d,b⟩
 .exact Ic q
 cases d<;>rcases b with _|⟨e,b⟩<;>try exact Ic q
 .obtain⟨v,rfl,r⟩:=bP c;rw[Rep]at r;subst r;exact .inr #[7,fin _ _ _ _ .refl (by rw[Rep]) a q]
 .obtain⟨v,rfl,r⟩:=bP c;rw[Rep]at r;subst r;exact .inl #[7,fin _ _ _ _ .refl (by rw[Rep]) a q]
end
abbrev OE:=D->DS->MH->(DS->MH->Prop)->Prop
abbrev qP:=r8->DS->MH->(DS->MH->Prop)->Prop
section
variable(K:Ht)
def xT(H:Hp)(R:DS->MH->Prop)(Q:L2.St->Hp->Prop):Prop:=∀a d b c,L5 K H c->Slots K c a b->Lb K c d->R a d->Q b c
def EA(t:OE):TG:=λv σ H Q=>∃d δ M R,Rep K H d v/\Slots K H δ σ/\Lb K H M/\t d δ M R/\xT K H R Q
def DH(t:qP):QF:=λvs σ H Q=>∃a δ M R,aC K H a vs/\Slots K H δ σ/\Lb K H M/\t a δ M R/\xT K H R Q
end
theorem xT.go{K:Ht}{H H1:Hp}{R:DS->MH->Prop}{Q:L2.St->Hp->Prop}(g:L5 K H H1)(h:xT K H R Q):xT K H1 R Q:=λd M v a b=>h d M v a (g.trans b)
namespace Zq
@[scoped irreducible]def _root_.SD.DG(X:Cx)(e:pv)(t:OE):Prop:=PG X e (EA X.K t)
@[scoped irreducible]def _root_.SD.DGs(X:Cx)(es:ro)(t:qP):Prop:=Qe X es (DH X.K t)
end Zq
theorem sk{X:Cx}{e:pv}{t t':TG}(h:PG X e t)(k:∀v σ H Q,t' v σ H Q->t v σ H Q):PG X e t':=λKZ s σ H v u Q I r q=>h KZ s σ H v u Q I r (k _ _ _ _ q)
theorem t5{X:Cx}{e:ro}{t t':QF}(h:Qe X e t)(k:∀v σ H Q,t' v σ H Q->t v σ H Q):Qe X e t':=λKZ s σ H v u Q I r q=>h KZ s σ H v u Q I r (k _ _ _ _ q)
section
variable{X:Cx}{pos:Pos}
def aW(i:Nat):OE:=λd δ M Q=>Q (δ.set i (KJ d)) M
theorem ay(i:Nat){x:Str}(c:X.N.Nodup)(e:X.N[i]?=KJ x:=by rfl)(hx:Loc X.env.scope x:=by first|exact Or.inl rfl|exact Or.inr rfl)(f:X.fn x=KN\/X.env.scope.names.lookup x=KJ .local:=by first|exact .inl rfl|exact .inr rfl|assumption):DG X (.Name x pos) (aW i):=sk (t9 c e hx f) λv σ H Q b=>by let[d,δ,M,R,r,g,a,q,fin]:=b;exact(fin _ _ _ _ .refl (g.set r i) a q)
def Ek:qP:=λa δ M Q=>a=[]/\Q δ M
inductive Pr(t:OE)(u:qP)(ds:r8)(δ:DS)(M:MH)(Q:DS->MH->Prop):Prop
 |mk (d:D) (r:r8) (h:ds=d::r) (q:t d δ M λδ' M'=>u r δ' M' Q):Pr t u ds δ M Q
theorem aU:DGs X [] Ek:=t5 tS λvs σ H Q c=>by obtain⟨f,δ,M,R,b,d,a,⟨e,q⟩,fin⟩:=c;subst e;rw[aC]at b;exact #[b,fin _ _ _ _ .refl d a q]
theorem aA{e:pv}{es:ro}{t:OE}{u:qP}(h1:DG X e t)(h:DGs X es u) (b:(Ku (e::es) X.env).map (·.2)=Kw e X.env::(Ku es X.env).map (·.2):=by rfl):DGs X (e::es) (Pr t u):=t5 (lU h1 h b) λvs σ H Q i=>by obtain⟨s,δ,M,R,f,b,a,⟨d,r,e,q⟩,fin⟩:=i;subst e;rw[aC]at f;let[x,xs,rfl,j,k]:=f;exact #[x,xs,rfl,d,δ,M,_,j,b,a,q,λc l m v g n o p=>#[r,c,l,R,k.mono g,n,o,p,fin.go g]]
inductive Q4(n:Nat)(t:qP)(d:D)(δ:DS)(M:MH)(Q:DS->MH->Prop):Prop
 |mk (ds:r8) (h:d=.tup ds) (q:ds.length=n/\t ds δ M Q):Q4 n t d δ M Q
theorem br{es:ro}{k:Nat}{t:qP}{n:Nat}(f:X.calm=KN)(h:DGs X es t) (g:(Ku es X.env).length=n:=by rfl) (b:(Ku es X.env).findIdx? (·.1)=KL:=by rfl):DG X (.Tuple es k pos) (Q4 n t):=sk (xX f h g b) λv σ H Q i=>by obtain⟨d,δ,M,R,r,j,a,⟨l,e,m,q⟩,fin⟩:=i;subst e;rw[Rep]at r;let[p,xs,rfl,h1,c]:=r;exact #[p,xs,rfl,h1,by rw[<-c.length];exact m,l,δ,M,R,c,j,a,q,fin]
def Bt:D->D->D->MH->(MH->Prop)->Prop:=λo i v M Q=>match o,i with
 |.ref p,.int k=>∃a j,M p=KJ (.lst a)/\ixN a.length k=KJ j/\Q (au M p (.lst (a.set j v)))
 |_,_=>False
def Fg(to a:TD):OE:=λv δ M Q=>to δ M λo b=>a δ b λi c=>Bt o i v c λd=>Q δ d
theorem oj{o i:pv}{to f:TD}(m:DE X o to)(n:DE X i f)
 (p:∀v,Kw (.Subscript o i pos) X.env v=(do
  let ov <-holding [v] (eval o X.env)
  let iv <-holding [v,ov] (eval i X.env)
  standAt pos
  holding [v,ov,iv] (setItem ov iv v)
  release [v,ov,iv] []):=by intro _;rfl):DG X (.Subscript o i pos) (Fg to f):=
 sk (DY m n set_list p) λv σ H Q s=>by
  let[d,δ,M,R,r,c,a,q,fin]:=s
  exact #[δ,M,_,c,a,q,λo t u H1 g1 w x y=>#[δ,t,_,c.mono g1,x,y,λi B z g e A h b=>by
   unfold Bt at b
   split at b
   .obtain⟨C,j,e1,e2,b⟩:=b
    obtain rfl:u=.ref _:=w
    obtain rfl:z=.int _:=A
    let[xs,h1,k]:=h _ _ e1
    refine #[_,xs,_,j,rfl,rfl,h1,by rw[<-k.length];exact e2,?_]
    have l:L5 X.K g (upd g _ (.lst (xs.set j v))):=.lst h1
    exact fin _ _ _ _ ((g1.trans e).trans l) (c.mono ((g1.trans e).trans l)) (h.wt h1 (k.set (r.mono (g1.trans e)) j)) b
   .exact b.elim]]
end
section
variable{X:Cx}{pos:Pos}{st:pe}{rest:ri}{t u:MN}
def c7:MN:=λB δ M=>B.nx δ M
def fB(t u:MN):MN:=λB δ M=>t (B.nxt (u B)) δ M
theorem aP:DSs X [] c7:=oG zI λE σ H b=>by let[δ,M,c,a,B,ok,q]:=b;exact(ok.nx _ _ _ _ .refl c a q)
theorem aj(h1:DSt X st t)(d:DSs X rest u):DSs X (st::rest) (fB t u):=oG (wF h1 d) λE σ H b=>by let[δ,M,e,a,B,ok,q]:=b;exact(#[δ,M,e,a,B.nxt (u B),#[λc f h l g i j k=>#[c,f,i,j,B,ok.go g,k],ok.rt,ok.bk,ok.ct],q])
theorem aq(h1:DSt X st t):DSs X [st] t:=Ax h1
def uy:MN:=λ_ _ _=>False
theorem wX:DSt X st uy:=cA yI λE σ H b=>by let[δ,M,c,a,B,ok,q]:=b;exact(q.elim)
theorem vV{c:ri}:DSs X c uy:=oG vq λE σ H b=>by let[δ,M,d,a,B,ok,q]:=b;exact(q.elim)
def dO(te:TD):MN:=λB δ M=>te δ M λ_ a=>B.nx δ a
theorem cu{e:pv}{te:TD}(f:DE X e te)(c:JU e KL pos.line X.env=pure KO:=by rfl):DSt X (.Expr e pos) (dO te):=cA (zg f c) λE σ H b=>by let[δ,M,c,a,B,ok,q]:=b;exact(#[δ,M,_,c,a,q,λd i v H1 g1 j g h=>ok.nx _ _ _ _ g1 (c.mono g1) g h])
def fD(te:TD):MN:=λB δ M=>te δ M B.rt
theorem az{e:pv}{te:TD}(c:DE X e te):DSt X (.Return (KJ e) pos) (fD te):=cA (B1 c) λE σ H b=>by let[δ,M,f,a,B,ok,q]:=b;exact(#[δ,M,_,f,a,q,λd j v H1 g1 g h i=>ok.rt _ _ _ _ g1 g h i])
def f9(c:MI)(t u:MN):MN:=λB δ M=>c δ M λb a=>if b=KN then t B δ a else u B δ a
theorem bw{c:pv}{a b:ri}{tc:MI}(i:DT X c tc)(j:DSs X a t)(k:DSs X b u):DSt X (.If c a b pos) (f9 tc t u):=
 cA (EF i j k) λE σ H d=>by let[δ,M,f,a,B,ok,q]:=d;exact(#[δ,M,_,f,a,q,λc g H1 g1 h e=>by
  cases c with
  |true=>rw[KQ rfl]at e ⊢;exact #[δ,g,f.mono g1,h,B,ok.go g1,e]
  |false=>rw[KP Ib]at e ⊢;exact #[δ,g,f.mono g1,h,B,ok.go g1,e]])
def dw(te:TD)(g:OE):MN:=λB δ M=>te δ M λd a=>g d δ a B.nx
theorem bO{tg e:pv}{te:TD}{g:OE}(f:DE X e te)(h:DG X tg g)(c:swapsWithSole [tg] e pos.line X.env=pure KO:=by rfl)(hw:swappedStores [tg] e X.env=pure KL:=by rfl)
 (h1:(Ku [tg] X.env).map (·.2)=[Kw tg X.env]:=by rfl):DSt X (.Assign [tg] e pos) (dw te g):=
 cA (CC f h c hw h1) λE σ H b=>by let[δ,M,c,a,B,ok,q]:=b;exact(#[δ,M,_,c,a,q,λd i v H1 g1 j k l=>
  #[d,δ,i,B.nx,j,c.mono g1,k,l,λm w n x o p r s=>ok.nx _ _ _ _ (g1.trans o) p r s]])
theorem aB(i:Nat){x:Str}{e:pv}{te:TD}{c:Pos}(g:X.N.Nodup)(h:DE X e te)(j:X.N[i]?=KJ x:=by rfl)(hx:Loc X.env.scope x:=by first|exact Or.inl rfl|exact Or.inr rfl)(f:JU e (KJ (.Name x c)) pos.line X.env=pure KO:=by rfl) (k:X.fn x=KN\/X.env.scope.names.lookup x=KJ .local:=by first|exact .inl rfl|exact .inr rfl|assumption):DSt X (.Assign [.Name x c] e pos) (dw te (aW i)):=cA (DN g j hx h f k) λE σ H b=>by let[δ,M,f,a,B,ok,q]:=b;exact(#[δ,M,_,f,a,q,λd o v H1 g1 l m n=>ok.nx _ _ _ _ g1 ((f.mono g1).set l i) m n])
def Fm(i j:Nat)(a:Ly):MN:=λB δ M=>a δ M λb c=>∃d e,b=[d,e]/\B.nx ((δ.set i (KJ d)).set j (KJ e)) c
theorem ix(i j:Nat){x y:Str}{a b:pv}{o:Ly}{h k pt:Pos}{l m f}(p:X.calm=KN)(r:X.N.Nodup)(s:DA X [a,b] o)(n:i≠j:=by decide)(w:X.N[i]?=KJ x:=by rfl)(A:X.N[j]?=KJ y:=by rfl)
 (hx:X.env.scope.names.lookup x=KJ .local:=by rfl) (hy:X.env.scope.names.lookup y=KJ .local:=by rfl)
 (hw:swappedStores [.Tuple [.Name x h,.Name y k] l pt] (.Tuple [a,b] m f) X.env=pure (KJ [x,y]):=by rfl)
 (g:swapsWithSole [.Tuple [.Name x h,.Name y k] l pt] (.Tuple [a,b] m f) pos.line X.env=pure KO:=by rfl) :
 DSt X (.Assign [.Tuple [.Name x h,.Name y k] l pt] (.Tuple [a,b] m f) pos) (Fm i j o):=
 cA (Dh p r w A n hx hy s hw g) λE σ H c=>by let[δ,M,g,a,B,ok,q]:=c;exact(#[δ,M,_,g,a,q,λK L vs H1 g1 C D F=>by
  let[d,e,z,G]:=F
  subst z
  let[v,u,rfl,I,J]:=gc C
  exact #[v,u,rfl,ok.nx _ _ _ _ g1 (((g.mono g1).set I i).set J j) D G]])
def AH(c:MI)(f:MN):MN:=λB δ M=>∃W:Nat->DS->MH->Prop,(∃m,W m δ M)/\∀m δ M,W m δ M->
 c δ M λb d=>if b=KN then f (B.lp λa g=>∃e,e<m/\W e a g) δ d else B.nx δ d
theorem d6{c:pv}{body:ri}{tc:MI}{G:MN}(J:PassesOwn (HP X.prog X.w) X.A X.env X.xe)(L:DT X c tc)(N:DSs X body G):DSt X (.While c body [] pos) (AH tc G):=
 cA (xQ J L N) λE σ H O=>by
  obtain⟨δ,M,p,a,B,ok,W,⟨m,z⟩,q⟩:=O
  exists λm σ e=>L5 X.K H e/\∃δ M,Slots X.K e δ σ/\Lb X.K e M/\W m δ M,#[m,.refl,δ,M,p,a,z]
  rintro m σ e ⟨g,δ,M,p,a,z⟩
  refine #[δ,M,_,p,a,q m δ M z,λb P H1 g1 I x=>?_]
  cases b with
  |true=>
   rw[KQ rfl]at x ⊢
   refine #[λC D=>∃o,o<m/\(L5 X.K H D/\∃δ M,Slots X.K D δ C/\Lb X.K D M/\W o δ M),λk e h=>h,δ,P,p.mono g1,I,_,?_,x]
   refine #[λf y k e n r s i=>by let[o,l,F]:=i;exact(#[o,l,(g.trans g1).trans n,f,y,r,s,F]),λd M v e n=>ok.rt d M v e ((g.trans g1).trans n),λf y k e n r s Q=>ok.nx _ _ _ _ ((g.trans g1).trans n) r s Q,λf y k e n r s j=>by let[o,l,F]:=j;exact(#[o,l,(g.trans g1).trans n,f,y,r,s,F])]
  |false=>
   rw[KP Ib]at x ⊢
   exact ok.nx _ _ _ _ (g.trans g1) (p.mono g1) I x
inductive W7(g:OE)(tb:MN)(B:EndsD)(n:Nat)(δ0:DS)(M0:MH):Prop
 |mk (W:Nat->DS->MH->Prop) (w0:W 0 δ0 M0) (turn:∀i δ M,i<n->W i δ M->g (.int (i:Int)) δ M λδ2 M2=>tb (B.lp (W (i+1))) δ2 M2) (done:∀δ M,W n δ M->B.nx δ M):W7 g tb B n δ0 M0
inductive W8(g:OE)(tb:MN)(B:EndsD)(ds:r8)(δ0:DS)(M0:MH):Prop
 |mk (n:Nat) (e:ds=[.int (n:Int)]) (q:n<2^60/\W7 g tb B n δ0 M0):W8 g tb B ds δ0 M0
def Cd(a:Ly)(g:OE)(b:MN):MN:=λB δ M=>a δ M λc d=>W8 g b B c δ d
theorem i9{tg e:pv}{body:ri}{I:Ly}{g:OE}{J:MN}{p L:Pos}(N:PassesOwn (HP X.prog X.w) X.A X.env X.xe)(O:X.calm=KN)(P:Gl X "range")(Q:X.mg "range"=KL)(R:DA X [e] I)(S:DG X tg g)(T:DSs X body J)
 (o:HM [e] X.env=[(KO,eval e X.env)]:=by rfl) (U:∀x,Ik (.Call (.Name "range" p) [e] [] L) X.env x=pure x:=by intro _;rfl):DSt X (.For tg (.Call (.Name "range" p) [e] [] L) body [] pos) (Cd I g J):=
 cA (yo N O (mX P Q R o) S T U) λE σ H ⟨δ,M,o,a,B,ok,q⟩=>#[δ,M,_,o,a,q,λds V vs H1 g1 Y Z z9=>by
  let[n,e,hn,W,w0,j,done]:=z9
  subst e
  let[v,rfl,r]:=bP Y
  rw[Rep]at r;subst r
  exists (n:Int),rfl,(),()
  rw[show((n:Int)).toNat=n from by simp]
  refine v5 (λi σ c=>L5 X.K H c/\∃δ M,Slots X.K c δ σ/\Lb X.K c M/\W i δ M) #[g1,δ,V,o.mono g1,Z,w0] ?_ ?_
  .rintro i σ H2 hi ⟨h,δ,M,z,C,D⟩
   refine #[.int (i:Int),δ,M,_,by rw[Rep];simp,z,C,j i δ M hi D,λF M3 a0 H3 s s3 a3 q3=>?_]
   refine #[F,M3,s3,a3,_,?_,q3]
   exact #[λb y k c f l m G=>#[(h.trans s).trans f,b,y,l,m,G],λd M v c f=>ok.rt d M v c ((h.trans s).trans f),λb y k c f l m q'=>ok.nx _ _ _ _ ((h.trans s).trans f) l m q',λb y k c f l m G=>#[(h.trans s).trans f,b,y,l,m,G]]
  .rintro σ H2 ⟨h,δ,M,z,C,D⟩
   exact ok.nx _ _ _ _ h z C (done δ M D)]
end
theorem rj{b:Bool}{A B:Prop}(e:b=KN)(h:A):if b=KN then A else B:=by rw[KQ e];exact h
theorem lW{b:Bool}{A B:Prop}(e:b=KO)(h:B):if b=KN then A else B:=by rw[KP (by rw[e];exact Ib)];exact h
theorem wC{b c:TD}{δ:DS}{M:MH}{Q:DK}(a d:Bool)(f:∀K:DK,K (.bl a) M->b δ M K)(g:a=KN->∀K:DK,K (.bl d) M->c δ M K)(e:Q (.bl (a&&d)) M):wz b c δ M Q:=
 f _ #[a,rfl,by
  cases a with
  |true=>rw[KQ rfl];exact g rfl _ e
  |false=>rw[KP Ib];exact e]
theorem Yq{b c:MI}{δ:DS}{M:MH}{Q:Bool->MH->Prop}(a d:Bool)(f:∀K:Bool->MH->Prop,K a M->b δ M K)(g:a=KO->∀K:Bool->MH->Prop,K d M->c δ M K)(e:Q (a||d) M):Ft b c δ M Q:=
 f _ (by
  cases a with
  |true=>rw[KQ rfl];exact e
  |false=>rw[KP Ib];exact g rfl _ e)
theorem xM{b c:MI}{δ:DS}{M:MH}{Q:Bool->MH->Prop}(a d:Bool)(f:∀K:Bool->MH->Prop,K a M->b δ M K)(g:a=KN->∀K:Bool->MH->Prop,K d M->c δ M K)(e:Q (a&&d) M):Bf b c δ M Q:=
 f _ (by
  cases a with
  |true=>rw[KQ rfl];exact g rfl _ e
  |false=>rw[KP Ib];exact e)
theorem dn{t u:MN}{B:EndsD}{δ:DS}{M:MH}(W:DS->MH->Prop)(c:∀a b,W a b->u B a b)(d:(∀a b,W a b->u B a b)->t (B.nxt (u B)) δ M):fB t u B δ M:=d c
def Sub(b M:MH):Prop:=∀a o,b a=KJ o->M a=KJ o
theorem Sub.refl{M:MH}:Sub M M:=λ_ _ h=>h
theorem Sub.trans{M c M2:MH}(a:Sub M c)(b:Sub c M2):Sub M M2:=λx o h=>b x o (a x o h)
theorem Sub.new{M b:MH}{p:pd}{o:MO}(c:M p=KL)(s:Sub b M):Sub b (au M p o):=λa u h=>by rw[ak (λe=>by subst e;rw[s _ _ h]at c;cases c)];exact s _ _ h
inductive Q6(Q:DK)(d:D)(M:MH):Prop
 |mk (M':MH) (s:Sub M' M) (q:Q d M'):Q6 Q d M
@[reducible] def jV(Q:DK):EndsD:={ nx:=λ_ a=>Q6 Q .non a,rt:=Q6 Q }
theorem Lf{Q:DK}{d:D}{M:MH}(q:Q d M):Q6 Q d M:=#[M,.refl,q]
abbrev Lz:=r8->MH->DK->Prop
def dJ(K:Ht)(sp:Lz):Sp:=λvs H Q _=>∃a M R,aC K H a vs/\Lb K H M/\sp a M R/\Fin K H R Q
def Cal(P:HW)(w:IA)(K:Ht)(mg:Str->Option Hu)(base:pq)(k:Nat)(x:Str)(sp:Lz):Prop:=
 ∃f fd ps,MA P w K mg base Mt k f fd ps (dJ K sp)/\mg x=KJ (.ref f)/\Je K (.ref f)=KN/\Binds K fd ps []
theorem Cal.mono{P:HW}{w:IA}{K:Ht}{mg:Str->Option Hu}{base:pq}{j k:Nat}{x:Str}{sp:Lz}(h:Cal P w K mg base j x sp)(l:j<=k):Cal P w K mg base k x sp:=let⟨f,fd,ps,F,r⟩:=h;#[f,fd,ps,F.mono l,r]
section
variable{X:Cx}{k:Nat}{x:Str}{sp:Lz}{p pos:Pos}{e:pv}{es:ro}{t:Ly}
def sM(sp:Lz)(t:Ly):TD:=λδ M Q=>t δ M λa b=>sp a b Q
theorem ar(C:Cal X.prog X.w X.K X.mg X.base k x sp)(d:La k X.A)(g:DA X (e::es) t)(h:Gl X x:=by rfl)(b:(x==("__debug__":Str))=KO:=by decide)
 (i:HM (e::es) X.env=(KO,eval e X.env)::HM es X.env:=by rfl) (c:(Jc pos (HM es X.env)).any (·.1)=KO:=by rfl):DE X (.Call (.Name x p) (e::es) [] pos) (sM sp t):=by
 let[f,fd,ps,F,j,l,m]:=C
 refine aY (Az F d h j l m .nil tP g b i c) λσ H Q a=>?_
 let[δ,M,R,n,o,q,fin]:=a
 refine #[δ,M,_,n,o,q,λr s vs H1 g1 u v y=>?_]
 show dJ X.K sp (vs++[]) H1 Q E0
 rw[K7]
 exact #[r,s,R,u,v,y,fin.go g1]
end
def cZ(N:rx)(a:r8):DS:=a.map KJ++Im (N.length-a.length) KL
section
variable{P:HW}{w:IA}{K:Ht}{mg:Str->Option Hu}{base:pq}
theorem WI{x qual:Str}{st:pe}{f:pd}{fd:FuncData}{N ps:rx}{k:Nat}{sp:Lz}(F:QB K x qual st f fd)(S:L0 N ps (ao st))(len:∀b M Q,sp b M Q->b.length=ps.length)
 (l:∀X:Cx,X.prog=P->True) (body:∀(cdv:Hu) (A:Iv) (outer:List Env) (s:Hv) (H:Hp) (E:XK),La k (A.deeper (Kv qual (ao st) s.z f cdv))->
  ∃t,DSs (gP Mt P w K mg base N qual (ao st) f cdv A outer s H E).nox (aJ st) t/\∀b M Q,sp b M Q->t (jV Q) (cZ N b) M):MA P w K mg base Mt (k+1) f fd ps (dJ K sp):=by
 refine F.ok S (λvs H Q E c=>by let[b,M,R,m,_,q,_]:=c;rw[<-m.length];exact len _ _ _ q) λcdv A outer s H vs Q E y e=>?_
 let[b,M,R,m,a,q,fin]:=e
 let[t,h,B]:=body cdv A outer s H E y
 refine #[_,h,cZ N b,M,j5 m,a,(jV R),#[λC D G p g I n j=>?_,λd D v p g r n i=>by let[u,o,j]:=i;exact(fin _ _ _ _ g r (n.sub o) j),λ_ _ _ _ _ _ _ z=>z,λ_ _ _ _ _ _ _ z=>z],B b M R q]
 let[u,o,j]:=j
 exact fin .non u .non p g (by rw[Rep]) (n.sub o) j
def Txt(K:Ht)(mg:Str->Option Hu)(x:Str)(st:pe):Prop:=∃f fd,QB K x x st f fd/\mg x=KJ (.ref f)
theorem Txt.mk{h:pq}{x:Str}{st:pe}{f:pd}{oc:Hu}{od an:Option pd}{osl:Array (Option Hu)}{kV b d cdv ct:Hu}(X:K.In h)(G:h.Ns IS mg)(a:Kc K IS x=KJ (KJ (.ref f))) (l:K.lookup f=KJ #[oc,od,.func (IX x x (aX st) (aJ st) (ao st) .none kV b d an cdv ct),osl]) (c:K3 K cdv x=KN) (k:Je K (.ref f)=KN):Txt K mg x st:=#[f,_,oe l c k,PySem.W.mg_of X G a]
theorem vz{x:Str}{st:pe}{N ps:rx}{k:Nat}{sp:Lz}(T:Txt K mg x st)(S:L0 N ps (ao st))
 (c:∀(kV b d:Hu) (an:Option pd) (cdv ct:Hu) (us:List Hu),us.length=ps.length->Ko (IX x x (aX st) (aJ st) (ao st) .none kV b d an cdv ct) #[us,[]]=pure (ps.zip us))
 (len:∀a M Q,sp a M Q->a.length=ps.length)
 (body:∀(f:pd) (cdv:Hu) (A:Iv) (outer:List Env) (s:Hv) (H:Hp) (E:XK),La k (A.deeper (Kv x (ao st) s.z f cdv))->
  ∃t,DSs (gP Mt P w K mg base N x (ao st) f cdv A outer s H E).nox (aJ st) t/\∀a M Q,sp a M Q->t (jV Q) (cZ N a) M):Cal P w K mg base (k+1) x sp:=by
 let[f,fd,F,e]:=T
 exact #[f,fd,ps,WI F S len (λ_ _=>trivial) (body f),e,F.kp,F.binds c]
end
theorem sA:J5 "abs"=KJ (.builtin "abs"):=by decide +kernel
theorem rC:J5 "max"=KJ (.builtin "max"):=by decide +kernel
theorem sO:J5 "min"=KJ (.builtin "min"):=by decide +kernel
theorem cG:J5 "len"=KJ (.builtin "len"):=by decide +kernel
theorem lJ:J5 "tuple"=KJ (.type "tuple"):=by decide +kernel
theorem kX:J5 "list"=KJ (.type "list"):=by decide +kernel
theorem wm:J5 "int"=KJ (.type "int"):=by decide +kernel
section
variable{P:HW}{w:IA}{K:Ht}{mg:Str->Option Hu}
theorem Gv{x:Str}{st:pe}{N:rx}{p:Str}{k:Nat}{sp:Lz}{fa:pd}(T:Txt K mg x st)(c:mg x=KJ (.ref fa))(S:L0 N [p] (ao st))
 (g:∀(kV a d:Hu) (an:Option pd) (cdv ct:Hu) (us:List Hu),us.length=[p].length->Ko (IX x x (aX st) (aJ st) (ao st) .none kV a d an cdv ct) #[us,[]]=pure ([p].zip us))
 (len:∀b M Q,sp b M Q->b.length=[p].length)
 (body:∀(base:pq) (f:pd) (cdv:Hu) (A:Iv) (outer:List Env) (s:Hv) (H:Hp) (E:XK),La k (A.deeper (Kv x (ao st) s.z f cdv))->
  ∃t,DSs (gP Mt P w K mg base N x (ao st) f cdv A outer s H E).nox (aJ st) t/\∀b M Q,sp b M Q->t (jV Q) (cZ N b) M) :
 ∃fd,(∀(s:Hv) (u:Hu),BindsTo s fd #[[u],[]] [(p,u)])/\∀base:pq,MA P w K mg base Mt (k+1) fa fd [p] (dJ K sp):=by
 let[f,fd,F,h]:=T
 have e:=c.symm.trans h
 cases e
 refine #[fd,λs u=>?_,λbase=>WI F S len (λ_ _=>trivial) (body base _)]
 let[oc,od,kV,a,d,an,cdv,ct,osl,rfl,j,i]:=F.ex
 exact .of_eq (g kV a d an cdv ct [u] rfl)
end
end SD
namespace Ma
open PySem PySem.Spec PyProof.Rows L2 SD
abbrev fr(q:Rat):D:=.tup [.int q.num,.int (q.den:Int)]
theorem den_pos(q:Rat):(0:Int)<(q.den:Int):=by have:=q.den_pos;omega
def Bq(n:Nat)(q:Rat):Prop:=Bd n q.num/\Bd n (q.den:Int)
theorem Bq.mono{m n:Nat}{q:Rat}(h:Bq m q)(l:m<=n):Bq n q:=#[h.1.mono l,h.2.mono l]
theorem qf{t b:Int}(a:0<b):t.fdiv b=t/b:=IK _ ()
theorem fdiv_neg{t b:Int}(hd:b ∣ t)(d:0<b):t.fdiv (-b)=-(t/b):=by
 let[c,rfl]:=hd;have a:b≠0:=()
 rw[Int.mul_ediv_cancel_left _ a];have:b*c=-b * -c:=by rw[Int.neg_mul_neg]
 rw[this];exact Int.mul_fdiv_cancel_left _ ()
theorem tD(t b:Int):((Kl t.natAbs b.natAbs:Nat):Int) ∣ t:=Int.ofNat_dvd_left.mpr (Nat.gcd_dvd_left _ _)
theorem tm(t b:Int):((Kl t.natAbs b.natAbs:Nat):Int) ∣ b:=Int.ofNat_dvd_left.mpr (Nat.gcd_dvd_right _ _)
theorem nk(t b:Int):Int.gcd b t=Kl t.natAbs b.natAbs:=by unfold Int.gcd;exact Nat.gcd_comm _ _
theorem fF{t b:Int}(a:b≠0):0<Kl t.natAbs b.natAbs:=Nat.gcd_pos_of_pos_right _ ()
theorem tV{t b:Int}(a:0<b):t.fdiv (Kl t.natAbs b.natAbs:Nat)=(Rat.divInt t b).num/\b.fdiv (Kl t.natAbs b.natAbs:Nat)=((Rat.divInt t b).den:Int):=by
 have c:=fF (t:=t) (b:=b) ();rw[qf (),qf (),Rat.num_divInt,Rat.den_divInt,KP (),IE a,Int.one_mul,nk];exists rfl;rw[Int.natCast_ediv]
 congr 1
 omega
theorem zN{t b:Int}(a:b<0):t.fdiv (-((Kl t.natAbs b.natAbs:Nat):Int))=(Rat.divInt t b).num/\b.fdiv (-((Kl t.natAbs b.natAbs:Nat):Int))=((Rat.divInt t b).den:Int):=by
 have c:=fF (t:=t) (b:=b) ();rw[fdiv_neg (tD t b) (),fdiv_neg (tm t b) (),Rat.num_divInt,Rat.den_divInt,KP (),Ir a,nk];constructor
 .rw[show(-1:Int)*t=-t from by omega,Int.neg_ediv_of_dvd (tD t b)]
 .rw[Int.natCast_ediv,show((b.natAbs:Nat):Int)=-b from by omega,Int.neg_ediv_of_dvd (tm t b)]
theorem sQ{t b:Int}(a:b≠0):(Rat.divInt t b).num.natAbs<=t.natAbs/\(Rat.divInt t b).den<=b.natAbs:=by
 constructor
 .rw[Rat.num_divInt];refine ID (Int.natAbs_ediv_le_natAbs _ _) ?_;rw[Int.natAbs_mul];rcases Ih b 0 with h|h|h
  .rw[Ir h];simp
  .exact absurd h a
  .rw[IE h];simp
 .rw[Rat.den_divInt,KP a];exact Nat.div_le_self _ _
theorem Bq.divInt{n:Nat}{t b:Int}(a:b≠0)(h1:Bd n t)(c:Bd n b):Bq n (Rat.divInt t b):=by let[d,e]:=sQ (t:=t) a;exact #[Nat.lt_of_le_of_lt d h1,Nat.lt_of_le_of_lt ‹e› c]
theorem tY(x y:Nat):Int.fmod (x:Int) (y:Int)=((x%y:Nat):Int):=by rw[Int.fmod_eq_emod_of_nonneg _ ()];rfl
theorem sC(q r:Rat):J0 (.tuple [.int q.num,.int (q.den:Int)]) (.tuple [.int r.num,.int (r.den:Int)])=decide (q=r):=by
 simp only[J0,Jl,Bool.and_true];by_cases h:q=r
 .subst h;simp
 .rw[KR h];rw[Bool.eq_false_iff];intro z;rw[Ji,beq_iff_eq,beq_iff_eq]at z;exact h (Rat.ext z.1 (by have:=z.2;omega))
theorem Fu(q r:Rat):decide (q.num*(r.den:Int)<r.num*(q.den:Int))=decide (q<r):=by rw[KU,Rat.lt_iff]
abbrev spt(a b:Rat):D:=.tup [fr a,fr b]
theorem kI(a b c d:Rat):J0 (.tuple [.tuple [.int a.num,.int (a.den:Int)],.tuple [.int b.num,.int (b.den:Int)]]) (.tuple [.tuple [.int c.num,.int (c.den:Int)],.tuple [.int d.num,.int (d.den:Int)]])=decide (a=c/\b=d):=by rw[J0,Jl,Jl,Jl,sC,sC,Bool.and_true,Bool.decide_and]
theorem iJ(q:Rat):(q.den:Int)≠0:=by have:=q.den_pos;omega
theorem sub_eq(q r:Rat):Rat.divInt (q.num*(r.den:Int)-r.num*(q.den:Int)) ((q.den:Int)*(r.den:Int))=q-r:=by rw[<-Rat.divInt_sub_divInt _ _ (iJ q) (iJ r),Rat.num_divInt_den,Rat.num_divInt_den]
theorem uH(q r:Rat):(q.den:Int)*(r.den:Int)≠0:=Int.mul_ne_zero (iJ q) (iJ r)
theorem Bq.sZ{n:Nat}{q r:Rat}(a:Bq n q)(b:Bq n r):Bd (2*n+1) (q.num*(r.den:Int)-r.num*(q.den:Int)):=((a.1.mul b.2).sub (b.1.mul a.2)).mono ()
def sgn(z:Rat):Int:=if 0<z then 1 else if z<0 then -1 else 0
def cr(a b c d x y:Rat):Rat:=(c-a)*(y-b)-(d-b)*(x-a)
abbrev wll(a b c d:Rat):D:=.tup [spt a b,spt c d]
def ah(a b c d:Rat):Prop:=a<c\/a=c/\b<d
instance(a b c d:Rat):Decidable (ah a b c d):=inferInstanceAs (Decidable (_\/_))
theorem pos_int{i:Int}(h:0<i):(0:Rat)<(i:Rat):=by rw[Rat.lt_iff];simpa using h
end Ma
namespace SD
open PySem PySem.Spec PyProof.Rows L2
def eG(names:List (Str×K1))(env:Env):List (Str×pd):=(names.filter λy=>y.2==.free).reverse.map λy=>(y.1,(env.cells.lookup y.1).getD 0)
theorem ml{scope:JH}{env:Env}(h:∀y∈scope.names,y.2=.free->∃c,env.cells.lookup y.1=KJ c):closureFor scope env=pure (eG scope.names env):=by
 have key:∀(names:List (Str×K1)) (b:List (Str×pd)),(∀y∈names,y.2=.free->∃c,env.cells.lookup y.1=KJ c)->
  (forIn names b (λ(x:Str×K1) (r:List (Str×pd))=>if(x.2==Kf)=KN then do let a <-cellOf env x.1;pure (K9 ((x.1,a)::r))else pure (K9 r)):Sem (List (Str×pd)))=pure (eG names env++b):=by
  intro names
  induction names with
  |nil=>intro b _;rfl
  |cons y i f=>
   intro b hy
   let[n,k]:=y
   rw[List.forIn_cons]
   by_cases d:(k==Kf)=KN
   .obtain⟨c,g⟩:=hy (n,k) (Ki ..) ‹d›
    have e1:cellOf env n=pure c:=by unfold cellOf;rw[g]
    dsimp only
    rw[KQ d,e1]
    simp only[pure_bind]
    rw[f _ λy e=>hy y (J6 _ e)]
    unfold eG
    rw[List.filter_cons_of_pos ‹d›,List.reverse_cons,Iu,Kq]
    simp[g]
   .dsimp only
    rw[KP d]
    simp only[pure_bind]
    rw[f _ λy e=>hy y (J6 _ e)]
    unfold eG
    rw[List.filter_cons_of_neg ‹d›]
 have:=key scope.names [] h;rw[K7]at this;unfold closureFor;exact Eq.trans (congrArg (λt:Sem (List (Str×pd))=>t >>= λcs=>pure cs) this) rfl
theorem pD{env:Env}{y:Str}{c:pd}:∀{names:List (Str×K1)},(∀z∈names,z.2=.free->∃c,env.cells.lookup z.1=KJ c)->(eG names env).lookup y=KJ c->env.cells.lookup y=KJ c:=by intro names h e;have b:=Iy e;unfold eG at b;let[z,a,e2]:=IZ.mp b;rw[List.mem_reverse,Iw]at a;let[f,d]:=h z a.1 ‹a.2›;rw[d]at e2;cases e2;exact d
theorem oX{env:Env}{y:Str}{names:List (Str×K1)}(a:(y,Kf)∈names):∃c,(eG names env).lookup y=KJ c:=by
 cases e:(eG names env).lookup y with
 |some c=>exact #[c,rfl]
 |none=>
  have:=List.lookup_eq_none_iff.mp e (y,(env.cells.lookup y).getD 0) (IZ.mpr #[(y,.free),List.mem_reverse.mpr (Iw.mpr #[a,rfl]),rfl])
  simp at this
theorem gm{env:Env}(c:env.scope.kind=.function):∀{names:List (Str×K1)} {y:Str} {k:K1},
 (names.map λ(n,k)=>if(k==Kf&&env.scope.kind==.function&&env.kindOf n==KJ .cell)then(n,NameKind.cell)else(n,k)).lookup y=KJ k->
  names.lookup y=KJ k\/(k=.cell/\names.lookup y=KJ .free)
 |[],_,_,h=>by simp at h
 |(n,q)::r,y,k,h=>by
  have d:=@gm env c r y k
  rw[HI]at h
  dsimp only at h
  by_cases hy:(y==n)=KN
  .by_cases b:(q==Kf&&env.scope.kind==.function&&env.kindOf n==KJ .cell)=KN
   .rw[KQ b,Jj,hy]at h
    have e:q=.free:=by
     rw[Ji,Ji]at b
     simpa using b.1.1
    cases h
    right
    exact #[rfl,by rw[Jj,hy,e]]
   .rw[KP b,Jj,hy]at h
    left
    rw[Jj,hy];exact h
  .have a:(y==n)=KO:=‹hy›
   have f:(r.map λ(n,k)=>if(k==Kf&&env.scope.kind==.function&&env.kindOf n==KJ .cell)then(n,NameKind.cell)else(n,k)).lookup y=KJ k:=by
    split at h
    .rw[Jj,a]at h;exact h
    .rw[Jj,a]at h;exact h
   rw[Jj,a]
   exact d f
theorem mi{X:Cx}{tg a:pv}{c b:TI}(h:PI X tg a c)(k:∀σ H R,b σ H R->c σ H R):PI X tg a b:=λKZ s σ H R I q=>h KZ s σ H R I (k _ _ _ q)
def Hg(K:Ht)(b:TE):TI:=λσ H R=>b σ H λx H1=>∃a,x=.ref a/\(((∃xs,Ln K H1 a xs)/\R (ZC K a) H1)\/((∃xs,Lm K H1 a xs)/\R (ZA K a) H1))
theorem Cy{X:Cx}{tg l:pv}{j:TE}(k:PE X l j):PI X tg l (Hg X.K j):=by
 intro KZ s σ H R I h;refine Lc (k KZ s σ H _ I h) λv c d=>?_;let[x,H1,f,m,n]:=d;let[a,e,z]:=n;subst e;cases m
 have fp:∀b∈[c.z],cH X KZ H1 b:=λb r=>by
  obtain rfl:b=c.z:=‹r›
  exact f.pH (HD _) (f.hok.fresh (HD _))
 rcases z with⟨⟨xs,i⟩,q⟩|⟨⟨xs,i⟩,q⟩
 .obtain⟨g,t,p,u⟩:=f.list i;exact wpAny_pyIter_list p.isList #[_,[c.z],_,_,H1,rfl,f.kept (t':=c.toks) λb o e=>Hx _ e,vH a _,#[_,HG _ rfl,rfl,rfl],fp,q]
 .obtain⟨g,t,p,u⟩:=f.tuple i;exact wpAny_pyIter_tuple (show c.heap.IsTuple a g.toArray from p) #[_,[c.z],_,_,H1,rfl,f.kept (t':=c.toks) λb o e=>Hx _ e,rW a _,#[_,HG _ rfl,rfl,rfl],fp,q]
structure OY where
 n:Nat
 item:Nat->r_
 C:MH->Prop
abbrev My:=DS->MH->(OY->MH->Prop)->Prop
structure W5(K:Ht)(H1:Hp)(I:OY)(J:It):Prop where
 stop:∀H2 M2,L5 K H1 H2->Lb K H2 M2->I.C M2->J.stop I.n H2
 go:∀i H2 M2,i<I.n->L5 K H1 H2->Lb K H2 M2->I.C M2->J.go i H2
 yld:∀i H2 M2 v H3,i<I.n->L5 K H1 H2->Lb K H2 M2->I.C M2->J.yld i H2 v H3->L5 K H2 H3/\Lb K H3 M2/\∃d,I.item i=KJ d/\Rep K H3 d v
def lL(K:Ht)(t:My):TI:=λσ H R=>∃δ M b,Slots K H δ σ/\Lb K H M/\t δ M b/\∀I c a J,L5 K H a->Lb K a c->b I c->W5 K a I J->R J a
namespace Zq
@[scoped irreducible]def _root_.SD.DI(X:Cx)(tg a:pv)(t:My):Prop:=PI X tg a (lL X.K t)
end Zq
def Cc(M:MH):D->r8->Prop
 |.tup ds,es=>es=ds
 |.rol ds,es=>es=ds
 |.ref a,es=>M a=KJ (.lst es)
 |_,_=>False
inductive Yv(ds:r8)(M:MH)(R:OY->MH->Prop):Prop
 |mk (n:Nat) (h:ds=[.int (n:Int)]) (q:n<2^60/\R #[n,λi=>KJ (.int (i:Int)),λ_=>True] M):Yv ds M R
inductive Yu(d:D)(M:MH)(R:OY->MH->Prop):Prop
 |mk (ds:r8) (h:Cc M d ds) (q:R #[ds.length,λi=>ds[i]?,λM=>Cc M d ds] M):Yu d M R
def F4(a:Ly):My:=λδ M R=>a δ M λb c=>Yv b c R
def Hi(a:TD):My:=λδ M R=>a δ M λd b=>Yu d b R
section
variable{X:Cx}{tg:pv}
theorem gU{a:pv}{c:Ly}{p pos:Pos}(f:Gl X "range")(g:X.mg "range"=KL)(h:DA X [a] c)(b:HM [a] X.env=[(KO,eval a X.env)]:=by rfl):DI X tg (.Call (.Name "range" p) [a] [] pos) (F4 c):=
 mi (mX f g h b) λσ H R j=>by
  let[δ,M,w,b,k,q,fin]:=j
  exact #[δ,M,_,b,k,q,λx l vs H1 g1 m o s=>by
   let[n,e,y,t]:=s
   subst e
   let[v,rfl,r]:=bP m
   rw[Rep]at r;subst r
   refine #[(n:Int),rfl,(),(),fin _ l H1 _ g1 o t #[λ_ _ _ _ _=>by show((n:Int)).toNat<=n;simp,λi _ _ d _ _ _=>by show i<((n:Int)).toNat;simpa using d,?_]]
   rintro i z A v B d C u _ ⟨rfl,rfl⟩
   exact #[.refl,u,7,by rw[Rep];simp]]
theorem aN{l:pv}{C:TD}(E:DE X l C):DI X tg l (Hi C):=
 mi (Cy E) λσ H R F=>by
  let[δ,M,K,G,I,q,fin]:=F
  exact #[δ,M,_,G,I,q,λd u v H1 g1 p w J=>by
   let[e,y,z]:=J
   cases d with
   |tup A=>
    obtain rfl:e=A:=y
    rw[Rep]at p
    let[a,xs,rfl,j,k]:=p
    refine #[a,rfl,.inr #[#[xs,j],fin _ u H1 _ g1 w z #[λm _ c _ _=>#[xs,c.t _ _ j,by rw[k.length];exact HD _],λi m _ b c _ _=>?_,?_]]]
    .have g:i<xs.length:=by rw[<-k.length];exact b
     exact #[xs,xs[i],c.t _ _ j,by simp[g]]
    .rintro i m n v D b c h _ ⟨rfl,hy⟩
     have b:i<e.length:=b
     let[x,e1,e2]:=(k.mono c).get (show e[i]?=KJ e[i] by simp[b])
     have:=hy xs (c.t _ _ j)
     rw[e1]at this;cases this
     exact #[.refl,h,_,by simp[b],e2]
   |rol A=>
    obtain rfl:e=A:=y
    rw[Rep]at p
    let[a,xs,rfl,j,k]:=p
    refine #[a,rfl,.inl #[#[xs,j.sql],fin _ u H1 _ g1 w z #[λm _ c _ _=>#[xs,(c.f _ _ j).sql,by rw[k.length];exact HD _],λi m _ b c _ _=>?_,?_]]]
    .have g:i<xs.length:=by rw[<-k.length];exact b
     exact #[xs,xs[i],(c.f _ _ j).sql,by simp[g]]
    .rintro i m n v D b c h _ ⟨rfl,hy⟩
     have b:i<e.length:=b
     let[x,e1,e2]:=(k.mono c).get (show e[i]?=KJ e[i] by simp[b])
     have:=hy xs (c.f _ _ j).sql
     rw[e1]at this;cases this
     exact #[.refl,h,_,by simp[b],e2]
   |ref a=>
    rw[Rep]at p;subst p
    let[xs,hx,k]:=w _ _ (show u a=KJ (.lst e)from y)
    refine #[a,rfl,.inl #[#[xs,Ln.of hx],fin _ u H1 _ g1 w z #[λm n c h r=>?_,λi m n b c h r=>?_,?_]]]
    .obtain⟨o,hy,s⟩:=h _ _ (show n a=KJ (.lst e)from r)
     exact #[o,Ln.of hy,by rw[s.length];exact HD _]
    .obtain⟨o,hy,s⟩:=h _ _ (show n a=KJ (.lst e)from r)
     have g:i<o.length:=by rw[<-s.length];exact b
     exact #[o,o[i],Ln.of hy,by simp[g]]
    .rintro i m n v D b c h r ⟨rfl,hy⟩
     have b:i<e.length:=b
     let[o,B,s]:=h _ _ (show n a=KJ (.lst e)from r)
     let[x,e1,e2]:=s.get (show e[i]?=KJ e[i] by simp[b])
     have:=hy o (Ln.of B)
     rw[e1]at this;cases this
     exact #[.refl,h,_,by simp[b],e2]
   |_=>exact y.elim]
inductive W9(g:OE)(tb:MN)(B:EndsD)(I:OY)(δ0:DS)(M0:MH):Prop
 |mk (W:Nat->DS->MH->Prop) (w0:W 0 δ0 M0) (hC:∀i δ M,i<=I.n->W i δ M->I.C M) (turn:∀i d δ M,i<I.n->I.item i=KJ d->W i δ M->g d δ M λδ2 M2=>tb (B.lp (W (i+1))) δ2 M2) (done:∀δ M,W I.n δ M->B.nx δ M):W9 g tb B I δ0 M0
def Gm(a:My)(g:OE)(b:MN):MN:=λB δ M=>a δ M λI c=>W9 g b B I δ c
theorem bD{b:pv}{body:ri}{Q:My}{g:OE}{R:MN}{pos:Pos}(V:PassesOwn (HP X.prog X.w) X.A X.env X.xe)(Y:X.calm=KN)(p:DI X tg b Q)(Z:DG X tg g)(hb:DSs X body R)
 (hf:∀x,Ik b X.env x=pure x:=by intro _;rfl):DSt X (.For tg b body [] pos) (Gm Q g R):=
 cA (yo V Y p Z hb hf) λE σ H ⟨δ,M,S,a,B,ok,q⟩=>#[δ,M,_,S,a,q,λI M1 H1 J g1 a1 z9 N=>by
  let[W,w0,hC,r,done]:=z9
  refine #[λi m σ h=>m=I.n-i/\i<=I.n/\L5 X.K H1 h/\∃δ M,Slots X.K h δ σ/\Lb X.K h M/\W i δ M,#[I.n,by simp,J3 _,.refl,δ,M1,S.mono g1,a1,w0],?_]
  rintro i m σ h ⟨rfl,p,s,j,l,T,D,t⟩
  by_cases e:i<I.n
  .refine .inr #[N.go i h l e s D (hC _ _ _ p t),λc o=>L5 X.K H1 o/\∃δ M,Slots X.K o δ c/\Lb X.K o M/\W (i+1) δ M,λc o z=>#[I.n-(i+1),(),rfl,e,z],λx o y=>?_]
   let[U,a3,d,ed,rd]:=N.yld i h l x o e s D (hC _ _ _ p t) y
   refine #[d,j,l,_,rd,T.mono U,a3,r i d j l e ed t,λO M4 a0 H4 g4 s4 a4 q4=>#[O,M4,s4,a4,_,?_,q4]]
   have G:L5 X.K H1 H4:=(s.trans U).trans g4
   exact #[λf F c L k u C P=>#[G.trans k,f,F,u,C,P],λd M v L k=>ok.rt d M v L ((g1.trans G).trans k),λf F c L k u C q'=>ok.nx _ _ _ _ ((g1.trans G).trans k) u C q',λf F c L k u C P=>#[G.trans k,f,F,u,C,P]]
  .obtain rfl:i=I.n:=()
   exact .inl #[N.stop h l s D (hC _ _ _ p t),ok.nx _ _ _ _ (g1.trans s) T D (done j l t)]]
def FJ(i:Nat)(te:TD)(f:Int->Int->Int):MN:=λB δ M=>∃k,δ[i]?=KJ (KJ (.int k))/\te δ M λy a=>∃j,y=.int j/\B.nx (δ.set i (KJ (.int (f k j)))) a
theorem rA(i:Nat){x:Str}{e:pv}{te:TD}{op:Operator}{f:Int->Int->Int}{pos c:Pos}(h:X.N.Nodup)(l:Wm X op (Yb f))(m:DE X e te)(n:X.N[i]?=KJ x:=by rfl)(hx:Loc X.env.scope x:=by first|exact Or.inl rfl|exact Or.inr rfl)
 (o:X.fn x=KN\/X.env.scope.names.lookup x=KJ .local:=by first|exact .inl rfl|exact .inr rfl|assumption):DSt X (.AugAssign (.Name x c) op e pos) (FJ i te f):=
 cA (D6 h n hx m l o) λE σ H p=>by
  let[δ,M,d,a,B,ok,k,e1,q]:=p
  let[v,e2,r]:=d.at' i _ e1
  rw[Rep]at r;subst r
  refine #[_,e2,δ,M,_,d,a,q,λy z u H1 g1 g s b=>?_]
  let[j,t,w]:=b
  subst t
  rw[Rep]at g;subst g
  exact #[k,j,rfl,rfl,ok.nx _ _ _ _ g1 ((d.mono g1).set (by rw[Rep]) i) s w]
end
def hv(n:Nat):Nat:=if n=0 then 0 else n.log2+1
theorem By(f n:Nat):2^f<=n↔f<hv n:=by
 unfold hv;split
 .rename_i h;subst h;have:0<2^f:=Nat.pow_pos ⋯;omega
 .rename_i h;rw[Nat.lt_succ_iff,Nat.le_log2 h]
end SD
namespace Ma
open SD
theorem lB{a b:Int}(h:0<b):0<Rat.divInt a b↔0<a:=by
 have h1:=Rat.divInt_nonneg_iff_of_pos_right (a:=-a) h;rw[<-Rat.neg_divInt]at h1;have:¬(0<=-Rat.divInt a b)↔0<Rat.divInt a b:=by constructor<;>intro z<;>grind
 rw[<-this,h1];omega
theorem sH{a b:Int}(h:0<b):Rat.divInt a b<0↔a<0:=by
 have h1:=Rat.divInt_nonneg_iff_of_pos_right (a:=a) h;have:¬(0<=Rat.divInt a b)↔Rat.divInt a b<0:=by constructor<;>intro z<;>grind
 rw[<-this,h1];omega
theorem zA{t b:Int}(h:0<b):sgn (Rat.divInt t b)=if 0<t then 1 else if t<0 then -1 else 0:=by unfold sgn;simp only[lB h,sH h]
theorem AJ(a b c d x y:Rat) :
 Rat.divInt ((c.num*(a.den:Int)-a.num*(c.den:Int))*(y.num*(b.den:Int)-b.num*(y.den:Int))*((d.den:Int)*(b.den:Int)*((x.den:Int)*(a.den:Int))) -
  (d.num*(b.den:Int)-b.num*(d.den:Int))*(x.num*(a.den:Int)-a.num*(x.den:Int))*((c.den:Int)*(a.den:Int)*((y.den:Int)*(b.den:Int))))
  ((c.den:Int)*(a.den:Int)*((y.den:Int)*(b.den:Int))*((d.den:Int)*(b.den:Int)*((x.den:Int)*(a.den:Int))))=cr a b c d x y:=by
 rw[<-Rat.divInt_sub_divInt _ _ (Int.mul_ne_zero (uH c a) (uH y b)) (Int.mul_ne_zero (uH d b) (uH x a)),<-Rat.divInt_mul_divInt,<-Rat.divInt_mul_divInt,sub_eq,sub_eq,sub_eq,sub_eq]
 rfl
end Ma
namespace SD
open PySem PySem.Spec PyProof.Rows L2
abbrev MJ:Hu->Hv->Prop:=λ_ _=>False
def cN(X:Cx)(xs:rx)(js:q7):rx:=xs++js.map λj=>(X.N[j]?).getD ("":Str)
def cσ(os:L2.St)(js:q7)(σ:L2.St):L2.St:=os++js.map λj=>(σ[j]?).join
theorem cM:∀(names:List (Str×K1)) (n:Nat) (a:List (Str×pd)),JD n names a=JD n names []++a
 |[],_,_=>rfl
 |(x,k)::r,n,a=>by
  unfold JD
  split
  .rw[cM r (n+1) ((x,n)::a),cM r (n+1) [(x,n)],Kq];rfl
  .exact cM r n a
theorem ju:∀(names:List (Str×K1)) (n:Nat) {y:Str} {c:pd},(y,c)∈JD n names []->(y,NameKind.cell)∈names
 |[],_,_,_,h=>by cases h
 |(x,k)::r,n,y,c,h=>by
  unfold JD at h
  split at h
  .rename_i hk
   rw[cM]at h
   rcases HX.mp h with h|h
   .exact J6 _ (ju r _ h)
   .have e:(y,c)=(x,n):=‹h›
    cases e
    obtain rfl:k=.cell:=‹hk›
    exact Ki
  .exact J6 _ (ju r _ h)
theorem pM{l r:List (Str×pd)}{y:Str}{c:pd}(h:(l++r).lookup y=KJ c):l.lookup y=KJ c\/(l.lookup y=KL/\r.lookup y=KJ c):=by
 rw[List.lookup_append]at h;cases e:l.lookup y with
 |some a=>rw[e]at h;exact .inl h
 |none=>rw[e]at h;exact .inr #[rfl,h]
theorem yV{env:Env}{y:Str}{c:pd}{names:List (Str×K1)}(h:(eG names env).lookup y=KJ c):(y,Kf)∈names:=by
 have b:=Iy h;unfold eG at b;let[z,a,e]:=IZ.mp b;rw[List.mem_reverse,Iw]at a;let[n,k]:=z;obtain rfl:k=.free:=‹a.2›
 cases e;exact a.1
theorem fX{env:Env}{k:K1}(b:k≠.free):∀{names:List (Str×K1)} {x:Str},names.lookup x=KJ k->
 (names.map λ(n,k)=>if(k==Kf&&env.scope.kind==.function&&env.kindOf n==KJ .cell)then(n,NameKind.cell)else(n,k)).lookup x=KJ k
 |[],_,h=>by simp at h
 |(n,q)::r,x,h=>by
  have c:=@fX env k b r x
  rw[HI]
  dsimp only
  by_cases hx:(x==n)=KN
  .rw[Jj,hx]at h
   cases h
   rw[KP (by intro z;rw[Ji,Ji]at z;exact b ‹z.1.1›),Jj,hx]
  .have a:(x==n)=KO:=‹hx›
   rw[Jj,a]at h
   split<;>(rw[Jj,a];exact c h)
theorem nR{M:Model}{A:Iv}{E:Hu->Hv->Prop}{s:Hv}{scope:JH}{globals:pd}{cl:List (Str×pd)}{qual:Str}{env:Env}{Q:Env->Hv->Prop} (h:Q { scope:=scope,locals:=s.z,globals:=globals,cells:=JD (s.z+1) scope.names cl,qual:=qual,func:=KL,code:=env.code,frame:=env.frame,builtins:=env.builtins } { s with heap:=pushCells (s.heap.push { cls:=.type "dict",data:=.dict #[] }) scope.names }) : HJ M A (newFunctionEnv scope globals cl [] qual KL .none (KJ env)) Q E s:=by simp only[newFunctionEnv,Option.isSome_some,if_true];refine cc (wpAny_alloc ?_);refine cc (wpAny_layCells _ (λname kind cells=>by cases a:kind==NameKind.cell<;>simp[a]) _ _ _ _ ?_);rw[show({ s with heap:=s.heap.push { cls:=.type "dict",data:=.dict #[] } }:Hv).heap.objs.size=s.z+1 from Jf ..];refine cc ?_;rw[List.forIn_nil];exact Hz (Hz h)
def ko(scope:JH)(C:pd)(env:Env):Env:=
 { scope:=relabel scope env,locals:=C,globals:=env.globals,cells:=JD (C+1) scope.names (eG scope.names env),qual:=env.qual,func:=KL,code:=env.code,frame:=env.frame,builtins:=env.builtins }
def Lg(X:Cx)(xs:rx)(js:q7)(scope:JH)(C:pd)(s:Hv)(H:Hp)(fp:rq):Cx where
 prog:=X.prog
 w:=X.w
 K:=X.K
 mg:=X.mg
 base:=X.base
 A:=X.A
 N:=cN X xs js
 s₀:=s
 H₀:=H
 env:=ko scope C X.env
 outer:=X.stack
 stack:=X.stack
 ex:=fp
 fn:=λy=>xs.contains y
 calm:=X.calm
 pn:=[]
 xe:=λ_ _=>False
structure L4(X:Cx)(xs:rx)(js:q7)(scope:JH):Prop where
 kind:scope.kind=.function
 cell:∀y∈scope.names,y.2=.cell->y.1∈xs
 free':∀y∈scope.names,y.2=.free->y.1∉xs
 names:∀y∈scope.names,y.2=.local->scope.names.lookup y.1=KJ .local
 own:∀x∈xs,scope.names.lookup x=KJ .local\/scope.names.lookup x=KJ .cell
 out:∀y∈scope.names,y.2=.free->X.env.kindOf y.1=KJ .cell\/X.env.kindOf y.1=KJ .free
 nd:(cN X xs js).Nodup
 js:∀j∈js,scope.names.lookup ((X.N[j]?).getD ("":Str))≠KJ .local
section
variable{X:Cx}{xs:rx}{js:q7}{scope:JH}{KZ:p4}{σ:L2.St}{H:Hp}{s:Hv}{fp:rq}
theorem L4.cells(c:L4 X xs js scope)(ok:X.Ok):∀y∈scope.names,y.2=.free->∃a,X.env.cells.lookup y.1=KJ a:=λy hy b=>ok.has _ (c.out y hy b)
theorem L4.wB(c:L4 X xs js scope)(ok:X.Ok):closureFor scope X.env=pure (eG scope.names X.env):=ml (c.cells ok)
theorem L4.kindOf(c:L4 X xs js scope)(ok:X.Ok){C:pd}{y:Str}{k:K1}(e:(ko scope C X.env).kindOf y=KJ k):scope.names.lookup y=KJ k\/(k=.cell/\scope.names.lookup y=KJ .free):=gm ok.kind e
theorem lI(c:L4 X xs js scope)(I:Inv X KZ σ H s)(F:∀b∈fp,cH X KZ H b)(x:∀b∈fp,b<s.z){h':pq}(O:h'=pushCells (s.heap.push { cls:=.type "dict",data:=.dict #[] }) scope.names)(k:∀b o,s.heap.get? b=KJ o->h'.get? b=KJ o) :
 Inv (Lg X xs js scope s.z s H fp) [] (cσ (Im xs.length KL) js σ) H { s with heap:=h' }:=by
 have ok:=I.ok
 have U:h'.Ns s.z λ_=>KL:=by rw[O];exact(Heap.Ns.new s.heap (.type "dict")).keeps (pushCells_keeps _ _)
 have g:CellsOk h' (s.z+1) (JD (s.z+1) scope.names []):=by
  have:=cellsFrom_ok scope.names (s.heap.push { cls:=.type "dict",data:=.dict #[] }) (s.z+1) [] #[λ_ _ A=>(nomatch A),List.Pairwise.nil] (by rw[Jf];exact HD _)
  rw[Jf]at this
  rw[O];exact this
 have cl:∀{y:Str} {a:pd},(eG scope.names X.env).lookup y=KJ a->X.env.cells.lookup y=KJ a:=λe=>pD (c.cells ok) e
 have B:∀{y:Str} {a:pd},X.env.cells.lookup y=KJ a->a<s.z:=λe=>by let[v,z]:=I.cell _ _ e;exact z.lt
 have d:∀{y:Str} {a:pd},(ko scope s.z X.env).cells.lookup y=KJ a->((y,a)∈JD (s.z+1) scope.names []/\s.z<a)\/X.env.cells.lookup y=KJ a:=λ{y a} e=>by
  have e:(JD (s.z+1) scope.names (eG scope.names X.env)).lookup y=KJ a:=e
  rw[cM]at e
  rcases pM e with z|⟨_,z⟩
  .exact .inl #[Iy z,(g.empty _ _ (Iy z)).2]
  .exact .inr (cl z)
 have free:∀{y:Str},(ko scope s.z X.env).kindOf y=KJ .cell\/(ko scope s.z X.env).kindOf y=KJ .free->scope.names.lookup y=KJ .cell\/scope.names.lookup y=KJ .free:=λ{y} e=>by
  rcases e with e|e
  .rcases c.kindOf ok e with z|⟨_,z⟩
   .exact .inl z
   .exact .inr z
  .rcases c.kindOf ok e with z|⟨z,_⟩
   .exact .inr z
   .cases z
 refine #[#[ok.mod,c.kind,ok.glob,ok.blt,HD _,λy z a h1 f=>?_,λy hy=>?_,λy a h e=>?_,ok.hd,ok.frames,.inl rfl,λb t=>#[Ip (x b t),λy a e=>?_],
  I.bs,ID ok.bsz I.sz,λb o e t=>?_,λb t=>?_,I.stack,I.tW],rfl,I.bare,Un.kept k,?_,λy a e=>?_,I.hok.fresh (HD _),λy a e=>?_,λp W=>absurd (show p∈([]:p4)from W) (by simp),I.hok.kept k,?_]
 .rcases d h1 with⟨Y,l1⟩|P<;>rcases d f with⟨Z,l2⟩|Q
  .exact name_of_addr g.apart Y Z
  .exact absurd (B Q) (Nat.not_lt.mpr (Kn l1))
  .exact absurd (B P) (Nat.not_lt.mpr (Kn l2))
  .exact ok.inj y z a P Q
 .show ∃c,(JD (s.z+1) scope.names (eG scope.names X.env)).lookup y=KJ c
  rw[cM,List.lookup_append]
  rcases free hy with z|z
  .obtain⟨a,e⟩:=k9 (n:=s.z+1) z
   exact #[a,by rw[e];rfl]
  .obtain⟨a,e⟩:=oX (env:=X.env) (Iy z)
   cases q:(JD (s.z+1) scope.names []).lookup y with
   |none=>exact #[a,by rw[e];rfl]
   |some G=>exact #[G,rfl]
 .have hx:y∈xs:=by simpa[Lg]using h
  have e:(JD (s.z+1) scope.names (eG scope.names X.env)).lookup y=KJ a:=e
  rw[cM]at e
  rcases pM e with z|⟨_,z⟩
  .exact Kn (g.empty _ _ (Iy z)).2
  .exact absurd hx (c.free' _ (yV z) rfl)
 .rcases d e with⟨_,l⟩|o
  .exact Nat.ne_of_gt (Nat.lt_trans (x b t) l)
  .exact(F b t).2.2.2.2.1 y a o
 .rcases(F b t).2.2.2.1 with z|z
  .exact ok.noex b o e z
  .exact absurd (Ig (Ig (HN e) ok.bsz) z) (Ks _)
 .intro z
  rcases II.mp (I.n4 b z)with y|y
  .exact(F b t).2.1 y
  .exact(F b t).2.2.1 y
 .refine #[_,U,λi y v h1 f h3=>?_]
  have h1:(xs++js.map λj=>(X.N[j]?).getD ("":Str))[i]?=KJ y:=h1
  have f:(Im xs.length (KL:Option V)++js.map λj=>(σ[j]?).join)[i]?=KJ (KJ v):=f
  by_cases R:i<xs.length
  .rw[IB ‹R›,List.getElem?_replicate,KQ R]at f
   cases f
  .have w:y∉xs:=λhy=>by
    rw[Iz ()]at h1
    have nd:=c.nd
    unfold cN at nd
    exact(Kr.mp nd).2.2 y hy y (HE h1) rfl
   rw[Iz ()]at h1
   rw[Iz (by simp;omega)]at f
   rw[List.length_replicate]at f
   rw[HF]at h1 f
   cases J:js[i-xs.length]? with
   |none=>rw[J]at h1;cases h1
   |some j=>
    rw[J]at h1 f
    have e1:(X.N[j]?).getD ("":Str)=y:=Option.some.inj h1
    have e2:(σ[j]?).join=KJ v:=Option.some.inj f
    have e3:σ[j]?=KJ (KJ v):=by
     cases q:σ[j]? with
     |none=>rw[q]at e2;cases e2
     |some o=>rw[q]at e2;exact congrArg KJ e2
    have hj:j<X.N.length:=by rw[<-I.len];exact(HC.mp e3).1
    have e4:X.N[j]?=KJ y:=by
     rw[Hy hj]at e1 ⊢
     exact congrArg KJ e1
    have nl:scope.names.lookup y≠KJ .local:=by
     have:=c.js j (HE J)
     rw[e1]at this
     exact this
    have S:(ko scope s.z X.env).kindOf y=KJ .cell\/(ko scope s.z X.env).kindOf y=KJ .free:=by
     rcases h3 with z|z|z
     .rcases c.kindOf (C:=s.z) ok z with q|⟨q,_⟩
      .exact absurd q nl
      .cases q
     .exact .inl z
     .exact .inr z
    have A:(y,Kf)∈scope.names:=by
     rcases free S with z|z
     .exact absurd (c.cell _ (Iy z) rfl) w
     .exact Iy z
    let[a,T]:=oX (env:=X.env) A
    have K:(ko scope s.z X.env).cells.lookup y=KJ a:=by
     show(JD (s.z+1) scope.names (eG scope.names X.env)).lookup y=KJ a
     rw[cM,List.lookup_append]
     cases q:(JD (s.z+1) scope.names []).lookup y with
     |none=>rw[T];rfl
     |some G=>exact absurd (c.cell _ (ju _ _ (Iy q)) rfl) w
    have D:WV X.env.scope y:=by
     rcases c.out _ A rfl with z|z
     .exact .inr (.inl z)
     .exact .inr (.inr z)
    let[m,_,hl]:=I.loc
    let[u,r,l]:=hl j y v e4 e3 D
    exists u,r
    rcases l with⟨z,_⟩|⟨_,G,L,o,M,hd⟩
    .rcases c.out _ A rfl with q|q
     .have E:X.env.kindOf y=KJ .local:=z
      rw[q]at E;cases E
     .have E:X.env.kindOf y=KJ .local:=z
      rw[q]at E;cases E
    .refine .inr #[S,G,?_,o,k _ _ M,hd]
     have:=cl T
     rw[L]at this
     cases this
     exact K
 .rcases d e with⟨m,_⟩|o
  .exact #[_,(g.empty _ _ m).1]
  .obtain⟨v,o,M,hd⟩:=I.cell y a o
   exact #[v,o,k _ _ M,hd]
 .rcases d e with⟨_,l⟩|o
  .exact I.hok.fresh (Kn l)
  .exact I.freeC y a o
 .show(cσ (Im xs.length KL) js σ).length=(cN X xs js).length
  unfold cσ cN
  simp
end
def QI(X:Cx)(a:ro)(t:TT):Prop:=∀(KZ:p4) (s:Hv) (σ:L2.St) (H:Hp) (Q:Bool->Hp->Prop),Inv X KZ σ H s->t σ H Q->
 HJ (HP X.prog X.w) X.A (forIn a KN λc r=>if r=KN then do let ok <-isTrue c X.env (eval c X.env);pure (K9 ok)else pure (K9 r)) (TP X KZ σ Q) X.xe s
theorem zo{X:Cx}:QI X [] (λ_ H Q=>Q KN H):=λKZ s σ H Q I q=>wpAny_tests_nil #[H,I,q]
theorem zX{X:Cx}{c:pv}{t:TT}(h:PT X c t):QI X [c] t:=λKZ s σ H Q I q=>wpAny_tests_one (h KZ s σ H Q I q)
theorem vW{prog:HW}{w:IA}{A:Iv}{R:Result->Hv->Prop}{s:Hv}{d a b:pv}{f:ro}{scope:JH}{pos:Pos}{it g:Hu}{env:Env}(J:Nat->Hv->Prop)
 (step:∀n s,J n s->HJ (HP prog w) A (pyNext it) (λr j=>match r with
  |none=>R (.ok .next) j
  |some v=>HJ (HP prog w) A (JP a it v) (λ_ l=>HJ (HP prog w) A (Kw a env v) (λ_ o=>
   HJ (HP prog w) A (forIn f KN λc r=>if r=KN then do let ok <-isTrue c env (eval c env);pure (K9 ok)else pure (K9 r)) (λok k=>
    if ok=KN then HJ (HP prog w) A (eval d env) (λx p=>HJ (HP prog w) A (call (.builtin "list.append") [g,x]) (λ_ q=>∃m,m<n/\J m q) MJ p) MJ k
    else ∃m,m<n/\J m k) MJ o) MJ l) MJ j) MJ s)
 (n:Nat) (h:J n s):JK (HP prog w) A (.compLoop (.ListComp d [#[a,b,f,0]] scope pos) 0 it g env) R s:=by
 have i:∀{E:Hu->Hv->Prop} e t,MJ e t->E e t:=λ_ _ z=>z.elim
 refine codeAny_loop rfl J (λn s y=>?_) n h
 show HJ _ _ (Sem.onRaise (compTurn (.ListComp d [#[a,b,f,0]] scope pos) 0 it g env) (λx=>do noteFrame x env;theTreesLotGoes x)) _ _ s
 refine wpAny_noted ?_
 rw[compTurn_list]
 refine cc (Jv (cc (HQ (step n s y) (λr j h1=>?_) i)))
 cases r with
 |none=>exact Hz h1
 |some v=>
  refine cc (HQ h1 (λ_ l B=>cc (HQ B (λ_ o C=>cc (HQ C (λok k u=>?_) i)) i)) i)
  cases ok with
  |false=>exact Hz #[rfl,u]
  |true=>exact cc (cc (HQ u (λx p D=>cc (HQ D (λ_ q F=>Hz (Hz #[rfl,F])) i)) i))
abbrev Own:=V->Hp->L2.St->Prop
structure Mx(n:Nat)(g:TG)(own:Own):Prop where
 len:∀y H os,own y H os->os.length=n
 run:∀y H os0 tail os (Q:L2.St->Hp->Prop),os0.length=n->own y H os->Q (os++tail) H->g y (os0++tail) H Q
def BB(js:q7)(own:Own)(tc:TT)(te:TE)(σ:L2.St)(J:It)(H1:Hp)(Q:VK):Prop:=∀D,H1 D=KL->∃W:Nat->Nat->Hp->Prop,(∃m,W 0 m (upd H1 D (.lst [])))/\∀i m H,W i m H->
 (J.stop i H/\Q (.ref D) H)\/(J.go i H/\∀y c,J.yld i H y c->∃os,own y c os/\tc (cσ os js σ) c λb d=>if b=KN then
  te (cσ os js σ) d λv e=>∃xs,e D=KJ (.lst xs)/\xs.length<HR/\∃a,a<m/\W (i+1) a (upd e D (.lst (xs++[v])))else ∃a,a<m/\W (i+1) a d)
def qW(js:q7)(own:Own)(a:TI)(tc:TT)(te:TE):TE:=λσ H Q=>a σ H λJ H1=>BB js own tc te σ J H1 Q
section
variable{X:Cx}{xs:rx}{tg:pv}{pos:Pos}{js:q7}{scope:JH}{elt iter:pv}{ifs:ro}{te:TE}{tc:TT}{g:TG}{own:Own}{wi:TI}{KZ:p4}{σ:L2.St}{H:Hp}{s:Hv}{fp:rq}{it:pd}{tn:Nat->pq->Prop}{J:It}
theorem pR(c:L4 X xs js scope)(hc:X.calm=KN)(hG:Mx xs.length g own)(hg:∀C s H fp,PG (Lg X xs js scope C s H fp) tg g)(ht:∀C s H fp,QI (Lg X xs js scope C s H fp) ifs tc)(he:∀C s H fp,PE (Lg X xs js scope C s H fp) elt te)
 {R:Hu->pd->Result->Hv->Prop} {E:Hu->Hv->Prop} {Q:VK}
 (I:Inv X KZ σ H s) (T:Turn X.prog X.w X.K tg J fp it tn) (st:tn 0 s.heap) (hf:∀b∈fp,cH X KZ H b) (wc:BB js own tc te σ J H Q)
 (hR:∀D C f F,Inv X KZ σ f F->cH X KZ f C->(∃m,F.heap.Ns C m)->Q (.ref D) f->R (.ref D) C (.ok .next) F) :
 HJ (HP X.prog X.w) X.A (newList []) (λd0 e0=>HJ (HP X.prog X.w) X.A (newFunctionEnv scope X.env.globals (eG scope.names X.env) [] X.env.qual KL .none (KJ X.env)) (λN f0=>
  JK (HP X.prog X.w) X.A (.compStart (.ListComp elt [#[tg,iter,ifs,0]] scope pos) 0 (.ref it) d0 { N with scope:=relabel scope X.env }) (R d0 N.locals) f0) E e0) E s:=by
 have g0:∀b∈fp,b<s.z:=λb a=>let⟨o,e,_⟩:=T.obj 0 _ st b a;HN e
 have hD:H s.z=KL:=I.hok.fresh (HD _)
 refine IT (nR ?_)
 generalize hh:s.heap.push { cls:=.type "list",dict:=KL,data:=.seq ([]:List Hu).toArray }=h
 generalize h0:pushCells (({ s with heap:=h }:Hv).heap.push { cls:=.type "dict",data:=.dict #[] }) scope.names=j
 have k3:∀b o,s.heap.get? b=KJ o->h.get? b=KJ o:=λb o e=>by rw[<-hh];exact Hx _ e
 have I3:Inv X KZ σ (upd H s.z (.lst [])) { s with heap:=h }:=by
  refine I.laid (t':=s.toks) k3 (HD _) ?_
  exists J3 _,[],0,.nil
  rw[<-hh]
  exact HG _ rfl
 have k:∀b∈fp,cH X KZ (upd H s.z (.lst [])) b:=λb a=>#[by rw[aD (Ip (g0 b a))];exact(hf b a).1,(hf b a).2]
 have t0:h.objs.size=s.z+1:=by rw[<-hh,Jf]
 have i0:∀b∈fp,b<h.objs.size:=λb a=>by rw[t0];exact Nat.lt_succ_of_lt (g0 b a)
 have k4:∀b o,h.get? b=KJ o->j.get? b=KJ o:=λb o e=>by rw[<-h0];exact pushCells_keeps _ _ b o (Hx _ e)
 have I4:=lI c I3 k i0 (h':=j) h0.symm k4
 obtain⟨W,⟨m0,w0⟩,k0⟩:=wc _ hD
 have PH:tn 0 j:=T.keep 0 _ _ st λb a o e=>k4 b o (k3 b o e)
 generalize hX:Lg X xs js scope h.objs.size { s with heap:=h } (upd H s.z (.lst [])) fp=X' at I4
 have S:∀{pins':p4} {f:Hp} {G:L2.St} {F:Hv},Inv X' [] G f F->(∀b∈fp,f b=KL)->∀b∈fp,cH X' [] f b:=λ{pins' f G F} J' hn b a=>by
  subst hX
  let[a1,a2]:=J'.ok.exf b a
  exact #[hn b a,a1,J'.ok.exfs b a,.inl a,a2,λp hp=>absurd (show p∈([]:p4)from hp) (by simp)]
 have O:JK (HP X.prog X.w) X.A (.compLoop (.ListComp elt [#[tg,iter,ifs,0]] scope pos) 0 (.ref it) (.ref s.z) (ko scope h.objs.size X.env)) (R (.ref s.z) h.objs.size)
  { s with heap:=j }:=by
  refine vW (λn F=>∃i os f,os.length=xs.length/\Inv X' [] (cσ os js σ) f F/\tn i F.heap/\(∀b∈fp,f b=KL)/\W i n f) ?_ m0 #[0,_,_,by simp,I4,PH,λb a=>(k b a).1,w0]
  rintro n s5 ⟨i,os,H5,u0,I5,N1,n0,w5⟩
  rcases k0 i n H5 w5 with⟨stop,q⟩|⟨go,step⟩
  .subst hX
   refine HQ (T.done (Lg X xs js scope h.objs.size { s with heap:=h } (upd H s.z (.lst [])) fp) rfl rfl rfl hc i [] s5 _ H5 MJ I5 (S (pins':=[]) I5 n0) N1 stop) (λr s6 U=>?_) λ_ _ z=>z
   let[hr,I6]:=U
   subst hr
   refine hR _ _ H5 s6 (I3.xR I6.os I6.base I6.hok I6.bare λb a=>#[(k b a).2.2.2.1,(k b a).2.1,(k b a).2.2.2.2.1,(k b a).2.2.2.2.2]) (I3.pH (HD _) I6.free) (let⟨m,hm,_⟩:=I6.loc;#[m,hm]) q
  .subst hX
   refine HQ (T.item (Lg X xs js scope h.objs.size { s with heap:=h } (upd H s.z (.lst [])) fp) rfl rfl rfl hc i [] s5 _ H5 MJ I5 (S (pins':=[]) I5 n0) N1 go) (λr s6 V=>?_) λ_ _ z=>z
   let[u,hr,h6]:=V
   subst hr
   refine HQ h6 (λ_ s7 Y=>?_) λ_ _ z=>z
   let[y,H7,I7,r7,y7,Mv,v0]:=Y
   have x0:=I7.pinned (S (pins':=[]) I7 v0) (T.obj _ _ Mv)
   let[L,o0,q8]:=step y H7 y7
   have l8:=hG.len _ _ _ o0
   refine HQ (hg _ _ _ _ _ s7 _ H7 y u (λG f=>G=cσ L js σ/\f=H7) x0 r7 (hG.run y H7 os _ L _ u0 o0 #[rfl,rfl])) (λ_ s8 Z=>?_) λ_ _ z=>z
   let[f1,H8,I8,e8,y0]:=Z
   subst e8 y0
   refine HQ (ht _ _ _ _ _ s8 _ _ _ I8 q8) (λok s9 a0=>?_) λ_ _ z=>z
   let[H9,I9,q9]:=a0
   have P:∀{M:Nat} {l:Hp} {t:Hv},Inv (Lg X xs js scope h.objs.size { s with heap:=h } (upd H s.z (.lst [])) fp) ([]++gF fp s7.heap) (cσ L js σ) l t->M<n->W (i+1) M l->
    ∃m,m<n/\∃i os f,os.length=xs.length/\Inv (Lg X xs js scope h.objs.size { s with heap:=h } (upd H s.z (.lst [])) fp) [] (cσ os js σ) f t/\tn i t.heap/\(∀b∈fp,f b=KL)/\W i m f:=λ{M l t} x B z0=>by
    refine #[M,B,i+1,L,l,l8,x.eD,T.keep _ _ _ Mv λb a o e=>(x.pin (b,o) (Ia _ (Ia _ (bH a e)))).1,λb a=>?_,z0]
    let[o',e,d]:=T.obj _ _ Mv b a
    exact(x.pin (b,o') (Ia _ (Ia _ (bH a e)))).2.1
   cases ok with
   |false=>
    rw[KP Ib]at q9 ⊢
    let[M,B,w9]:=q9
    exact P I9 B w9
   |true=>
    rw[KQ rfl]at q9 ⊢
    refine HQ (he _ _ _ _ _ s9 _ _ _ I9 q9) (λv t b0=>?_) λ_ _ z=>z
    let[vv,l,x,b1,ys,q0,s0,c1]:=b0
    refine HQ (jD (X:=(Lg X xs js scope h.objs.size { s with heap:=h } (upd H s.z (.lst [])) fp)) _ t _ l (.ref s.z) [vv] (.ref s.z) [v] (λ_ f=>∃M,M<n/\W (i+1) M f) x rfl (.cons b1 .nil) #[_,ys,vv,rfl,rfl,q0,s0,c1]) (λ_ g1 c0=>?_) λ_ _ z=>z
    let[_,h1,d1,_,M,B,e1]:=c0
    exact P d1 B e1
 exact codeAny_compStart_list O (T.self X.A 0 _ _ _ PH O)
theorem AD(c:L4 X xs js scope)(k:X.calm=KN)(l:PI X tg iter wi)(n:Mx xs.length g own)(p:∀C s H fp,PG (Lg X xs js scope C s H fp) tg g)(r:∀C s H fp,QI (Lg X xs js scope C s H fp) ifs tc)(t:∀C s H fp,PE (Lg X xs js scope C s H fp) elt te)(u:∀x,Ik iter X.env x=pure x:=by intro _;rfl) : PE X (.ListComp elt [#[tg,iter,ifs,0]] scope pos) (qW js own wi tc te):=by intro KZ s σ H Q I h;rw[eval_ListComp];refine JZ (use:=KL) rfl u (c.wB I.ok) c.kind c.names (Lc (l KZ s σ H _ I h) λv L h1=>Lc h1 λy M a=>?_);let[it,fp,tn,J,N,e,z,T,st,B,w]:=a;subst e;refine pR (R:=λi C=>compPost (HP X.prog X.w) X.A X.xe KL (EP X KZ σ Q) i C) c k n p r t z T st B w λD C E F G f d q=>?_;let[m,K]:=d;exact #[m,K,λO j=>#[.ref D,E,G.turned (t':=F.toks) (λb o ne e=>j.extBut b o ne e) f.1 f.2.1 f.2.2.2.1 f.2.2.2.2.1 f.2.2.2.2.2,rfl,q]]
theorem zi{i:Nat}{y:Str}{l j:Pos}(c:L4 X xs js scope)(F:X.calm=KN)(G:X.N.Nodup)(K:PI X tg iter wi)(L:Mx xs.length g own)(M:∀C s H fp,PG (Lg X xs js scope C s H fp) tg g)(O:∀C s H fp,QI (Lg X xs js scope C s H fp) ifs tc)(P:∀C s H fp,PE (Lg X xs js scope C s H fp) elt te)(hy:X.N[i]?=KJ y)(E:X.env.scope.names.lookup y=KJ .local)
 (p:JU (.ListComp elt [#[tg,iter,ifs,0]] scope pos) (KJ (.Name y l)) j.line X.env=pure KN) (S:∀x,Ik iter X.env x=pure x:=by intro _;rfl) :
 PS X (.Assign [.Name y l] (.ListComp elt [#[tg,iter,ifs,0]] scope pos) j) (AY (qW js own wi tc te) (f6 i)):=by
 intro KZ s σ H B I h
 rw[exec_Assign_Name_used _ _ _ _ p]
 refine cc (Jv (cc ?_))
 show HJ _ X.A (do let _ <-comprehension (.ListComp elt [⟨tg,iter,ifs,0⟩] scope pos) scope X.env _ (newList []) KO (eval iter X.env) (KJ (Kw (.Name y l) X.env))) _ _ s
 refine cc (HQ (JZ (use:=KJ (Kw (.Name y l) X.env)) (Q:=λ_ n=>SP X KZ B .next n) rfl S (c.wB I.ok) c.kind c.names
  (Lc (K KZ s σ H _ I h) λv s1 h1=>Lc h1 λU s2 z=>?_)) (λ_ n V=>Hz (Hz V)) λ_ _ e=>e)
 let[it,fp,tn,J,H2,e,W,T,st,Y,w]:=z
 subst e
 refine pR (R:=λr C=>compPost (HP X.prog X.w) X.A X.xe (KJ (Kw (.Name y l) X.env)) (λ_ n=>SP X KZ B .next n) r C) c F L M O P W T st Y w λD C Z n I' k d q=>?_
 let[m,hm]:=d
 show HJ _ X.A (Kw (.Name y l) X.env (.ref D)) _ _ _
 refine wpAny_assign_Name (jW I' G hy (.inl E) (v:=.ref D) rfl (λs9 I9 f=>?_) (.inr E))
 let[a,sb,ha]:=f
 have t:C≠a:=by
  rcases ha with z|z
  .rw[z];exact k.2.1
  .exact λe=>k.2.2.2.2.1 y a z e.symm
 refine #[m,hm.sameBut sb t,λh' u=>?_]
 exact #[_,Z,I9.turned (t':=s9.toks) (λb o ne e=>u.extBut b o ne e) k.1 k.2.1 k.2.2.2.1 k.2.2.2.2.1 k.2.2.2.2.2,q]
end
inductive OO where
 |one|many (n:Nat)
def qe(K:Ht):OO->Own
 |.one=>λy _ os=>os=[KJ y]
 |.many n=>λy H os=>∃a xs,y=.ref a/\Lm K H a xs/\xs.length=n/\os=xs.map KJ
theorem rL{K:Ht}:Mx 1 (f6 0) (qe K .one):=#[λ_ _ os h=>by rw[h];rfl,λy H b a os Q c d q=>by
 let[o,rfl]:=xw c
 rw[show os=[KJ y]from d]at q;exact q]
theorem xH{K:Ht}:Mx 2 (BL K 2 (qg (f6 0) (qg (f6 1) CD))) (qe K (.many 2)):=#[λ_ _ os z=>by
 let[a,xs,_,_,b,e]:=z
 rw[e];simpa using b,λy H d c os Q b z q=>by
 let[a,xs,e,f,hx,g]:=z
 let[o,h,rfl]:=rP b
 let[u,v,rfl]:=rP hx
 rw[g]at q;exact #[a,_,e,f,hx,u,7,v,7,rfl,q]]
def vy:OO->D->DS->Prop
 |.one,d,os=>os=[KJ d]
 |.many n,d,os=>∃a,d=.tup a/\a.length=n/\os=a.map KJ
def cδ(os:DS)(js:q7)(δ:DS):DS:=os++js.map λj=>(δ[j]?).join
theorem kW{K:Ht}{H:Hp}{δ os:DS}{σ us:L2.St}{js:q7}(c:Slots K H δ σ)(r:Slots K H os us):Slots K H (cδ os js δ) (cσ us js σ):=by
 refine #[by simp[cδ,cσ,r.len],λi e q=>?_];unfold cδ at q;unfold cσ;by_cases a:i<os.length
 .rw[IB a]at q;rw[IB (by rw[<-r.len];exact a)];exact r.at' i e q
 .rw[Iz ()]at q;rw[Iz (by rw[<-r.len];omega),<-r.len];rw[HF]at q ⊢;cases b:js[i-os.length]? with
  |none=>rw[b]at q;cases q
  |some j=>
   rw[b]at q
   have e2:(δ[j]?).join=KJ e:=Option.some.inj q
   have e3:δ[j]?=KJ (KJ e):=by
    cases z:δ[j]? with
    |none=>rw[z]at e2;cases e2
    |some o=>rw[z]at e2;exact congrArg KJ e2
   let[d,e4,f]:=c.at' j e e3
   exact #[d,by rw[show(KJ j).map (λj=>(σ[j]?).join)=KJ ((σ[j]?).join)from rfl,e4];rfl,f]
theorem jU{K:Ht}{H:Hp}{a:r8}{xs:ry}(r:aC K H a xs):Slots K H (a.map KJ) (xs.map KJ):=by
 refine #[by simp[r.length],λi d e=>?_];rw[HF]at e ⊢;cases q:a[i]? with
 |none=>rw[q]at e;cases e
 |some b=>
  rw[q]at e;cases e
  let[x,e1,e2]:=r.get q
  exact #[x,by rw[e1];rfl,e2]
theorem pY{K:Ht}{H:Hp}{tk:OO}{d:D}{v:V}{os:DS}(r:Rep K H d v)(h:vy tk d os):∃us,qe K tk v H us/\Slots K H os us:=by
 cases tk with
 |one=>
  rw[show os=[KJ d]from h]
  exact #[[KJ v],rfl,jU (.cons r .nil)]
 |many n=>
  let[f,rfl,c,rfl]:=h
  rw[Rep]at r
  let[a,xs,rfl,e,b]:=r
  exact #[_,#[a,xs,rfl,e,by rw[<-b.length];exact c,rfl],jU b]
def cB:MI:=λ_ M Q=>Q KN M
def ud(I:OY)(tk:OO)(js:q7)(tc:MI)(te:TD)(δ:DS)(f:MH)(Q:DK):Prop:=I.n<=1000000/\∀p,f p=KL->∃W:Nat->r8->MH->Prop,W 0 [] (au f p (.lst []))/\(∀i a M,i<=I.n->W i a M->I.C M)/\
 (∀i a d M,i<I.n->I.item i=KJ d->W i a M->∃os,vy tk d os/\tc (cδ os js δ) M λb g=>if b=KN then te (cδ os js δ) g λe h=>∃c,Sub c h/\c p=KJ (.lst a)/\W (i+1) (a++[e]) (au c p (.lst (a++[e])))else ∃c,Sub c g/\W (i+1) a c)/\∀a M,W I.n a M->Q (.ref p) M
def jE(a:My)(tk:OO)(js:q7)(tc:MI)(te:TD):TD:=λδ M Q=>a δ M λI b=>ud I tk js tc te δ b Q
section
variable{X:Cx}{K:Ht}
theorem nA{B:My}{tk:OO}{js:q7}{tc:MI}{te:TD}{σ:L2.St}{H:Hp}{Q:VK}(h:lift K (jE B tk js tc te) σ H Q):qW js (qe K tk) (lL K B) (liftT K tc) (lift K te) σ H Q:=by
 let[δ,M,R,C,O,q,fin]:=h;refine #[δ,M,_,C,O,q,λI M1 H1 J g1 D t w p x=>?_];let[P,t]:=t;let[W,S,hC,l,done]:=t p (D.fresh x);refine #[λi m j=>m=I.n-i/\i<=I.n/\L5 K H1 j/\∃c M,c.length<=i/\Lb K j M/\W i c M,#[I.n,by simp,J3 _,.new x,[],_,HD _,D.mj x .nil,S],?_];rintro i m j ⟨rfl,y,f,c,k,T,r,o⟩;by_cases a:i<I.n
 .refine .inr #[w.go i j k a f r (hC _ _ _ y o),λv U hy=>?_];let[z,V,d,Y,Z]:=w.yld i j k v U a f r (hC _ _ _ y o) hy;let[os,ow,q3]:=l i c d k a Y o;let[us,uv,su]:=pY Z ow;have E:=kW (js:=js) (C.mono ((g1.trans f).trans z)) su;refine #[us,uv,cδ os js δ,k,_,E,V,q3,λb M4 H4 A F s=>?_];cases b with
  |false=>
   rw[KP Ib]at s ⊢
   let[M5,s5,w5]:=s
   exact #[I.n-(i+1),(),rfl,a,(f.trans z).trans A,c,M5,(),F.sub s5,w5]
  |true=>
   rw[KQ rfl]at s ⊢
   refine #[cδ os js δ,M4,_,E.mono A,F,s,λe M' u H5 g5 r5 G g=>?_]
   let[M6,L,e6,w6]:=g
   let[zs,hx,N]:=(G.sub L) _ _ e6
   refine #[zs,hx,?_,I.n-(i+1),(),rfl,a,(((f.trans z).trans A).trans g5).trans (.lst hx),c++[e],_,by simp;omega,(G.sub L).wt hx (N.append (.cons r5 .nil)),w6]
   rw[<-N.length]
   exact Nat.lt_of_le_of_lt T (Ig a (ID P ⋯))
 .obtain rfl:i=I.n:=()
  exact .inl #[w.stop j k f r (hC _ _ _ y o),fin _ _ _ _ (g1.trans f) (by rw[Rep]) r (done c k o)]
variable{xs:rx}{tg:pv}{pos:Pos}{js:q7}{scope:JH}{elt iter:pv}{ifs:ro}{te:TD}{tc:MI}{g:TG}{tk:OO}{wd:My}
namespace Zq
@[scoped irreducible]def _root_.SD.DTs(X:Cx)(ifs:ro)(t:MI):Prop:=QI X ifs (liftT X.K t)
end Zq
theorem bo:DTs X [] cB:=λKZ s σ H Q I a=>by let[δ,M,R,c,b,q,fin]:=a;exact(zo KZ s σ H Q I (fin _ _ _ .refl b q))
theorem iW{c:pv}{t:MI}(h:DT X c t):DTs X [c] t:=zX h
theorem uB(c:L4 X xs js scope)(a:X.calm=KN)(b:DI X tg iter wd)(d:Mx xs.length g (qe X.K tk))(e:∀C s H fp,PG (Lg X xs js scope C s H fp) tg g)(f:∀C s H fp,DTs (Lg X xs js scope C s H fp) ifs tc)(i:∀C s H fp,DE (Lg X xs js scope C s H fp) elt te) (j:∀x,Ik iter X.env x=pure x:=by intro _;rfl):DE X (.ListComp elt [#[tg,iter,ifs,0]] scope pos) (jE wd tk js tc te):=aY (AD (te:=lift X.K te) (tc:=liftT X.K tc) c a b d e f i j) λ_ _ _ h=>nA h
theorem AX(i:Nat){y:Str}{j b:Pos}(k:X.N.Nodup)(c:L4 X xs js scope)(l:X.calm=KN)(m:DI X tg iter wd)(n:Mx xs.length g (qe X.K tk))(o:∀C s H fp,PG (Lg X xs js scope C s H fp) tg g)(p:∀C s H fp,DTs (Lg X xs js scope C s H fp) ifs tc)(r:∀C s H fp,DE (Lg X xs js scope C s H fp) elt te) (hy:X.N[i]?=KJ y:=by rfl) (t:X.env.scope.names.lookup y=KJ .local:=by rfl) (h:JU (.ListComp elt [#[tg,iter,ifs,0]] scope pos) (KJ (.Name y j)) b.line X.env=pure KN:=by rfl) (f:∀x,Ik iter X.env x=pure x:=by intro _;rfl) : DSt X (.Assign [.Name y j] (.ListComp elt [#[tg,iter,ifs,0]] scope pos) b) (dw (jE wd tk js tc te) (aW i)):=cA (zi (te:=lift X.K te) (tc:=liftT X.K tc) c l k m n o p r hy t h f) λE σ H e=>by let[δ,M,f,a,B,ok,q]:=e;exact(nA #[δ,M,_,f,a,q,λd A v H1 g1 u w z=>ok.nx _ _ _ _ g1 ((f.mono g1).set u i) w z])
theorem comp_map{I:OY}{tk:OO}{js:q7}{te:TD}{δ:DS}{b:MH}{Q:DK}(f:Nat->D)(j:I.n<=1000000)(hC:∀p a,b p=KL->I.C (au b p (.lst a))) (h:∀i d M,i<I.n->I.item i=KJ d->Sub b M->∃os,vy tk d os/\∀K:DK,(∀c,Sub M c->K (f i) c)->te (cδ os js δ) M K) (l:∀p,b p=KL->Q (.ref p) (au b p (.lst ((HK I.n).map f)))):ud I tk js cB te δ b Q:=by
 refine #[j,λp e=>#[λi a M=>a=(HK i).map f/\M=au b p (.lst a),#[rfl,rfl],?_,?_,?_]]
 .rintro i a M _ ⟨_,rfl⟩;exact hC p a e
 .rintro i a d M m hd ⟨rfl,rfl⟩;let[os,o,k]:=h i d _ m hd (.new e .refl);exists os,o;unfold cB;refine jL (k _ ?_);exact λc q=>#[_,q,ag,by rw[Ka,Iu];rfl,by rw[bg]]
 .rintro a M ⟨rfl,rfl⟩;exact l p e
end
def EV(X:Cx)(xs:rx)(js:q7)(scope:JH):Bool:=
 scope.kind==.function&&scope.names.all (λy=>(y.2 != .cell||xs.contains y.1)&&(y.2 != .free||!xs.contains y.1))&&scope.names.all (λy=>y.2 != .local||scope.names.lookup y.1==KJ .local)&&xs.all (λx=>scope.names.lookup x==KJ .local||scope.names.lookup x==KJ .cell) &&
  scope.names.all (λy=>y.2 != .free||(X.env.kindOf y.1==KJ .cell||X.env.kindOf y.1==KJ .free))&&decide (cN X xs js).Nodup&&js.all (λj=>scope.names.lookup ((X.N[j]?).getD ("":Str)) != KJ .local)
theorem L4.of{X:Cx}{xs:rx}{js:q7}{scope:JH}(h:EV X xs js scope=KN):L4 X xs js scope:=by
 unfold EV at h;simp only[Ji]at h;obtain⟨⟨⟨⟨⟨⟨h1,b⟩,c⟩,d⟩,e⟩,f⟩,g⟩:=h;refine #[‹h1›,λy hy i=>?_,λy hy a=>?_,λy hy k=>?_,λx hx=>?_,λy hy a=>?_,of_decide_eq_true f,λj l=>?_]
 .have:=Jo.mp b y hy;rw[i]at this;simpa using this
 .have:=Jo.mp b y hy;rw[a]at this;simpa using this
 .have:=Jo.mp c y hy;rw[k]at this;simpa using this
 .have:=Jo.mp d x hx;simpa using this
 .have:=Jo.mp e y hy;rw[a]at this;simpa using this
 .have:=Jo.mp g j l;simpa using this
abbrev WX:=DS->MH->(rf->MH->Prop)->Prop
def tQ(K:Ht)(t:WX):TO:=λσ H Q=>∃δ M R,Slots K H δ σ/\Lb K H M/\t δ M R/\∀o b a,L5 K H a->Lb K a b->R o b->Q o a
def xl:WX:=λ_ M Q=>Q KL M
def BP(t:TD):WX:=λδ M Q=>t δ M λx a=>∃i,x=.int i/\Q (KJ i) a
def cutD(xs:r8)(a b:rf):r8:=(xs.drop (HT.sIx xs.length 0 a)).take (HT.sIx xs.length xs.length b-HT.sIx xs.length 0 a)
def FF:D->rf->rf->MH->DK->Prop:=λx c d M Q=>match x with
 |.ref a=>∃b,M a=KJ (.lst b)/\∀p,M p=KL->Q (.ref p) (au M p (.lst (cutD b c d)))
 |.rol b=>∀p,M p=KL->Q (.ref p) (au M p (.lst (cutD b c d)))
 |.tup b=>¬(HT.sIx b.length 0 c=0/\HT.sIx b.length b.length d=b.length)/\Q (.tup (cutD b c d)) M
 |_=>False
def G8(te:TD)(a b:WX):TD:=λδ M Q=>te δ M λx c=>a δ c λl d=>b δ d λu e=>FF x l u e Q
theorem aC.cut{K:Ht}{H:Hp}{a:r8}{xs:ry}(h:aC K H a xs)(b c:rf):aC K H (cutD a b c) (pb xs b c):=by unfold cutD pb;rw[h.length];exact(h.drop _).take _
section
variable{X:Cx}{e a:pv}{te:TD}{tl th:WX}{lo hi:Option pv}{pos p2:Pos}
theorem yq{e:Option pv}{t t':TO}(h:PO X e t)(k:∀σ H Q,t' σ H Q->t σ H Q):PO X e t':=λKZ s σ H Q I q=>h KZ s σ H Q I (k _ _ _ q)
theorem uD:PO X KL (tQ X.K xl):=yq zC λσ H Q b=>by let[δ,M,R,c,a,q,fin]:=b;exact(fin _ _ _ .refl a q)
theorem tU(h:DE X e te):PO X (KJ e) (tQ X.K (BP te)):=yq (A5 h) λσ H Q b=>by let[δ,M,R,f,a,q,fin]:=b;exact(#[δ,M,_,f,a,q,λd m v H1 g1 c g j=>by
 let[i,k,l]:=j
 subst k
 rw[Rep]at c
 exact #[i,c,fin _ _ _ g1 g l]])
theorem qH(n:DE X a te)(o:PO X lo (tQ X.K tl))(p:PO X hi (tQ X.K th)):DE X (.Subscript a (.Slice lo hi KL p2) pos) (G8 te tl th):=
 aY (we (AQ.or C1) n o p) λσ H Q f=>by let[δ,M,R,j,a,q,fin]:=f;exact(#[δ,M,_,j,a,q,λx r v H1 g1 s t w=>#[δ,r,_,j.mono g1,t,w,λl y D k A B=>#[δ,y,_,j.mono (g1.trans k),A,B,λu E F m g d=>by
  have G:=(g1.trans k).trans m
  have i:=s.mono (k.trans m)
  unfold FF at d
  split at d
  .obtain⟨I,e3,d⟩:=d
   obtain rfl:v=.ref _:=i
   let[xs,hx,h]:=g _ _ e3
   exact .inl #[_,xs,rfl,Ln.of hx,λz c=>fin _ _ _ _ (G.trans (.new c)) (by rw[Rep]) (g.mj c (h.cut _ _)) (d z (g.fresh c))]
  .rw[Rep]at i
   let[b,xs,rfl,hx,h]:=i
   exact .inl #[_,xs,rfl,hx.sql,λz c=>fin _ _ _ _ (G.trans (.new c)) (by rw[Rep]) (g.mj c (h.cut _ _)) (d z (g.fresh c))]
  .obtain⟨C,d⟩:=d
   rw[Rep]at i
   let[b,xs,rfl,hx,h]:=i
   exact .inr #[_,xs,rfl,hx,by rw[<-h.length];exact C,λz c=>fin _ _ _ _ (G.trans (.new c)) (by rw[Rep];exact #[z,7,Lm.of aF,(h.cut _ _).mono (.new c)]) (g.new c) d]
  .exact d.elim]]])
end
section
variable{X:Cx}{x y z:Str}{px py pz pt pos:Pos}{kt:Nat}{js:q7}{scope:JH}{elt iter:pv}{ifs:ro}{te:TD}{tc:MI}{wd:My}{xs:rx}
theorem iN(c:L4 X xs js scope)(i:Nat)(hx:xs[i]?=KJ x){C:pd}{s:Hv}{H:Hp}{fp:rq}:PG (Lg X xs js scope C s H fp) (.Name x px) (f6 i):=by
 have b:i<xs.length:=(HC.mp hx).1;have a:=HE hx
 have d:Loc (Lg X xs js scope C s H fp).env.scope x:=by
  rcases c.own x a with z|z
  .exact .inl (fX ⋯ z)
  .exact .inr (fX ⋯ z)
 refine t9 (i:=i) c.nd ?_ d (.inl (by show xs.contains x=KN;simpa using a));show(xs++js.map λj=>(X.N[j]?).getD ("":Str))[i]?=KJ x;rw[IB b];exact hx
theorem tZ(c:L4 X [x,y] js scope)(a:X.calm=KN){C:pd}{s:Hv}{H:Hp}{fp:rq}:PG (Lg X [x,y] js scope C s H fp) (.Tuple [.Name x px,.Name y py] kt pt) (BL X.K 2 (qg (f6 0) (qg (f6 1) CD))):=xX (X:=Lg X [x,y] js scope C s H fp) a (lU (iN c 0 rfl) (lU (iN c 1 rfl) tS)) rfl rfl
theorem bN(c:L4 X [x] js scope)(a:X.calm=KN)(b:DI X (.Name x px) iter wd)(d:∀C s H fp,DTs (Lg X [x] js scope C s H fp) ifs tc)(e:∀C s H fp,DE (Lg X [x] js scope C s H fp) elt te) (f:∀x,Ik iter X.env x=pure x:=by intro _;rfl):DE X (.ListComp elt [#[.Name x px,iter,ifs,0]] scope pos) (jE wd .one js tc te):=uB c a b rL (λ_ _ _ _=>iN c 0 rfl) d e f
theorem p6(c:L4 X [x,y] js scope)(a:X.calm=KN)(b:DI X (.Tuple [.Name x px,.Name y py] kt pt) iter wd)(d:∀C s H fp,DTs (Lg X [x,y] js scope C s H fp) ifs tc)(e:∀C s H fp,DE (Lg X [x,y] js scope C s H fp) elt te) (f:∀x,Ik iter X.env x=pure x:=by intro _;rfl):DE X (.ListComp elt [#[.Tuple [.Name x px,.Name y py] kt pt,iter,ifs,0]] scope pos) (jE wd (.many 2) js tc te):=uB c a b xH (λ_ _ _ _=>tZ c a) d e f
theorem dC(i:Nat){v:Str}{d a:Pos}(e:X.N.Nodup)(c:L4 X [x] js scope)(f:X.calm=KN)(g:DI X (.Name x px) iter wd)(h:∀C s H fp,DTs (Lg X [x] js scope C s H fp) ifs tc)(j:∀C s H fp,DE (Lg X [x] js scope C s H fp) elt te) (hy:X.N[i]?=KJ v:=by rfl) (k:X.env.scope.names.lookup v=KJ .local:=by rfl) (b:JU (.ListComp elt [#[.Name x px,iter,ifs,0]] scope pos) (KJ (.Name v d)) a.line X.env=pure KN:=by rfl) (l:∀x,Ik iter X.env x=pure x:=by intro _;rfl) : DSt X (.Assign [.Name v d] (.ListComp elt [#[.Name x px,iter,ifs,0]] scope pos) a) (dw (jE wd .one js tc te) (aW i)):=AX i e c f g rL (λ_ _ _ _=>iN c 0 rfl) h j hy k b l
end
section
variable{prog:HW}{w:IA}{A:Iv}{E:Hu->Hv->Prop}{s:Hv}
theorem yT{N L:String}{op:CmpOp}{a b:Hu}{c:Bool}{Q:Hu->Hv->Prop}(n:(N="max"/\L="max.loop"/\op=.Gt)\/(N="min"/\L="min.loop"/\op=.Lt))(hh:A.handled=KL)
 (P:∀(t:Hv) (Z:Hu->Hv->Prop) (E':Hu->Hv->Prop),(∀x o,s.heap.get? x=KJ o->t.heap.get? x=KJ o)->Z (.bool c) t->HJ (HP prog w) A.in1 (richCompare op b a) Z E' t)
 (h:∀h' tk,(∀x o,s.heap.get? x=KJ o->h'.get? x=KJ o)->Q (if c=KN then b else a) { s with heap:=h',toks:=tk }) :
 HJ (HP prog w) A (call (.builtin N) [a,b]) Q E s:=by
 rcases n with⟨rfl,O,rfl⟩|⟨rfl,O,rfl⟩
 have C:(toString "max"++toString ".loop":String)=L:=by rw[O];decide
 have i:=F.plain_max_loop
 have D:=F.entry_max_loop
 refine call_function_tree F.kind_max F.plain_max F.entry_max (F.args_max2 _ _) ?_
 rotate_left
 have C:(toString "min"++toString ".loop":String)=L:=by rw[O];decide
 have i:=F.plain_min_loop
 have D:=F.entry_min_loop
 refine call_function_tree F.kind_min F.plain_min F.entry_min (F.args_min2 _ _) ?_
 all_goals
  rw[<-O]at i D
  show HJ _ A.in1 (Builtin.Builtins.bindParams _ ["key","default"] 0 #[[],[]] >>= λ_=>_) _ _ s
  refine cc (wpAny_of_eq (a:=[KL,KL]) rfl ?_)
  show HJ _ A.in1 (newTuple [a,b] >>= λ_=>_) _ _ s
  refine cc (IT ?_)
  generalize e1:s.heap.push { cls:=.type "tuple",dict:=KL,data:=.seq ([a,b]:List Hu).toArray }=h1
  have k1:∀x o,s.heap.get? x=KJ o->h1.get? x=KJ o:=λx o q=>by rw[<-e1];exact Hx _ q
  have hT:h1.IsTuple s.z (List.toArray [a,b]):=by rw[<-e1];exact #[_,HG _ rfl,rfl,0,rfl]
  have z1:h1.objs.size=s.z+1:=by rw[<-e1,Jf]
  refine cc (wpAny_pyIter_tuple (s:={ s with heap:=h1 }) hT ?_)
  refine cc (IT ?_)
  dsimp only
  generalize eI:h1.objs.size=I
  generalize e2:h1.push _=y
  have k2:∀x o,h1.get? x=KJ o->y.get? x=KJ o:=λx o q=>by rw[<-e2];exact Hx _ q
  have hI:y.IsTupleIter I s.z 0:=by rw[<-e2,<-eI];exact #[_,HG _ rfl,rfl,rfl]
  have z2:y.objs.size=I+1:=by rw[<-e2,Jf,eI]
  generalize eS:y.objs.size=S
  generalize e3:y.push _=k
  have R:∀x o,y.get? x=KJ o->k.get? x=KJ o:=λx o q=>by rw[<-e3];exact Hx _ q
  have hS:k.get? S=KJ { cls:=.type "list",dict:=KL,data:=.seq #[] 0,slots:=#[] }:=by rw[<-e3,<-eS];exact HG _ rfl
  have G:S≠I:=()
  have g:∀x o,s.heap.get? x=KJ o->x≠I/\x≠S:=λx o q=>#[Ip (Ig (HN q) ()),Ip (Ig (HN q) ())]
  have H:k.IsTuple s.z (List.toArray [a,b]):=by
   let[o,q,r]:=hT
   exact #[o,R _ _ (k2 _ _ q),r]
  have T:k.IsTupleIter I s.z 0:=hI.at λo q=>R _ _ q
  have TI:s.z≠I:=()
  have TS:s.z≠S:=()
  have l:∀x o,s.heap.get? x=KJ o->k.get? x=KJ o:=λx o q=>R _ _ (k2 _ _ (k1 _ _ q))
  rw[C]
  refine Hz #[plainId_quiet i _,?_]
  have f:∀(t:Hv) (v:Hu) (n:Nat),t.heap.IsTupleIter I s.z 2->t.heap.IsTuple s.z (List.toArray [a,b])->t.heap.get? S=KJ { cls:=.type "list",dict:=KL,data:=.seq (List.toArray [v,v]) n,slots:=#[] }->
   (∃h' tk,t={ s with heap:=h',toks:=tk }/\∀x o,s.heap.get? x=KJ o->h'.get? x=KJ o)->v=(if c=KN then b else a)->JK (HP prog w) A (.builtin L #[[.ref I,.none,.ref S],[]]) (λr s'=>match r with|.ok (.ret v)=>Q v s'|.ok _=>False|.error e=>E e s') t:=by
   rintro t v n i2 tT lS ⟨h',tk,rfl,kt⟩ ev
   refine codeAny_builtin D ?_
   rw[Around.under_plainId i _]
   show HJ _ A.in1 (seqItems? (.ref S) >>= λ_=>_) _ _ _
   refine cc (Ky lS rfl ?_)
   show HJ _ A.in1 (tryCatch (pyNext (.ref I)) _ >>= λ_=>_) _ _ _
   refine cc (wpAny_tryCatch (wpAny_pyNext_tuple_end (A:=A.in1) hh i2 tT (by simp) λz B=>?_))
   have U:z.get? S=KJ _:=B _ _ G lS
   show HJ _ A.in1 (updateSeq S (λ_=>#[]) >>= λ_=>_) _ _ _
   refine cc (wpAny_updateSeq U rfl (cc (wpAny_letGo (Hz ?_))))
   show Q v _
   rw[ev]
   exact h _ _ λx o q=>(Jn _ _ (g x o q).2.symm).trans (B x o (g x o q).1 (kt x o q))
  refine codeAny_builtin D ?_
  rw[Around.under_plainId i _]
  show HJ _ A.in1 (seqItems? (.ref S) >>= λ_=>_) _ _ _
  refine cc (Ky (s:={ s with heap:=k }) hS rfl ?_)
  show HJ _ A.in1 (tryCatch (pyNext (.ref I)) _ >>= λ_=>_) _ _ _
  refine cc (wpAny_tryCatch (wpAny_pyNext_tuple_item (s:={ s with heap:=k }) T H (x:=a) (by simp) λz i4 B=>?_))
  have J:z.get? S=KJ _:=(B.2 _ G).trans hS
  have V:z.IsTuple s.z (List.toArray [a,b]):=by
   let[o,q,r]:=H
   exact #[o,(B.2 _ TI).trans q,r]
  show HJ _ A.in1 (updateSeq S (λ_=>(List.toArray [a,a])) >>= λ_=>_) _ _ _
  refine cc (wpAny_updateSeq J rfl ?_)
  rw[C]
  refine Hz #[plainId_quiet i _,?_]
  generalize e5:z.update S _=m
  have W:∀x,x≠S->m.get? x=z.get? x:=λx q=>by rw[<-e5];exact Jn _ _ q.symm
  have j:∃n,m.get? S=KJ { cls:=.type "list",dict:=KL,data:=.seq (List.toArray [a,a]) n,slots:=#[] }:=#[_,by rw[<-e5];exact JS _ J rfl]
  let[n5,j]:=j
  have i5:m.IsTupleIter I s.z 1:=i4.at λo q=>(W _ G.symm).trans q
  have K:m.IsTuple s.z (List.toArray [a,b]):=by
   let[o,q,r]:=V
   exact #[o,(W _ TS).trans q,r]
  have p:∀x o,s.heap.get? x=KJ o->m.get? x=KJ o:=λx o q=>(W _ (g x o q).2).trans ((B.2 _ (g x o q).1).trans (l x o q))
  refine codeAny_builtin D ?_
  rw[Around.under_plainId i _]
  show HJ _ A.in1 (seqItems? (.ref S) >>= λ_=>_) _ _ _
  refine cc (Ky (s:={ s with heap:=m }) j rfl ?_)
  show HJ _ A.in1 (tryCatch (pyNext (.ref I)) _ >>= λ_=>_) _ _ _
  refine cc (wpAny_tryCatch (wpAny_pyNext_tuple_item (s:={ s with heap:=m }) i5 K (x:=b) (by simp) λX i6 Y=>?_))
  have u:X.get? S=KJ _:=(Y.2 _ G).trans j
  have M:X.IsTuple s.z (List.toArray [a,b]):=by
   let[o,q,r]:=K
   exact #[o,(Y.2 _ TI).trans q,r]
  have d:∀x o,s.heap.get? x=KJ o->X.get? x=KJ o:=λx o q=>(Y.2 _ (g x o q).1).trans (p x o q)
  show HJ _ A.in1 (tryCatch (holding [b,b] (richCompare _ b a >>= λ_=>_)) _ >>= λ_=>_) _ _ _
  refine cc (wpAny_tryCatch (Jg (cc (P _ _ _ d ?_))))
  refine cc (Jg (JJ ?_))
  refine cc (wpAny_letGo (Hz ?_))
  cases c with
  |true=>
   simp only[if_true]at f ⊢
   refine cc (wpAny_updateSeq u rfl (cc (wpAny_letGo ?_)))
   rw[C]
   refine Hz #[plainId_quiet i _,f _ b _ (i6.at λo q=>(Jn _ _ G).trans q) ?_ (JS _ u rfl) #[_,7,λx o q=>(Jn _ _ (g x o q).2.symm).trans (d x o q)] rfl]
   let[o,q,r]:=M
   exact #[o,(Jn _ _ TS.symm).trans q,r]
  |false=>
   simp only[J1,if_false]at f ⊢
   refine cc (wpAny_letGo ?_)
   rw[C]
   exact Hz #[plainId_quiet i _,f _ a _ i6 M u #[_,7,d] rfl]
end
end SD
namespace HT
open PySem PyProof.Rows
def lexLe:q_->q_->Bool
 |[],[]=>KN
 |[],_::_=>KN
 |_::_,[]=>KO
 |x::xs,y::ys=>if x=y then lexLe xs ys else decide (x<=y)
def cz:q_->q_->Bool
 |[],[]=>KO
 |[],_::_=>KO
 |_::_,[]=>KN
 |x::xs,y::ys=>if x=y then cz xs ys else decide (y<x)
def lF(k:Bool)(ns ms:q_):Bool:=bif k then cz ns ms else lexLe ns ms
theorem vZ(k:Bool)(x y:Int)(xs a:q_):lF k (x::xs) (y::a)=if x=y then lF k xs a else bif k then decide (y<x)else decide (x<=y):=by cases k<;>rfl
theorem AB{k:Bool}{ns ms:q_}{a b:Nat}(z:ns=[]\/ms=[])(h:ns.length+b=ms.length+a):lF k ns ms=bif k then decide (a>b)else decide (a<=b):=by
 have e:lF k ns ms=bif k then decide (ns.length>ms.length)else decide (ns.length<=ms.length):=by
  rcases z with rfl|rfl
  .cases k<;>cases ms<;>simp[lF,lexLe,cz]
  .cases k<;>cases ns<;>simp[lF,lexLe,cz]
 rw[e];cases k
 .exact decide_eq_decide.mpr ()
 .exact decide_eq_decide.mpr ()
theorem AE(k:Bool)(A:Iv)(s:Hv)(a:Int)(t:Tok)(c:Int)(u:Tok)(prog:HW)(w:IA)(E:Hu->Hv->Prop)(Q:Hu->Hv->Prop)(h:Q (.bool (bif k then decide (c<a)else decide (a<=c))) s) : HJ (HP prog w) A (richCompare (bif k then .Gt else .LtE) (.int a t) (.int c u)) Q E s:=by
 cases k
 .exact(PyProof.Rows.le_int h:HJ (HP prog w) A (IM .LtE (.int a t) (.int c u)) Q E s)
 .exact(PyProof.Rows.gt_int h:HJ (HP prog w) A (IM .Gt (.int a t) (.int c u)) Q E s)
section
open PySem.SeqAt
open PySem.AutoSeq1 (wpAny_loadPart')
open PySem.MeetsSeq PySem.MeetsSeq2 PySem.MeetsSeq3
theorem yO(k:Bool)(l b:pd)(items i:Array Hu)(n U:Nat)(V J:Option pd)(W K:Array (Option Hu))(ns ms:q_)(Q:Jt items.toList ns)(S:Jt i.toList ms) :
 Meets ((bif k then KH.«tuple.__gt__» else KH.«tuple.__le__») #[[.ref l,.ref b],[]])
  (λ_ R s=>s.heap.get? l=KJ { cls:=.type "tuple",dict:=V,data:=.seq items n,slots:=W }/\s.heap.get? b=KJ { cls:=.type "tuple",dict:=J,data:=.seq i U,slots:=K }/\
   R (.ok (.ret (.bool (lF k ns ms)))) s):=
 .of_wp λprog w A R s h=>by
  let[H,g,d,I,os]:=s;let[X,Y,h]:=h
  have f2:=AutoSeq1.sub_tuple_tuple
  have z1:items.size=ns.length:=by rw[<-Q.length];simp
  have z2:i.size=ms.length:=by rw[<-S.length];simp
  have L:=vZ k
  have M:=λns ms a b=>AB (k:=k) (ns:=ns) (ms:=ms) (a:=a) (b:=b)
  have T:=λa t c u=>AE k A.in1 #[H,g,d,I,os] a t c u prog w
  generalize lF k=f at h L M
  cases k
  all_goals
   dsimp only[cond_true,cond_false]at L M T ⊢
   wp_walk using Jd X,Jd Y,wpAny_forIn_list _ (λr b N=>b.1=KL/\N=#[H,g,d,I,os]/\∃(vs ws:List Hu) (j m:q_),r=vs.zip ws/\
    Jt vs j/\Jt ws m/\j.length+i.size=m.length+items.size/\R (.ok (.ret (.bool (f j m)))) #[H,g,d,I,os]) _
   case turn=>
    rintro⟨y,x⟩ r b N ⟨B,rfl,vs,ws,j,m,p,C,D,o,v⟩
    cases C with
    |nil=>rw[List.zip_nil_left]at p;cases p
    |cons a t F=>
     cases D with
     |nil=>rw[List.zip_nil_right]at p;cases p
     |cons c u G=>
      rw[List.zip_cons_cons]at p
      injection p with O E
      injection O with hy hx
      subst hy hx
      rw[L]at v
      simp only[Io]at o
      let[e,Z,z]:=qb A.in1 #[H,g,d,I,os] a t c u
      refine cc (Z prog w _ _ ?_)
      cases e with
      |true=>
       rw[KQ (z.mp rfl)]at v
       wp_walk
       exact #[rfl,rfl,_,_,_,_,E,F,G,(),v]
      |false=>
       rw[KP (λq=>absurd (z.mpr q) Ib)]at v
       have P:=T a t c u
       wp_walk using P
       exact #[7,‹v›]
   case fin=>
    rintro⟨b1,b2⟩ N ⟨B,rfl,vs,ws,j,m,p,C,D,o,v⟩
    simp only at B
    subst B
    have hv:=M j m items.size i.size (by
     cases C with
     |nil=>exact .inl rfl
     |cons a t hv=>
      cases D with
      |nil=>exact .inr rfl
      |cons c u hw=>
       rw[List.zip_cons_cons]at p
       cases p) o
    rw[hv]at v
    wp_walk
    exact #[7,by simpa[Builtin.Tuple.tupleCompareSizes]using v]
   case h=>
    exact #[rfl,rfl,items.toList,i.toList,ns,ms,rfl,Q,S,(),h]
end
section
variable{prog:HW}{w:IA}{A:Iv}{E:Hu->Hv->Prop}{s:Hv}
theorem ie(k:Bool){l b:pd}{items a:Array Hu}{ns ms:q_}{Q:Hu->Hv->Prop}(r:IsTup s.heap l items)(t:IsTup s.heap b a)(u:Jt items.toList ns)(v:Jt a.toList ms)
 (o:A.units<J9) (h:Q (.bool (lF k ns ms)) s):HJ (HP prog w) A (IM (bif k then .Gt else .LtE) (.ref l) (.ref b)) Q E s:=by
 obtain⟨⟨cls,y,data,z⟩,f,p,n,hd⟩:=id r
 obtain⟨⟨q,g,i,j⟩,c,d,B,e⟩:=id t
 simp only at p hd d e
 subst p hd d e
 have m:=yO k l b items a n B y g z j ns ms u v
 have h:Value.bool (lF k ns ms)≠Value.notImplemented/\Q (.bool (lF k ns ms)) s:=#[(λx=>nomatch x),h]
 cases k
 .exact richCompare_meets_room (op:=.LtE) #[_,f,rfl] #[_,c,rfl] PySem.F.slot_tuple_le PySem.F.entry_tuple_le (PySem.F.args_tuple_le_2 _ _) m #[f,c,h] o
 .exact richCompare_meets_room (op:=.Gt) #[_,f,rfl] #[_,c,rfl] PySem.F.slot_tuple_gt PySem.F.entry_tuple_gt (PySem.F.args_tuple_gt_2 _ _) m #[f,c,h] o
end
end HT
namespace SD
open PySem PySem.Spec PyProof.Rows L2
section
variable{X:Cx}
theorem dm{K:Ht}{H:Hp}:∀{ns:q_} {xs:ry},aC K H (ns.map D.int) xs->xs=ns.map V.int
 |[],xs,h=>by rw[Jm,aC]at h;exact h
 |n::ns,xs,h=>by
  rw[HI,aC]at h
  let[x,r,rfl,h1,a]:=h
  rw[Rep]at h1
  rw[h1,dm a];rfl
theorem Cz(d:X.A.units<J9):MQ X (IM .LtE) (λx y H Q=>∃a b ns ms,x=.ref a/\y=.ref b/\Lm X.K H a (ns.map V.int)/\Lm X.K H b (ms.map V.int)/\Q (.bl (HT.lexLe ns ms)) H):=by intro KZ s σ H x y v u Q I e f h;let[a,b,ns,ms,rfl,rfl,g,i,q]:=h;cases e;cases f;let[j,k,l,_]:=I.tuple g;let[c,m,n,_]:=I.tuple i;exact HT.ie KO l n (intsAre_of k) (intsAre_of m) d #[.bl (HT.lexLe ns ms),H,I,rfl,q]
theorem DQ(d:X.A.units<J9):MQ X (IM .Gt) (λx y H Q=>∃a b ns ms,x=.ref a/\y=.ref b/\Lm X.K H a (ns.map V.int)/\Lm X.K H b (ms.map V.int)/\Q (.bl (HT.cz ns ms)) H):=by intro KZ s σ H x y v u Q I e f h;let[a,b,ns,ms,rfl,rfl,g,i,q]:=h;cases e;cases f;let[j,k,l,_]:=I.tuple g;let[c,m,n,_]:=I.tuple i;exact HT.ie KN l n (intsAre_of k) (intsAre_of m) d #[.bl (HT.cz ns ms),H,I,rfl,q]
def qE(f:Int->Int->Bool)(g:q_->q_->Bool):Mh:=λx y M Q=>match x,y with
 |.int i,.int j=>True/\Q (.bl (f i j)) M
 |.tup a,.tup b=>∃ns c,a=Jp D.int ns/\b=Jp D.int c/\Q (.bl (g ns c)) M
 |_,_=>False
theorem yw{op:CmpOp}{f:Int->Int->Bool}{g:q_->q_->Bool}(h1:Mi X (IM op) (OU (λ_ _=>True) λi j=>.bl (f i j))) (h:MQ X (IM op) (λx y H Q=>∃a b ns ms,x=.ref a/\y=.ref b/\Lm X.K H a (ns.map V.int)/\Lm X.K H b (ms.map V.int)/\Q (.bl (g ns ms)) H)):Mi X (IM op) (qE f g):=by
 refine ik (h1.or h) λv u H Q c=>?_;let[x,y,M,R,d,e,a,q,fin]:=c;unfold qE at q;split at q
 .exact .inl #[_,_,M,R,d,e,a,q,fin]
 .obtain⟨ns,ms,rfl,rfl,q⟩:=q;rw[Rep]at d;let[p,xs,rfl,hx,k]:=d;obtain⟨l,n,rfl,hy,m⟩:∃a xs,u=V.ref a/\Lm X.K H a xs/\aC X.K H (Jp D.int ms) xs:=by rw[Rep]at e;exact e
  rw[dm k]at hx;rw[dm m]at hy;exact .inr #[p,l,ns,ms,rfl,rfl,hx,hy,fin _ _ _ _ .refl (by rw[Rep]) a q]
 .exact q.elim
theorem cU(a:X.A.units+64<J9):Mi X (IM .Lt) (qE (λi j=>decide (i<j)) HT.lexLt):=yw Eg (BZ ())
theorem xk(a:X.A.units+64<J9):Mi X (IM .LtE) (qE (λi j=>decide (i<=j)) HT.lexLe):=yw Fz (Cz ())
theorem gB(a:X.A.units+64<J9):Mi X (IM .Gt) (qE (λi j=>decide (j<i)) HT.cz):=yw E8 (DQ ())
theorem uQ(d:X.calm=KN)(E:X.A.units+64<J9):b5 X (.builtin "max") (λxs H Q=>∃p q ns ms,xs=[.ref p,.ref q]/\Lm X.K H p (ns.map V.int)/\Lm X.K H q (ms.map V.int)/\Q (if HT.cz ms ns=KN then .ref q else .ref p) H):=by
 intro KZ s σ H xs us Q I r f;let[p,q,ns,ms,e,g,h,k]:=f;subst e;let[u,v,rfl,i,j]:=vals2 r;cases i;cases j;let[l,m,n,_]:=I.tuple g;let[b,o,w,_]:=I.tuple h;refine yT (.inl #[rfl,rfl,rfl]) (c:=HT.cz ms ns) (I.ok.hd d) (λt F G a x=>?_) λJ L a=>#[_,H,I.kept a,?_,k]
 .obtain⟨y,z,b1⟩:=n;let[B,C,D]:=w;exact HT.ie KN (A:=X.A.in1) (s:=t) #[B,a _ _ C,D] #[y,a _ _ z,b1] (intsAre_of o) (intsAre_of m) (by show X.A.units+1<J9;omega) x
 .cases HT.cz ms ns<;>rfl
theorem vS(d:X.calm=KN)(E:X.A.units+64<J9):b5 X (.builtin "min") (λxs H Q=>∃p q ns ms,xs=[.ref p,.ref q]/\Lm X.K H p (ns.map V.int)/\Lm X.K H q (ms.map V.int)/\Q (if HT.lexLt ms ns=KN then .ref q else .ref p) H):=by
 intro KZ s σ H xs us Q I r f;let[p,q,ns,ms,e,g,h,k]:=f;subst e;let[u,v,rfl,i,j]:=vals2 r;cases i;cases j;let[l,m,n,_]:=I.tuple g;let[b,o,w,_]:=I.tuple h;refine yT (.inr #[rfl,rfl,rfl]) (c:=HT.lexLt ms ns) (I.ok.hd d) (λt F G a x=>?_) λJ L a=>#[_,H,I.kept a,?_,k]
 .obtain⟨y,z,b1⟩:=n;let[B,C,D]:=w;exact HT.lO (A:=X.A.in1) (s:=t) #[B,a _ _ C,D] #[y,a _ _ z,b1] (intsAre_of o) (intsAre_of m) (by show X.A.units+1<J9;omega) x
 .cases HT.lexLt ms ns<;>rfl
def Gi:RC:=λd M Q=>match d with
 |[.int i,.int j]=>Q (.int (max i j)) M
 |[.tup a,.tup b]=>∃ns c,a=Jp D.int ns/\b=Jp D.int c/\Q (.tup (Jp D.int (if HT.cz c ns=KN then c else ns))) M
 |_=>False
def Gg:RC:=λd M Q=>match d with
 |[.int i,.int j]=>Q (.int (min i j)) M
 |[.tup a,.tup b]=>∃ns c,a=Jp D.int ns/\b=Jp D.int c/\Q (.tup (Jp D.int (if HT.lexLt c ns=KN then c else ns))) M
 |_=>False
theorem oh(i:X.calm=KN)(o:X.A.units+64<J9):d4 X (.builtin "max") Gi:=cj (b5.or (Cj i) (uQ i o)) λvs H Q r=>by
 let[b,M,R,j,a,q,fin]:=r;rcases b with _|⟨d,b⟩
 .exact Ic q
 cases d<;>rcases b with _|⟨e,b⟩<;>try exact Ic q
 all_goals (cases e<;>rcases b with _|⟨f,b⟩<;>try exact Ic q)
 .exact .inl #[_,M,R,j,a,q,fin]
 .obtain⟨ns,h,rfl,rfl,q⟩:=q;let[v,u,rfl,k,l]:=gc j;rw[Rep]at k;let[p,xs,rfl,hx,m]:=k;obtain⟨s,t,rfl,hy,n⟩:∃a xs,u=V.ref a/\Lm X.K H a xs/\aC X.K H (Jp D.int h) xs:=by rw[Rep]at l;exact l
  have c:=hx;have g:=hy;rw[dm m]at c;rw[dm n]at g;refine .inr #[p,s,ns,h,rfl,c,g,fin _ _ _ _ .refl ?_ a q];by_cases z:HT.cz h ns=KN
  .rw[KQ z,KQ z,Rep];exact #[_,7,hy,n]
  .rw[KP z,KP z,Rep];exact #[_,7,hx,m]
theorem oI(i:X.calm=KN)(o:X.A.units+64<J9):d4 X (.builtin "min") Gg:=cj (b5.or (BR i) (vS i o)) λvs H Q r=>by
 let[b,M,R,j,a,q,fin]:=r;rcases b with _|⟨d,b⟩
 .exact Ic q
 cases d<;>rcases b with _|⟨e,b⟩<;>try exact Ic q
 all_goals (cases e<;>rcases b with _|⟨f,b⟩<;>try exact Ic q)
 .exact .inl #[_,M,R,j,a,q,fin]
 .obtain⟨ns,h,rfl,rfl,q⟩:=q;let[v,u,rfl,k,l]:=gc j;rw[Rep]at k;let[p,xs,rfl,hx,m]:=k;obtain⟨s,t,rfl,hy,n⟩:∃a xs,u=V.ref a/\Lm X.K H a xs/\aC X.K H (Jp D.int h) xs:=by rw[Rep]at l;exact l
  have c:=hx;have g:=hy;rw[dm m]at c;rw[dm n]at g;refine .inr #[p,s,ns,h,rfl,c,g,fin _ _ _ _ .refl ?_ a q];by_cases z:HT.lexLt h ns=KN
  .rw[KQ z,KQ z,Rep];exact #[_,7,hy,n]
  .rw[KP z,KP z,Rep];exact #[_,7,hx,m]
end
end SD
namespace Ma
open SD
theorem zJ{p z:Int}(h:0<p):0<p*z↔0<z:=by
 constructor
 .intro q;by_cases a:0<z
  .exact a
  .have:p*z<=0:=Int.mul_nonpos_of_nonneg_of_nonpos () ();omega
 .exact λq=>Ij h q
theorem vU{a b c d:Int}(f:0<b)(hd:0<d):Rat.divInt a b<Rat.divInt c d↔a*d<c*b:=by
 have e:=Rat.divInt_sub_divInt c a (d₁:=d) (d₂:=b) () ();have h1:Rat.divInt a b<Rat.divInt c d↔0<Rat.divInt c d-Rat.divInt a b:=by constructor<;>intro z<;>grind
 rw[h1,e,lB (Ij hd f)];omega
def ut(t b X m x:Int):Rat:=Rat.divInt (x*t+X*m) (b*m)
theorem tJ{t b X m n x y:Int}(c:0<t)(a:0<b)(d:0<m)(f:0<n):ut t b X m x<ut t b X n y↔n*x<m*y:=by
 unfold ut;rw[vU (Ij a d) (Ij a f)];have e:(y*t+X*n)*(b*m)-(x*t+X*m)*(b*n)=(b*t)*(m*y-n*x):=by grind
 have:=zJ (z:=m*y-n*x) (Ij a c);omega
theorem lK{t b X m n x y:Int}(d:0<t)(f:0<b)(g:0<m)(h:0<n):ut t b X m x=ut t b X n y↔n*x=m*y:=by
 have h1:=tJ (X:=X) (x:=x) (y:=y) d f g h;have i:=tJ (X:=X) (x:=y) (y:=x) d f h g;constructor
 .intro e;have a:¬ut t b X m x<ut t b X n y:=by rw[e];exact Rat.lt_irrefl
  have c:¬ut t b X n y<ut t b X m x:=by rw[e];exact Rat.lt_irrefl
  rw[h1]at a;rw[i]at c;omega
 .intro e;have a:¬ut t b X m x<ut t b X n y:=by rw[h1];omega
  have c:¬ut t b X n y<ut t b X m x:=by rw[i];omega
  grind
theorem xC{t b X x:Int}:Rat.divInt (x*t+X) b=ut t b X 1 x:=by unfold ut;rw[Int.mul_one,Int.mul_one]
theorem Fi{t b X Y m n x y u v:Int}(a:0<t)(c:0<b)(d:0<m)(e:0<n) : ah (ut t b X m x) (ut t b Y m y) (ut t b X n u) (ut t b Y n v)↔HT.lexLt [n*x,n*y] [m*u,m*v]=KN:=by
 unfold ah;rw[tJ a c d e,lK a c d e,tJ a c d e];simp only[HT.lexLt];by_cases h:n*x=m*u
 .rw[KQ h];by_cases f:n*y=m*v
  .rw[KQ f];simp;omega
  .rw[KP f];simp;omega
 .rw[KP h];simp;omega
theorem uT(a b c d:Int):HT.lexLe [a,b] [c,d]=!HT.lexLt [c,d] [a,b]:=by
 simp only[HT.lexLe,HT.lexLt];by_cases h:a=c
 .subst h;rw[KQ rfl,KQ rfl];by_cases f:b=d
  .subst f;rw[KQ rfl,KQ rfl];rfl
  .rw[KP f,KP (λe=>f e.symm)];rw[<-decide_not,KU];omega
 .rw[KP h,KP (λe=>h e.symm),<-decide_not,KU];omega
theorem u9(a b c d:Int):HT.cz [a,b] [c,d]=HT.lexLt [c,d] [a,b]:=by
 simp only[HT.cz,HT.lexLt];by_cases h:a=c
 .subst h;rw[KQ rfl,KQ rfl];by_cases f:b=d
  .subst f;simp
  .rw[KP f,KP (λe=>f e.symm)]
 .rw[KP h,KP (λe=>h e.symm)]
theorem nh{a b c d:Int}:HT.lexLt [a,b] [c,d]=KN↔a<c\/(a=c/\b<d):=by
 simp only[HT.lexLt];by_cases h:a=c
 .subst h;rw[KQ rfl];by_cases e:b=d
  .subst e;rw[KQ rfl];simp
  .rw[KP e];simp
 .rw[KP h];simp;omega
end Ma
open Ma renaming wll->LJ,ut->LK,Bq->LL,ah->LM,pos_int->LN,cr->LO,sgn->LP,lK->LQ,kI->LR,spt->LS,fr->LU,iJ->LV,den_pos->LW
namespace SD
open PySem PySem.Spec PyProof.Rows L2
theorem av{M:MH}{a p:PySem.Addr}{o:MO}(h:M a=KJ o)(b:M p=KL):a≠p:=λe=>by subst e;rw[h]at b;cases b
def Wq(t b x y:Int):D:=.tup [.int t,.int b,.int x,.int y]
structure MK(t b x y:Int):Prop where
 t0:0<t
 t1:t<=10^24
 b0:0<b
 b1:b<=10^26
 x0:-(10^30)<=x
 x1:x<=10^30
 y0:-(10^30)<=y
 y1:y<=10^30
def uw(w:Int×Int×Int×Int):D:=.tup [.tup [.int w.1,.int w.2.1],.tup [.int w.2.2.1,.int w.2.2.2]]
def L6(t b x y:Int)(w:Int×Int×Int×Int):D:=LJ (LK t b x 1 w.1) (LK t b y 1 w.2.1) (LK t b x 1 w.2.2.1) (LK t b y 1 w.2.2.2)
def Yt(n:Int)(w:Int×Int×Int×Int):Prop:=(-n<=w.1/\w.1<=n)/\(-n<=w.2.1/\w.2.1<=n)/\(-n<=w.2.2.1/\w.2.2.1<=n)/\(-n<=w.2.2.2/\w.2.2.2<=n)
theorem range_getD(l:r8):(HK l.length).map (λi=>(l[i]?).getD .non)=l:=by refine List.ext_getElem (by simp) λi h1 a=>?_;simp[a]
theorem getD_map{b:Type}{f:b->D}{l:List b}{i:Nat}{a:b}(h:l[i]?=KJ a):((l.map f)[i]?).getD .non=f a:=by rw[HF,h];rfl
theorem Bp{t b x m p:Int}(g:0<t/\t<=10^24)(a:0<b/\b<=10^26)(hx:-(10^30)<=x/\x<=10^30)(c:0<m/\m<=10^6)(h:-(10^6)<=p/\p<=10^6):LL 200 (LK t b x m p):=by
 have d:Bd 80 t:=by show t.natAbs<2^80;omega
 have bm:Bd 64 m:=by show m.natAbs<2^64;omega
 have e:Bd 64 p:=by show p.natAbs<2^64;omega
 have f:Bd 90 b:=by show b.natAbs<2^90;omega
 have bx:Bd 100 x:=by show x.natAbs<2^100;omega
 refine Ma.Bq.divInt (by have:=Ij a.1 c.1;omega) ?_ ((f.mul bm).mono ⋯);exact(((e.mul d).mono (by decide:64+80<=164)).add (bx.mul bm)).mono ⋯
theorem MK.bx{t b x y m p:Int}(S:MK t b x y)(a:0<m/\m<=10^6)(c:-(10^6)<=p/\p<=10^6):LL 200 (LK t b x m p):=Bp #[S.t0,S.t1] #[S.b0,S.b1] #[S.x0,S.x1] a c
theorem MK.by'{t b x y m p:Int}(S:MK t b x y)(a:0<m/\m<=10^6)(c:-(10^6)<=p/\p<=10^6):LL 200 (LK t b y m p):=Bp #[S.t0,S.t1] #[S.b0,S.b1] #[S.y0,S.y1] a c
theorem zm(a b c d:Int):J0 (.tuple [.int a,.int b]) (.tuple [.int c,.int d])=decide (a=c/\b=d):=by simp only[J0,Jl,nV,Bool.and_true,Bool.decide_and]
open PySem PySem.Spec PyProof.Rows L2 Ma
instance(a b c d:Rat):Decidable (LM a b c d):=inferInstanceAs (Decidable (_\/_))
def Mg(a b c d:Int):Int:=a*d-b*c
theorem Cf{t b X m x:Int}(a:0<b)(c:0<m):LK t b X m x=((t:Rat)/b)*((x:Rat)/m)+(X:Rat)/b:=by
 unfold LK;rw[Rat.divInt_eq_div];have h1:(b:Rat)≠0:=by have:=LN a;grind
 have d:(m:Rat)≠0:=by have:=LN c;grind
 rw[Rat.intCast_add,Rat.intCast_mul,Rat.intCast_mul,Rat.intCast_mul];grind
theorem gV{t b X x:Int}(a:0<b):LK t b X 1 x=((t:Rat)/b)*(x:Rat)+(X:Rat)/b:=by rw[Cf a ⋯];have:((1:Int):Rat)=1:=rfl;rw[this];grind
theorem DB(k x y p q r s e f:Rat):LO (k*p+x) (k*q+y) (k*r+x) (k*s+y) (k*e+x) (k*f+y)=k*k*((r-p)*(f-q)-(s-q)*(e-p)):=by unfold LO;grind
theorem Gk{t b X Y p q r s e f:Int}(a:0<b):LO (LK t b X 1 p) (LK t b Y 1 q) (LK t b X 1 r) (LK t b Y 1 s) (LK t b X 1 e) (LK t b Y 1 f)=((t:Rat)/b)*((t:Rat)/b)*((Mg (r-p) (s-q) (e-p) (f-q):Int):Rat):=by rw[gV a,gV a,gV a,gV a,gV a,gV a,DB];unfold Mg;rw[Rat.intCast_sub,Rat.intCast_mul,Rat.intCast_mul,Rat.intCast_sub,Rat.intCast_sub,Rat.intCast_sub,Rat.intCast_sub]
theorem sgn_mul{k:Rat}(a:0<k)(z:Int):LP (k*(z:Rat))=Ie z:=by
 unfold LP;by_cases h1:0<z
 .rw[KQ (Rat.mul_pos a (LN h1)),IE h1]
 .by_cases b:z<0
  .have c:0<k*((-z:Int):Rat):=Rat.mul_pos a (LN ());rw[Rat.intCast_neg]at c;rw[KP (by grind),KQ (by grind),Ir b]
  .obtain rfl:z=0:=()
   have:((0:Int):Rat)=0:=rfl;rw[this];simp
theorem ER{t b X Y p q e f:Int}(a:0<t)(c:0<b):LM (LK t b X 1 p) (LK t b Y 1 q) (LK t b X 1 e) (LK t b Y 1 f)↔(p<e\/(p=e/\q<f)):=by rw[Ma.Fi a c ⋯ ⋯,Ma.nh];omega
end SD
namespace HT
open PySem PyProof.Rows
end HT
namespace SD
open PySem PySem.Spec PyProof.Rows L2
section
variable{X:Cx}
def Fy(g:Bool->Bool):Mh:=λx y M Q=>∃p ps,Pd M x p/\(Pd M y (.list ps)\/Pd M y (.tuple ps))/\JY p=KN/\JL ps=KN/\Q (.bl (g (ps.any λq=>J0 q p))) M
theorem rS{p:K8}{n:Nat}(h:JY p=KN):min n p.depth<=63+1:=ID (Nat.min_le_right _ _) (SeqAt.depth_of_shaped h)
theorem jn(q:X.A.units+66<J9):Mi X (IM .NotIn) (Fy λb=>!b):=by
 intro KZ s σ H v u r t Q I l f h;obtain⟨x,y,M,R,m,g,a,⟨p,ps,o,c,d,i,j⟩,fin⟩:=h;let[w,k]:=cm I a o m l;have z:=rS (n:=Jx ps) d;rcases c with c|c
 .obtain⟨bs,e⟩:=cm I a c g f;exact SeqAt.notIn_list_reads e k i (SeqAt.canLay_of_shaped d) () #[.bl _,H,I,rfl,fin _ _ _ _ .refl (by rw[Rep]) a j]
 .obtain⟨bs,e⟩:=cm I a c g f;exact SeqAt.notIn_tuple_reads e k i (SeqAt.canLay_of_shaped d) () #[.bl _,H,I,rfl,fin _ _ _ _ .refl (by rw[Rep]) a j]
theorem pU{K:Ht}{H:Hp}:∀{bs:List Bool} {xs:ry},aC K H (bs.map D.bl) xs->xs=bs.map V.bl
 |[],xs,h=>by rw[Jm,aC]at h;exact h
 |n::ns,xs,h=>by
  rw[HI,aC]at h
  let[x,r,rfl,h1,a]:=h
  rw[Rep]at h1
  rw[h1,pU a];rfl
theorem lR:∀{bs:List Bool} {us:List Hu},Vals (bs.map V.bl) us->us=bs.map Value.bool
 |[],_,.nil=>rfl
 |b::bs,_,.cons r t=>by
  cases (show _=Value.bool b from r)
  rw[lR t];rfl
def EN(to:TD)(t:Ly):TD:=λδ M Q=>to δ M λx a=>∃l c,x=.ref l/\a l=KJ (.lst c)/\t δ a λe b=>∃xs d,e=[d]/\b l=KJ (.lst xs)/\xs.length<1000000/\Q .non (au b l (.lst (xs++[d])))
variable{o e:pv}{to:TD}{t:Ly}{apos LD:Pos}
theorem bQ(w:DE X o to)(y:DA X [e] t)
 (b:JX o "append" X.env (eval o X.env)=eval o X.env:=by rfl)
 (i:((Jc LD (HM [e] X.env)).all (λx=>!x.1)&&(KG LD (JQ [] X.env)).all (λx=>x.1.isSome)
  && decide ([e].length+([]:List Keyword).length+(if([]:List Keyword).isEmpty then 0 else 1)<30))=KN:=by rfl)
 (c:(apos.endLine==LD.line)=KN:=by rfl) (z:HM [e] X.env=(KO,eval e X.env)::HM [] X.env:=by rfl) (a:(Jc LD (HM [] X.env)).any (·.1)=KO:=by rfl) :
 DE X (.Call (.Attribute o "append" apos) [e] [] LD) (EN to t):=
 aY (Bh PySem.F.plainAttrs_list PySem.F.slot_list_append PySem.F.type_list_append jD w y b i c z a) λσ H Q A=>by
  let[δ,M,R,j,B,q,fin]:=A
  refine #[δ,M,_,j,B,q,λx C v H1 g1 n p f=>?_]
  let[l,N,ex,D,E]:=f
  subst ex
  rw[Rep]at n
  subst n
  let[vs,m,_]:=p _ _ D
  refine #[.inl #[rfl,vs,Ln.of m],δ,C,_,j.mono g1,p,E,λO P us S G I r g=>?_]
  let[xs,d,J,hx,T,K]:=g
  subst J
  let[u,rfl,L]:=bP I
  let[ws,h,k]:=r _ _ hx
  have s:=k.length
  exists l,ws,u,rfl,rfl,h,Ig () (show 1000000<=HR from L8 rfl)
  exact fin _ _ _ _ (g1.trans (G.trans (.lst h))) (by rw[Rep]) (r.wt h (k.append (.cons L .nil))) K
end
theorem iK{k:Nat}{A:Iv}(r:La k A):A.units+66<J9:=by have:=r.un;omega
abbrev Wl:=Int×Int×Int×Int
abbrev _root_.r3:=List Wl
def la(x y:Int):Int:=100*x+y
def l1(w:Wl):Int:=la w.1 w.2.1
def l2(w:Wl):Int:=la w.2.2.1 w.2.2.2
def sd(w:Wl)(x y:Int):Int:=Mg (w.2.2.1-w.1) (w.2.2.2-w.2.1) (x-w.1) (y-w.2.1)
def Lh(w v:Wl):Int:=sd w v.1 v.2.1
def Lj(w v:Wl):Int:=sd w v.2.2.1 v.2.2.2
structure Le(w:Wl):Prop where
 a:0<=w.1/\w.1<=20
 b:0<=w.2.1/\w.2.1<=20
 c:0<=w.2.2.1/\w.2.2.1<=20
 d:0<=w.2.2.2/\w.2.2.2<=20
 lt:l1 w<l2 w
def aV(w:Wl)(l s:Int):Prop:=l=l1 w\/l=l2 w\/l<l1 w\/l2 w<l\/s≠0
structure Lv(U V:Wl):Prop where
 ne:¬(l1 U=l1 V/\l2 U=l2 V)
 e1:aV U (l1 V) (Lh U V)
 e2:aV U (l2 V) (Lj U V)
 e3:aV V (l1 U) (Lh V U)
 e4:aV V (l2 U) (Lj V U)
 pr:0<=Ie (Lh U V)*Ie (Lj U V)\/0<=Ie (Lh V U)*Ie (Lj V U)
theorem Lv.swap{U V:Wl}(h:Lv U V):Lv V U:=#[λz=>h.ne #[z.1.symm,z.2.symm],h.e3,h.e4,h.e1,h.e2,h.pr.symm]
def Ll(U V:Wl):Bool:=
 if max (l1 U) (l1 V)<min (l2 U) (l2 V)then
  if l1 U=l1 V then(if l2 U<l2 V then decide (0<Lj V U)else decide (Lj U V<0))
  else if l1 V<l1 U then decide (0<Lh V U)else decide (Lh U V<0)
 else KO
theorem Z3(z:Int):Ie z=1↔0<z:=Int.sign_eq_one_iff_pos
theorem Z0(z:Int):-Ie z=1↔z<0:=by
 rcases Ih z 0 with h|h|h
 .rw[Ir h];omega
 .subst h;simp
 .rw[IE h];omega
theorem Yo{x y:Int}(h:0<=Ie x*Ie y):¬(0<x/\y<0)/\¬(x<0/\0<y):=by
 constructor
 .rintro⟨a,b⟩;rw[IE a,Ir b]at h;omega
 .rintro⟨a,b⟩;rw[Ir a,IE b]at h;omega
theorem jQ{z k:Int}(a:0<k)(h:0<z*k):0<z:=by
 rcases Ih z 0 with q|q|q
 .have:=IC q a;omega
 .subst q;simp at h
 .exact q
theorem oN{z k:Int}(a:0<k)(h:z*k<0):z<0:=by
 rcases Ih z 0 with q|q|q
 .exact q
 .subst q;simp at h
 .have:=Ij q a;omega
theorem within{a b c d f g e v2:Int}(o:a*(v2-e)=d*(f-e)-c*(g-e))(p:b*(v2-e)=d*(f-v2)-c*(g-v2))
 (h1:e<f) (q:e<g) (r:f<v2) (s:g<v2) (F:(¬(0<c/\d<0)/\¬(c<0/\0<d))\/(¬(0<a/\b<0)/\¬(a<0/\0<b))) (c0:c≠0) (t:d≠0):0<c↔0<d:=by
 have k:0<v2-e:=()
 have u:¬(0<c/\d<0):=λh=>by
  let[x,y]:=h
  have i:=IC y (():0<f-e)
  have j:=Ij x (():0<g-e)
  have l:=IP y (():f-v2<0)
  have m:=Ii x (():g-v2<0)
  have n:=oN (z:=a) k ()
  have b1:=jQ (z:=b) k ()
  omega
 have v:¬(c<0/\0<d):=λh=>by
  let[x,y]:=h
  have i:=Ij y (():0<f-e)
  have j:=IC x (():0<g-e)
  have l:=Ii y (():f-v2<0)
  have m:=IP x (():g-v2<0)
  have n:=jQ (z:=a) k ()
  have b1:=oN (z:=b) k ()
  omega
 omega
theorem t7{a b c d f g h v2:Int}(p:b*(v2-h)=d*(f-v2)-c*(g-v2))(q:c*(g-f)=b*(h-f)-a*(v2-f))
 (h1:h<f) (r:f<v2) (s:v2<g) (F:(¬(0<c/\d<0)/\¬(c<0/\0<d))\/(¬(0<a/\b<0)/\¬(a<0/\0<b))) (c0:c≠0) (b0:b≠0):0<c↔b<0:=by
 have e:d*(f-v2)=-(d*(v2-f)):=by rw[<-Int.mul_neg];congr 1;omega
 have t:¬(0<c/\0<b):=λi=>by
  let[x,y]:=i
  have j:=Ij y (():0<v2-h)
  have k:=Ij x (():0<g-v2)
  have l:=Ij x (():0<g-f)
  have m:=Ii y (():h-f<0)
  have n:=oN (z:=a) (():0<v2-f) ()
  have o:=oN (z:=d) (():0<v2-f) ()
  omega
 have u:¬(c<0/\b<0):=λi=>by
  let[x,y]:=i
  have j:=IC y (():0<v2-h)
  have k:=IC x (():0<g-v2)
  have l:=IC x (():0<g-f)
  have m:=IP y (():h-f<0)
  have n:=jQ (z:=a) (():0<v2-f) ()
  have o:=jQ (z:=d) (():0<v2-f) ()
  omega
 omega
theorem zG(U V:Wl):Lh U V*(l2 V-l1 V)=Lj V U*(l1 U-l1 V)-Lh V U*(l2 U-l1 V):=by unfold Lh Lj sd l1 l2 la Mg;grind
theorem Av(U V:Wl):Lj U V*(l2 V-l1 V)=Lj V U*(l1 U-l2 V)-Lh V U*(l2 U-l2 V):=by unfold Lh Lj sd l1 l2 la Mg;grind
theorem lH{x y u v:Int}(h1:0<=y/\y<=20)(a:0<=v/\v<=20)(h:la x y=la u v):x=u/\y=v:=by unfold la at h;omega
theorem Bn{U V:Wl}(a:Le U)(c:Le V)(h:l1 U=l1 V):Lh U V=0:=by let[e1,e2]:=lH a.b c.b h;unfold Lh sd Mg;rw[e1,e2];simp
theorem pJ{U V:Wl}(a:Le U)(b:Le V)(h:l2 U=l2 V):Lj U V=0:=by let[e1,e2]:=lH a.d b.d h;unfold Lj sd Mg;rw[e1,e2];grind
theorem aV.nz{w:Wl}{l s:Int}(h:aV w l s)(h1:l1 w<l)(a:l<l2 w):s≠0:=by
 unfold aV at h;rcases h with h|h|h|h|h
 .omega
 .omega
 .omega
 .omega
 .exact h
theorem fY{a b c v2:Int}:max a c<min b v2↔a<b/\a<v2/\c<b/\c<v2:=by rw[Int.max_lt,Int.lt_min,Int.lt_min,and_assoc]
section
variable{U V:Wl}(ap:max (l1 U) (l1 V)<min (l2 U) (l2 V))
include ap
theorem tI(z:l1 U<l1 V):Ll U V=decide (Lh U V<0):=by unfold Ll;rw[KQ ap,KP (Int.ne_of_lt z),KP (Int.not_lt.mpr (IL z))]
theorem tF(z:l1 V<l1 U):Ll U V=decide (0<Lh V U):=by unfold Ll;rw[KQ ap,KP (λe=>Int.ne_of_lt z e.symm),KQ z]
theorem tN(z:l1 U=l1 V)(y:l2 U<l2 V):Ll U V=decide (0<Lj V U):=by unfold Ll;rw[KQ ap,KQ z,KQ y]
theorem ui(z:l1 U=l1 V)(y:¬l2 U<l2 V):Ll U V=decide (Lj U V<0):=by unfold Ll;rw[KQ ap,KQ z,KP y]
end
theorem wL{a:Int}(h:a≠0):decide (0<a)=!decide (a<0):=by rw[<-decide_not,KU];omega
theorem y8{a:Int}(h:a≠0):decide (a<0)=!decide (0<a):=by rw[<-decide_not,KU];omega
theorem qN{U V:Wl}(d:Le U)(e:Le V)(F:Lv U V)(b:max (l1 U) (l1 V)<min (l2 U) (l2 V)):Ll V U=!Ll U V:=by
 have c:=b;rw[Int.max_comm,Int.min_comm]at c;have o:=fY.mp b;rcases Ih (l1 U) (l1 V)with h|h|h
 .rw[tF c h,tI b h,wL (F.e1.nz h o.2.2.1)]
 .rcases Ih (l2 U) (l2 V)with a|a|a
  .rw[ui c h.symm (Int.not_lt.mpr (IL a)),tN b h a,y8 (F.e4.nz o.2.2.1 a)]
  .exact absurd #[h,a] F.ne
  .rw[tN c h.symm a,ui b h (Int.not_lt.mpr (IL a)),wL (F.e2.nz o.2.1 a)]
 .rw[tI c h,tF b h,y8 (F.e3.nz h o.2.1)]
theorem mY{a b c d:Int}(e:0<=b/\b<=20)(hd:0<=d/\d<=20):HT.lexLt [a,b] [c,d]=decide (la a b<la c d):=by have h:=Ma.nh (a:=a) (b:=b) (c:=c) (d:=d);rw[Bool.eq_iff_iff,h,decide_eq_true_eq];unfold la;omega
theorem BH{a b c d:Int}(e:0<=b/\b<=20)(hd:0<=d/\d<=20):HT.lexLe [a,b] [c,d]=decide (la a b<=la c d):=by rw[Ma.uT,mY hd e,<-decide_not,KU];omega
theorem Bv{a b c d:Int}(e:0<=b/\b<=20)(hd:0<=d/\d<=20):HT.cz [a,b] [c,d]=decide (la c d<la a b):=by rw[Ma.u9,mY hd e]
theorem wR{x y u v:Int}(h1:0<=y/\y<=20)(a:0<=v/\v<=20):(x=u/\y=v)↔la x y=la u v:=by unfold la;omega
theorem oQ{I:OY}{tk:OO}{js:q7}{tc:MI}{te:TD}{δ:DS}{b:MH}{Q:DK}(f:Nat->r_)(j:I.n<=1000000)(hC:∀p a,b p=KL->I.C (au b p (.lst a))) (h:∀i d M,i<I.n->I.item i=KJ d->Sub b M->∃os,vy tk d os/\(∀K:Bool->MH->Prop,K (f i).isSome M->tc (cδ os js δ) M K)/\∀e,f i=KJ e->∀K:DK,(∀c,Sub M c->K e c)->te (cδ os js δ) M K) (k:∀p,b p=KL->Q (.ref p) (au b p (.lst ((HK I.n).filterMap f)))):ud I tk js tc te δ b Q:=by
 refine #[j,λp g=>#[λi a M=>a=(HK i).filterMap f/\M=au b p (.lst a),#[rfl,rfl],?_,?_,?_]]
 .rintro i a M _ ⟨_,rfl⟩;exact hC p a g
 .rintro i a d M l hd ⟨rfl,rfl⟩;let[os,m,o,q]:=h i d _ l hd (.new g .refl);refine #[os,m,o _ ?_];cases e:f i with
  |none=>
   refine lW rfl #[_,.refl,?_,?_]
   .rw[Ka,List.filterMap_append];simp[e]
   .rfl
  |some v=>
   refine rj rfl (q v e _ λc r=>#[_,r,ag,?_,by rw[bg]])
   rw[Ka,List.filterMap_append];simp[e]
 .rintro a M ⟨rfl,rfl⟩;exact k p g
theorem v9{A:Wl}{x y:Int}(c:Le A)(hy:0<=y/\y<=20)(h:(!(decide (A.1=x/\A.2.1=y)||decide (A.2.2.1=x/\A.2.2.2=y))&&(decide (l1 A<=la x y)&&decide (la x y<=l2 A)&&decide (sd A x y=0)))=KO):aV A (la x y) (sd A x y):=by
 unfold aV;by_cases h1:A.1=x/\A.2.1=y
 .exact .inl ((wR c.b hy).mp h1).symm
 .by_cases e:A.2.2.1=x/\A.2.2.2=y
  .exact .inr (.inl ((wR c.d hy).mp e).symm)
  .rw[KR h1,KR e,Bool.or_false,Bool.not_false,Bool.true_and,<-Bool.decide_and,<-Bool.decide_and,decide_eq_false_iff_not]at h;by_cases f:sd A x y=0
   .rcases Int.lt_or_le (la x y) (l1 A)with z|z
    .exact .inr (.inr (.inl z))
    .rcases Int.lt_or_le (l2 A) (la x y)with a|a
     .exact .inr (.inr (.inr (.inl a)))
     .exact absurd #[#[z,a],f] h
   .exact .inr (.inr (.inr (.inr f)))
theorem Br(z:Int):Bd 64 (Ie z):=by
 rcases Ih z 0 with h|h|h
 .rw[Ir h];decide
 .subst h;decide
 .rw[IE h];decide
def PF(ws:r3):Prop:=∀(i j:Nat) (U V:Wl),i≠j->ws[i]?=KJ U->ws[j]?=KJ V->Lv U V
theorem xu:PF []:=λi j U V _ h=>by simp at h
theorem vK{ws:r3}{U:Wl}(h:PF ws)(d:∀(j:Nat) (w:Wl),ws[j]?=KJ w->Lv U w):PF (ws++[U]):=by
 intro i j A B c f g
 have get:∀{k:Nat} {C:Wl},(ws++[U])[k]?=KJ C->ws[k]?=KJ C\/(k=ws.length/\C=U):=λ{k C} e=>by
  rcases Nat.lt_trichotomy k ws.length with z|z|z
  .rw[IB z]at e;exact .inl e
  .subst z;rw[Iz (HD _)]at e;simp at e;exact .inr #[rfl,e.symm]
  .rw[List.getElem?_eq_none (by simp;omega)]at e;cases e
 rcases get f with a|⟨a,rfl⟩<;>rcases get g with b|⟨b,rfl⟩
 .exact h i j A B c a b
 .exact(d _ _ a).swap
 .exact d _ _ b
 .omega
theorem vF{p q e f:Int}(c:0<=p/\p<=20)(a:0<=q/\q<=20)(d:0<=e/\e<=20)(b:0<=f/\f<=20)(ne:¬(p=e/\q=f)) :
 ∃w:Wl,(if HT.lexLt [e,f] [p,q]=KN then[e,f]else[p,q])=[w.1,w.2.1]/\(if HT.cz [e,f] [p,q]=KN then[e,f]else[p,q])=[w.2.2.1,w.2.2.2]/\Le w:=by
 rw[mY b a,Bv b a]
 have i:la p q≠la e f:=λz=>ne ((wR a b).mpr z)
 by_cases h:la e f<la p q
 .exact #[(e,f,p,q),by rw[KQ (KS h)],by rw[KP (by simp;omega)],#[d,b,c,a,h]]
 .have g:la p q<la e f:=()
  exact #[(p,q,e,f),by rw[KP ‹h›],by rw[KQ (KS g)],#[c,a,d,b,g]]
theorem oF{t b X Y p q e f:Int}(a:0<t)(c:0<b)(d:0<=q/\q<=20)(g:0<=f/\f<=20):LM (LK t b X 1 p) (LK t b Y 1 q) (LK t b X 1 e) (LK t b Y 1 f)↔la p q<la e f:=by rw[ER a c];unfold la;omega
theorem jl{t b X Y p q e f:Int}(a:0<t)(c:0<b)(d:0<=q/\q<=20)(g:0<=f/\f<=20):(LK t b X 1 p=LK t b X 1 e/\LK t b Y 1 q=LK t b Y 1 f)↔la p q=la e f:=by rw[LQ a c ⋯ ⋯,LQ a c ⋯ ⋯];unfold la;omega
theorem lQ{t b X Y:Int}(c:0<t)(a:0<b)(w:Wl)(x y:Int):LP (LO (LK t b X 1 w.1) (LK t b Y 1 w.2.1) (LK t b X 1 w.2.2.1) (LK t b Y 1 w.2.2.2) (LK t b X 1 x) (LK t b Y 1 y))=Ie (sd w x y):=by
 have k:(0:Rat)<(t:Rat)/b:=by rw[Rat.div_def];exact Rat.mul_pos (LN c) (Rat.inv_pos.mpr (LN a))
 rw[Gk a,sgn_mul (Rat.mul_pos k k)];rfl
theorem GH(z:Int):Ie z=-1↔z<0:=by rw[<-Z0];omega
theorem jm{M:MH}:∀ns:q_,OF M (ns.map D.int) (ns.map JM)
 |[]=>.nil
 |n::ns=>.cons (.int n) (jm ns)
theorem lay_ints:∀ns:q_,JL (ns.map JM)=KN
 |[]=>rfl
 |n::ns=>by rw[HI,JL,lay_ints ns];rfl
theorem any_ints(k:Int)(ns:q_):(ns.map JM).any (λq=>J0 q (.int k))=ns.any (λz=>z==k):=by
 rw[List.any_map]
 congr 1
theorem uC{M:MH}{l:pd}{ns:q_}(k:Int)(g:Bool->Bool)(Q:DK)(h:M l=KJ (.lst (ns.map D.int)))(q:Q (.bl (g (ns.any (λz=>z==k)))) M):Fy g (.int k) (.ref l) M Q:=by exists _,_,.int k,.inl (.lst h (jm ns)),rfl,lay_ints ns;rw[any_ints];exact q
section
variable{X:Cx}
def gi{a:Type}(xs:List a)(j:Nat)(y:a):List a:=xs.take j++y::xs.drop j
def zq:V->ry->Hp->VK->Prop:=λx vs H Q=>∃l xs y,∃(k:Int) (j:Nat),x=.ref l/\vs=[.int k,y]/\k=(j:Int)/\H l=KJ (.lst xs)/\j<=xs.length/\xs.length<1000000/\Q .non (upd H l (.lst (gi xs j y)))
theorem Ay(its:List Hu)(k:Int)(j:Nat)(u:Hu)(a:k=(j:Int))(b:j<=its.length) :
 (its.toArray.extract 0 (if k<0 then(k+((its.toArray.size:Nat):Int)).toNat else min k.toNat its.toArray.size)).push u++its.toArray.extract (if k<0 then(k+((its.toArray.size:Nat):Int)).toNat else min k.toNat its.toArray.size)=(gi its j u).toArray:=by
 have e:(if k<0 then(k+((its.toArray.size:Nat):Int)).toNat else min k.toNat its.toArray.size)=j:=by
  rw[KP (),HL];omega
 rw[e]
 apply Array.toList_inj.mp
 simp[gi]
 exact JN (by simp)
theorem uM:Ye X "list.insert" zq:=by
 intro KZ s σ H x vs v us Q I g h i;let[l,xs,y,k,j,ex,m,o,f,A,B,q]:=i;subst ex m;cases g;let[C,c,rfl,p,u]:=h.two;let[t,rfl]:=p;let[z,a,n,r,w,e]:=I.pV f;have b:Builtin.List.listFitsIndex k=KN:=by unfold Builtin.List.listFitsIndex;simp;omega
 have d:a.toArray.size<=HR:=by rw[HL,<-w];exact z
 refine call_meets PySem.F.slot_list_insert #[_,e,rfl] PySem.F.entry_list_insert (PySem.F.args_list_insert_3 _ _ _) (PySem.AutoSeq1.list_insert_list_int_val_1 l a.toArray n k t c (by rw[b];decide) d) #[e,?_];refine #[.non,_,I.EL (its':=gi a j c) f e (Ay a k j c o ()) ((Vals.take j r).append (.cons u (Vals.drop j r))) ?_,rfl,q];show(xs.take j++y::xs.drop j).length<=HR;simp only[IJ,JE,Io,List.length_drop];have:1000000<=HR:=L8 rfl;omega
def F6(to:TD)(t:Ly):TD:=λδ M Q=>to δ M λx a=>∃l c,x=.ref l/\a l=KJ (.lst c)/\t δ a λe b=>∃xs d,∃j:Nat,e=[.int (j:Int),d]/\b l=KJ (.lst xs)/\j<=xs.length/\xs.length<1000000/\Q .non (au b l (.lst (gi xs j d)))
variable{o e1 e2:pv}{to:TD}{t:Ly}{apos LD:Pos}
theorem gu(y:DE X o to)(z:DA X [e1,e2] t)
 (b:JX o "insert" X.env (eval o X.env)=eval o X.env:=by rfl)
 (i:((Jc LD (HM [e1,e2] X.env)).all (λx=>!x.1)&&(KG LD (JQ [] X.env)).all (λx=>x.1.isSome)
  && decide ([e1,e2].length+([]:List Keyword).length+(if([]:List Keyword).isEmpty then 0 else 1)<30))=KN:=by rfl)
 (c:(apos.endLine==LD.line)=KN:=by rfl) (A:HM [e1,e2] X.env=(KO,eval e1 X.env)::HM [e2] X.env:=by rfl) (a:(Jc LD (HM [e2] X.env)).any (·.1)=KO:=by rfl) :
 DE X (.Call (.Attribute o "insert" apos) [e1,e2] [] LD) (F6 to t):=
 aY (Bh PySem.F.plainAttrs_list PySem.F.slot_list_insert PySem.F.type_list_insert uM y z b i c A a) λσ H Q B=>by
  let[δ,M,R,k,C,q,fin]:=B
  refine #[δ,M,_,k,C,q,λx D v H1 g1 r s e=>?_]
  let[l,O,ex,E,G]:=e
  subst ex
  rw[Rep]at r
  subst r
  let[vs,n,_]:=s _ _ E
  refine #[.inl #[rfl,vs,Ln.of n],δ,D,_,k.mono g1,s,G,λP S us T I J u f=>?_]
  let[xs,d,j,K,hx,U,V,L]:=f
  subst K
  let[W,N,rfl,m,p]:=gc J
  rw[Rep]at m
  subst m
  let[ws,g,h]:=u _ _ hx
  have w:=h.length
  exact #[l,ws,N,_,j,rfl,rfl,rfl,g,(),(),fin _ _ _ _ (g1.trans (I.trans (.lst g))) (by rw[Rep]) (u.wt g ((h.take j).append (.cons p (h.drop j)))) L]
def zb:RC:=λa M Q=>match a with
 |[.ref l]=>∃xs,M l=KJ (.lst xs)/\∀p,M p=KL->Q (.ref p) (au M p (.lst xs))
 |[.tup xs]=>∀p,M p=KL->Q (.ref p) (au M p (.lst xs))
 |_=>False
theorem AZ:d4 X (.type "list") zb:=cj n6 λvs H Q f=>by
 let[g,M,R,d,a,q,fin]:=f;unfold zb at q;split at q
 .obtain⟨h,e,q⟩:=q;let[v,rfl,r]:=bP d;rw[Rep]at r;subst r;let[xs,hx,c]:=a _ _ e;exact #[_,xs,rfl,.inl (Ln.of hx),λz b=>fin _ _ _ _ (.new b) (by rw[Rep]) (a.mj b c) (q z (a.fresh b))]
 .obtain⟨v,rfl,r⟩:=bP d;rw[Rep]at r;let[p,xs,rfl,hx,c]:=r;exact #[_,xs,rfl,.inr hx,λz b=>fin _ _ _ _ (.new b) (by rw[Rep]) (a.mj b c) (q z (a.fresh b))]
 .exact q.elim
end
def lam(w:Wl):Int:=l2 w-l1 w
def Nm(w:Wl)(t:Int):Int:=2*w.1*lam w+(t-2*l1 w)*(w.2.2.1-w.1)
def Gh(U V:Wl)(t:Int):Int:=Nm V t*lam U-Nm U t*lam V
theorem EO(U V:Wl):Gh U V (2*l1 U)=2*(lam U*Lh V U):=by unfold Gh Nm lam Lh sd l1 l2 la Mg;grind
theorem EY(U V:Wl):Gh U V (2*l2 U)=2*(lam U*Lj V U):=by unfold Gh Nm lam Lj sd l1 l2 la Mg;grind
theorem yk(U V:Wl)(t:Int):Gh V U t=-Gh U V t:=by unfold Gh;grind
theorem GD(U V:Wl):Gh U V (2*l1 V)=-(2*(lam V*Lh U V)):=by rw[<-EO,yk]
theorem G0(U V:Wl):Gh U V (2*l2 V)=-(2*(lam V*Lj U V)):=by rw[<-EY,yk]
theorem Ga(U V:Wl)(p q t:Int):Gh U V t*(q-p)=Gh U V p*(q-t)+Gh U V q*(t-p):=by unfold Gh Nm;grind
theorem fF{U V:Wl}{p q t:Int}(h1:p<t)(b:t<q)(gp:0<=Gh U V p)(a:0<=Gh U V q)(g:0<Gh U V p\/0<Gh U V q):0<Gh U V t:=by
 refine jQ (k:=q-p) () ?_;rw[Ga U V p q t];have c:=Kj gp (():0<=q-t);have d:=Kj a (():0<=t-p);rcases g with g|g
 .have:=Ij g (():0<q-t);omega
 .have:=Ij g (():0<t-p);omega
theorem Wh{a b t:Int}:2*max a b<t↔2*a<t/\2*b<t:=by rw[Int.max_def];split<;>omega
theorem Wi{a b t:Int}:t<2*min a b↔t<2*a/\t<2*b:=by rw[Int.min_def];split<;>omega
theorem xY{a c d b1 e f:Int}(h:a<b1/\a<e/\a<f)(h':c<b1/\c<e/\c<f)(g:d<b1/\d<e/\d<f):∃t,(2*a<t/\2*c<t/\2*d<t)/\t<2*b1/\t<2*e/\t<2*f:=by have k:∀{b},a<b->c<b->d<b->max (max a c) d<b:=λx y z=>Int.max_lt.mpr #[Int.max_lt.mpr #[x,y],z];have l:max (max a c) d<min (min b1 e) f:=Int.lt_min.mpr #[Int.lt_min.mpr #[k h.1 h'.1 g.1,k h.2.1 h'.2.1 g.2.1],k h.2.2 h'.2.2 g.2.2];have i:a<=max (max a c) d:=Int.le_trans (Int.le_max_left ..) (Int.le_max_left ..);have j:c<=max (max a c) d:=Int.le_trans (Int.le_max_right ..) (Int.le_max_left ..);have o:d<=max (max a c) d:=Int.le_max_right ..;have p:min (min b1 e) f<=b1:=Int.le_trans (Int.min_le_left ..) (Int.min_le_left ..);have q:min (min b1 e) f<=e:=Int.le_trans (Int.min_le_left ..) (Int.min_le_right ..);have r:min (min b1 e) f<=f:=Int.min_le_right ..;generalize max (max a c) d=m at *;generalize min (min b1 e) f=n at *;clear h h' g k;refine #[m+n,#[?_,?_,?_],?_,?_,?_]<;>omega
theorem y6{U V:Wl}{t:Int}(i:Le U)(j:Le V)(F:Lv U V)(g:max (l1 U) (l1 V)<min (l2 U) (l2 V))(t1:2*max (l1 U) (l1 V)<t)(x:t<2*min (l2 U) (l2 V))(h:Ll U V=KN):0<Gh U V t:=by
 have n:l1 U<l1 V->Lh U V<0:=λz=>of_decide_eq_true ((tI g z).symm.trans h);have hC:l1 V<l1 U->0<Lh V U:=λz=>of_decide_eq_true ((tF g z).symm.trans h);have N:l1 U=l1 V->l2 U<l2 V->0<Lj V U:=λz y=>of_decide_eq_true ((tN g z y).symm.trans h);have O:l1 U=l1 V->¬l2 U<l2 V->Lj U V<0:=λz y=>of_decide_eq_true ((ui g z y).symm.trans h);clear h;let[o1,k,l,o4]:=fY.mp g;clear g;let[P,Q]:=Wh.mp t1;let[R,S]:=Wi.mp x;clear t1 x;have A:=F.e1.nz;have B:=F.e2.nz;have C:=F.e3.nz;have D:=F.e4.nz;have pr:(¬(0<Lh V U/\Lj V U<0)/\¬(Lh V U<0/\0<Lj V U))\/(¬(0<Lh U V/\Lj U V<0)/\¬(Lh U V<0/\0<Lj U V)):=F.pr.elim (λz=>.inr (Yo z)) (λz=>.inl (Yo z));have z1:=Bn i j;have z2:=pJ i j;have E:=Bn j i;have G:=pJ j i;have T:=λh1 d e o c0 f=>within (zG U V) (Av U V) h1 d e o pr c0 f;have W:=λh1 d e o c0 f=>within (zG V U) (Av V U) h1 d e o pr.symm c0 f;have X:=λh1 d e c0 f=>t7 (Av U V) (zG V U) h1 d e pr c0 f;have Y:=λh1 d e c0 f=>t7 (Av V U) (zG U V) h1 d e pr.symm c0 f;clear pr;have ne:=F.ne;have H:0<lam U:=by have:=i.lt;unfold lam;omega
 have I:0<lam V:=by have:=j.lt;unfold lam;omega
 have J:=EO U V;have K:=EY U V;have Z:=GD U V;have G4:=G0 U V;have r:0<Lh V U->0<Gh U V (2*l1 U):=λz=>by rw[J];have:=Ij H z;omega
 have s:0<Lj V U->0<Gh U V (2*l2 U):=λz=>by rw[K];have:=Ij H z;omega
 have u:Lh U V<0->0<Gh U V (2*l1 V):=λz=>by rw[Z];have:=Ii I z;omega
 have v:Lj U V<0->0<Gh U V (2*l2 V):=λz=>by rw[G4];have:=Ii I z;omega
 have L:Lh V U=0->Gh U V (2*l1 U)=0:=λz=>by rw[J,z];simp
 have M:Lj V U=0->Gh U V (2*l2 U)=0:=λz=>by rw[K,z];simp
 rcases Ih (l1 U) (l1 V)with y|y|y<;>rcases Ih (l2 U) (l2 V)with c|c|c
 .have w:=A y l;have nd:=D l c;have q:=Y y l c w nd;have m:Lh U V<0:=n y;have b:=u m;have a:=s ();exact fF (p:=2*l1 V) (q:=2*l2 U) (by assumption) (by assumption) (IL b) (by first|exact IL a|exact Kd a.symm) (.inl b)
 .have m:Lh U V<0:=n y;have b:=u m;have a:=M (G c.symm);exact fF (p:=2*l1 V) (q:=2*l2 U) (by assumption) (by assumption) (IL b) (by first|exact IL a|exact Kd a.symm) (.inl b)
 .have w:=A y l;have nb:=B () c;have q:=W y () l c w nb;have m:Lh U V<0:=n y;have b:=u m;have a:=v ();exact fF (p:=2*l1 V) (q:=2*l2 V) (by assumption) (by assumption) (IL b) (by first|exact IL a|exact Kd a.symm) (.inl b)
 .have b:=L (E y.symm);have a:=s (N y c);exact fF (p:=2*l1 U) (q:=2*l2 U) (by assumption) (by assumption) (Kd b.symm) (IL a) (.inr a)
 .exact absurd #[y,c] ne
 .have b:=L (E y.symm);have a:=v (O y ());exact fF (p:=2*l1 U) (q:=2*l2 V) (by assumption) (by assumption) (Kd b.symm) (IL a) (.inr a)
 .have q:=T y () k c (C y k) (D () c);have c0:0<Lh V U:=hC y;have b:=r c0;have a:=s ();exact fF (p:=2*l1 U) (q:=2*l2 U) (by assumption) (by assumption) (IL b) (by first|exact IL a|exact Kd a.symm) (.inl b)
 .have c0:0<Lh V U:=hC y;have b:=r c0;have a:=M (G c.symm);exact fF (p:=2*l1 U) (q:=2*l2 U) (by assumption) (by assumption) (IL b) (by first|exact IL a|exact Kd a.symm) (.inl b)
 .have q:=X y k c (C y k) (B k c);have c0:0<Lh V U:=hC y;have b:=r c0;have a:=v ();exact fF (p:=2*l1 U) (q:=2*l2 V) (by assumption) (by assumption) (IL b) (by first|exact IL a|exact Kd a.symm) (.inl b)
theorem uW{U V W:Wl}(a:Le U)(d:Le V)(b:Le W)(r:Lv U V)(s:Lv V W)(h:Lv U W)(i:max (l1 U) (l1 V)<min (l2 U) (l2 V))(j:max (l1 V) (l1 W)<min (l2 V) (l2 W))(f:max (l1 U) (l1 W)<min (l2 U) (l2 W))
 (h1:Ll U V=KN) (u:Ll V W=KN):Ll U W=KN:=by
 have c:=fY.mp i
 have g:=fY.mp j
 have l:=fY.mp f
 obtain⟨t,⟨x1,m,o⟩,y1,p,q⟩:=xY #[c.1,c.2.1,l.2.1] #[c.2.2.1,c.2.2.2,g.2.1] #[l.2.2.1,g.2.2.1,g.2.2.2]
 have g1:=y6 (t:=t) a d r i (Wh.mpr #[x1,m]) (Wi.mpr #[y1,p]) h1
 have v:=y6 (t:=t) d b s j (Wh.mpr #[m,o]) (Wi.mpr #[p,q]) u
 have w:0<lam U:=by have:=a.lt;unfold lam;omega
 have x:0<lam V:=by have:=d.lt;unfold lam;omega
 have y:0<lam W:=by have:=b.lt;unfold lam;omega
 have B:0<Gh U W t:=by
  refine jQ (k:=lam V) x ?_
  have e:Gh U W t*lam V=lam U*Gh V W t+lam W*Gh U V t:=by unfold Gh;grind
  rw[e]
  exact Int.add_pos (Ij w v) (Ij y g1)
 cases z:Ll U W with
 |true=>rfl
 |false=>
  have n:=qN a b h f
  rw[z]at n
  have A:=y6 (t:=t) b a h.swap (by rw[Int.max_comm,Int.min_comm];exact f) (Wh.mpr #[o,x1]) (Wi.mpr #[q,y1]) n
  rw[yk]at A
  omega
theorem lX{U:Wl}(a:Le U):Ll U U=KO:=by
 unfold Ll;split
 .rw[KQ rfl,KP (),pJ a a rfl];rfl
 .rfl
theorem mn{a b:Type}(f:a->b)(xs:List a)(j:Nat)(y:a):gi (xs.map f) j (f y)=(gi xs j y).map f:=by unfold gi;simp[List.map_take,List.map_drop]
theorem gT{a:Type}(xs:List a)(j:Nat)(y:a):(gi xs j y).Perm (y::xs):=by
 unfold gi;have h:(xs.take j++y::xs.drop j).Perm (y::(xs.take j++xs.drop j)):=List.perm_middle
 rwa [List.take_append_drop]at h
theorem pN:∀ns:q_,Jx (ns.map JM)<=10
 |[]=>L8 rfl
 |n::ns=>by
  rw[HI,Jx]
  exact Nat.max_le.mpr #[L8 rfl,pN ns]
theorem pA{ps:List K8}(h1:JL ps=KN)(a:Jx ps<=10):JY (.list ps)=KN:=by unfold JY;rw[Ji];refine #[by rw[PyData.canLay0];exact h1,KS ?_];rw[PyData.depth];omega
theorem shaped_ints(ns:q_):JY (.list (ns.map JM))=KN:=pA (lay_ints ns) (pN ns)
theorem qp{b c:Type}(g:b->Option c):∀l:List b,(HK l.length).filterMap (λi=>(l[i]?).bind g)=l.filterMap g:=by
 intro l
 induction l with
 |nil=>rfl
 |cons a l d=>
  rw[Io,List.range_succ_eq_map,JO,JO,List.filterMap_map]
  have e:((λi=>((a::l)[i]?).bind g)∘Nat.succ)=λi=>(l[i]?).bind g:=by funext i;simp
  rw[e,d]
  simp
theorem gZ{b:Type}(p:b->Bool)(f:b->D):∀l:List b,l.filterMap (λk=>if p k=KN then KJ (f k)else KL)=(l.filter p).map f
 |[]=>rfl
 |a::l=>by
  rw[JO,List.filter_cons]
  cases h:p a
  .simp[gZ p f l]
  .simp[gZ p f l]
def L7(ws:r3)(k:Int):Wl:=(ws[k.toNat]?).getD (0,0,0,0)
theorem aQ{ws:r3}{k:Int}(h0:0<=k)(h1:k<ws.length):ws[k.toNat]?=KJ (L7 ws k)/\atI (ws.map uw) k=KJ (uw (L7 ws k))/\L7 ws k∈ws:=by
 obtain⟨j,rfl⟩:∃j:Nat,k=(j:Int):=#[k.toNat,()];have a:j<ws.length:=()
 have e:L7 ws (j:Int)=ws[j]:=by unfold L7;simp[a]
 refine #[by rw[e];simp[a],?_,by rw[e];exact IU a];rw[e];exact bz (by simp[a])
def Qm(q:Rat):K8:=.tuple [.int q.num,.int (q.den:Int)]
def QR(t b x y:Int)(w:Wl):K8:=.tuple [.tuple [Qm (LK t b x 1 w.1),Qm (LK t b y 1 w.2.1)],.tuple [Qm (LK t b x 1 w.2.2.1),Qm (LK t b y 1 w.2.2.2)]]
theorem yJ(t b x y:Int)(w:Wl):J0 (QR t b x y w) (QR t b x y w)=KN:=by simp[QR,Qm,J0,Jl]
section
variable{X:Cx}{KZ:p4}{σ:L2.St}{H:Hp}{s:Hv}
theorem mB{h':pq}{t':Nat}{e it:pd}(I:Inv X KZ σ H s)(k:∀b o,b≠e->b≠it->s.heap.get? b=KJ o->h'.get? b=KJ o)(g:cH X KZ H e)(h:cH X KZ H it):Inv X KZ σ H { s with heap:=h',toks:=t' }:=by
 let[i,e1,_,e3,e4,j]:=g;let[l,f,_,p,t,w]:=h;have ne:∀b u,H b=KJ u->b≠e/\b≠it:=λb u q=>#[λz=>(by rw[z,i]at q;cases q),λz=>(by rw[z,l]at q;cases q)];have d:∀{b:pd},b∉[e,it]->b≠e/\b≠it:=λ{b} a=>#[λz=>a (by simp[z]),λz=>a (by simp[z])];refine I.step (g':=s.gens) (d':=s.drawn) (ch:=[e,it]) (λb x=>?_) (λb o _ _ a q _=>k b o (d a).1 (d a).2 q) (λb o _ _ a q _=>#[o.slots,k b o (d a).1 (d a).2 q]) (λ_ _ _ _ n=>n) (λb o a q=>#[o,k b o (d a).1 (d a).2 q]) (λ_ _ q=>q) (λ_ _ _ q=>q) (λb ps q=>#[#[],by rw[q];simp]) (λm A=>?_) (λb u q=>?_) I.bare
 .rcases(show b=e\/b=it by simpa using x)with rfl|rfl
  .exact #[e3,e1,e4,j]
  .exact #[p,f,t,w]
 .obtain⟨o,B,C,D,r⟩:=A;exact #[o,B,C,k _ o (Ne.symm e1) (Ne.symm f) D,r]
 .refine(I.hok b u q).ff (λc v a z=>?_) (λ_ z=>z) λ_ _ z=>z;rcases a with y|y
  .subst y;exact k _ v (ne _ u q).1 (ne _ u q).2 z
  .exact k c v (ne c _ y).1 (ne c _ y).2 z
end
theorem pC(c:Nat){prog:HW}{w:IA}{A:Iv}{it:pd}{fp:rq}{n:Nat}{P:Nat->Hu->Prop}{St:Nat->pq->Prop}(D:Draws prog w A it fp n P St):Draws prog w A it fp (n+c) (λj x=>∃i,j=i+c/\P i x) (λj h=>∃i,j=i+c/\St i h) where
 live:=λj h a=>by
  let[i,_,st]:=a
  exact D.live i h st
 frame:=λj h b a k=>by
  let[i,e,st]:=a
  exact #[i,e,D.frame i h b st k]
 item:=λj s Q E m a f=>by
  let[i,e,st]:=a
  exact D.item i s Q E () st λx b g p d l=>f x b g #[i,e,p] #[i+1,(),d] l
 done:=λs Q E a hE=>by
  let[i,e,st]:=a
  obtain rfl:i=n:=()
  exact D.done s Q E st hE
theorem rX{prog:HW}{w:IA}{A:Iv}(b:A.handled=KL)(it l:pd)(c:l≠it)(items:Array Hu){i:Nat}(hx:items[i]?=KL):Draws prog w A it [it,l] i (λ_ _=>False) (λj h=>j=i/\h.IsListIter it l i/\h.IsList l items) where
 live:=λ_ _ st=>by
  let[o,d,_]:=st.2.1
  exact #[o,d]
 frame:=λ_ _ _ st a=>#[st.1,st.2.1.at λo e=>a it (by simp) o e,st.2.2.at λo e=>a l (by simp) o e]
 item:=λj s Q E f st _=>absurd st.1 ()
 done:=λs Q E st hE=>wpAny_nextOf_list_end b st.2.1 st.2.2 hx hE
def Yf(K:Ht)(c:Nat)(a:pd):It:=
 #[λi H=>∃xs x,Ln K H a xs/\xs[i]?=KJ x,λi H x b=>∃T y,x=.ref T/\H T=KL/\b=upd H T (.tup [.int ((i+c:Nat):Int),y])/\∀xs,Ln K H a xs->xs[i]?=KJ y,λi H=>∃xs,Ln K H a xs/\xs.length<=i]
theorem vE(c:Nat){P:HW}{w:IA}{K:Ht}{F:ro}{kt}{pt:Pos}(a e it:pd)(r:e≠it):Turn P w K (.Tuple F kt pt) (Yf K c a) [e,it] e (λi h=>(∃g,IsEnum h e it ((i+c:Nat):Int) g)/\h.IsListIter it a i) where
 mem:=by simp
 obj:=λi h st b G=>by
  rcases(show b=e\/b=it by simpa using G)with rfl|rfl
  .obtain⟨⟨g,q⟩,_⟩:=st
   exact #[_,q,λv z=>by
    have z':Data.fields _=Data.cell v:=z
    cases z']
  .obtain⟨o,q,_,d⟩:=st.2
   exact #[o,q,λv z=>by rw[d]at z;cases z]
 keep:=λi h h' st k=>by
  obtain⟨⟨g,q⟩,st⟩:=st
  exact #[#[g,k e (by simp) _ q],st.at λo z=>k it (by simp) o z]
 item:=by
  intro X O Q R S i KZ s σ H E I M st T
  subst O Q R
  let[xs,x,N,hx]:=T
  let[m,U,p,hz]:=I.list N
  let[u,hu,ru]:=U.get hx
  obtain⟨⟨g,t⟩,j⟩:=st
  have le:e<s.z:=HN t
  have li:it<s.z:=by let[o,q,_]:=j;exact HN q
  have y:a≠it:=λz=>by
   subst z
   let[o1,V,W,_]:=j
   let[o2,y1,B,_]:=p.isList
   rw[V]at y1;cases y1
   rw[W]at B;exact absurd (KC.inj B) ⋯
  have Y:e≠a:=λz=>by
   subst z
   let[o2,y1,B,_]:=p.isList
   rw[show s.heap.get? e=_ from t]at y1;cases y1
   exact absurd (KC.inj B) ⋯
  have C:X.A.in1.handled=KL:=I.ok.hd S
  have a0:i<m.length:=(HC.mp hu).1
  refine wpAny_pyNext_enum_itemD (i:=i+c) (pC c (Draws.list C it a y m.toArray)) t #[i,rfl,j,p.isList] (by simp;omega) r (by simp[r,Y]) λx0 h1 D l ho J hT b0 hk=>?_
  let[i0,c0,l]:=l
  obtain rfl:i=i0:=()
  let[i1,d0,L]:=J
  obtain rfl:i1=i+1:=()
  obtain rfl:u=x0:=by
   have l:m[i]?=KJ x0:=‹l›
   rw[hu]at l;cases l;rfl
  refine #[7,wpAny_letOwnedTupleGo_enum (s:={ s with heap:=h1,toks:=D+1 }) ho λh2 Z n=>?_]
  have n:JI e h1 h2:=n
  have fr:=I.fresh
  have I1:Inv X KZ σ (upd H s.z (.tup [.int ((i+c:Nat):Int),x])) { s with heap:=s.heap.push { cls:=.type "tuple",data:=.seq (List.toArray [.int ((i+c:Nat):Int) D,u]) },toks:=s.toks }:=
   I.laid (λb v q=>Hx _ q) (HD _) #[L8 rfl,[.int ((i+c:Nat):Int) D,u],.cons #[_,rfl] (.cons ru .nil),#[_,HG _ rfl,rfl,7],#[_,HG _ rfl,rfl]]
  have fk:∀{b:pd},b<s.z->cH X KZ H b->cH X KZ (upd H s.z (.tup [.int ((i+c:Nat):Int),x])) b:=λ{b} lt f=>#[by rw[aD (Ip lt)];exact f.1,f.2]
  have fe:=fk le (M e (by simp))
  have fi:=fk li (M it (by simp))
  have I2:Inv X KZ σ (upd H s.z (.tup [.int ((i+c:Nat):Int),x])) { s with heap:=h2,toks:=D+1 }:=by
   refine mB (s:={ s with heap:=s.heap.push { cls:=.type "tuple",data:=.seq (List.toArray [.int ((i+c:Nat):Int) D,u]) },toks:=s.toks }) I1 (λb o ne ni q=>?_) fe fi
   have q:(s.heap.push { cls:=.type "tuple",data:=.seq (List.toArray [.int ((i+c:Nat):Int) D,u]) }).get? b=KJ o:=q
   refine(n.2 b ne).trans ?_
   rcases Heap.get?_push_cases q with⟨rfl,rfl⟩|q
   .exact hT
   .exact hk b o ne ni q
  refine #[.ref s.z,_,I2,rfl,#[_,x,rfl,fr,rfl,λys hy=>by rw[I.ji hy N];exact hx],#[#[u,?_],L.1.at λo z=>(n.2 it r.symm).trans z],λb G=>?_]
  .rw[show((i+1+c:Nat):Int)=((i+c:Nat):Int)+1 by omega];exact Z
  .rcases(show b=e\/b=it by simpa using G)with rfl|rfl
   .exact fe.1
   .exact fi.1
 done:=by
  intro X O Q R S i KZ s σ H E I M st T
  subst O Q R
  let[xs,N,hx]:=T
  let[m,U,p,hz]:=I.list N
  obtain⟨⟨g,t⟩,j⟩:=st
  let[f0,f1,f2,f3,f4,f5]:=M it (by simp)
  have hl:=U.length
  have y:a≠it:=λz=>by
   subst z
   let[o1,V,W,_]:=j
   let[o2,y1,B,_]:=p.isList
   rw[V]at y1;cases y1
   rw[W]at B;exact absurd (KC.inj B) ⋯
  have C:X.A.in1.handled=KL:=I.ok.hd S
  exact wpAny_pyNext_enum_endD (rX C it a y m.toArray (i:=i) (by simp;omega)) t #[rfl,j,p.isList] λh' eb=>#[rfl,I.turned (t':=s.toks) (λb o G q=>eb b o G q) f0 f1 f3 f4 f5]
 self:=λ_ _ _ _ _ st h=>let⟨⟨_,t⟩,_⟩:=st;wpAny_pyIter_enum t h
theorem jk:J5 "enumerate"=KJ (.type "enumerate"):=by decide +kernel
section
variable{X:Cx}{elts:ro}{kt:Nat}{pt:Pos}
theorem zj(c:Nat){K:Ht}{H1:Hp}{l:pd}{es:r8}:W5 K H1 #[es.length,λi=>(es[i]?).map λd=>.tup [.int ((i+c:Nat):Int),d],λM=>M l=KJ (.lst es)] (Yf K c l):=by
 refine #[λn f o b g=>?_,λi n f e o b g=>?_,?_]
 .obtain⟨a,hy,h⟩:=b _ _ (show f l=KJ (.lst es)from g);exact #[a,Ln.of hy,by rw[<-h.length];exact HD _]
 .obtain⟨a,hy,h⟩:=b _ _ (show f l=KJ (.lst es)from g);have j:i<a.length:=by rw[<-h.length];exact e
  exact #[a,a[i],Ln.of hy,by simp[j]]
 .rintro i n f v p e o b g ⟨T,y,rfl,k,rfl,hy⟩;have e:i<es.length:=e;let[a,m,h]:=b _ _ (show f l=KJ (.lst es)from g);let[x,e1,e2]:=h.get (show es[i]?=KJ es[i] by simp[e]);have:=hy a (Ln.of m);rw[e1]at this;cases this;exact #[.new k,b.new k,.tup [.int ((i+c:Nat):Int),es[i]],by simp[e],by rw[Rep];exact #[T,7,Lm.of aF,.cons (by rw[Rep]) (.cons (e2.mono (.new k)) .nil)]]
end
theorem qa{U V:Wl}(h:Ll U V=KN):max (l1 U) (l1 V)<min (l2 U) (l2 V):=by
 unfold Ll at h;split at h
 .assumption
 .cases h
theorem mZ(f:Int->Int):∀fs:q_,fs≠[]->∃w∈fs,∀k∈fs,f w<=f k
 |[],h=>absurd rfl h
 |[a],_=>#[a,by simp,λk c=>by rw[J8.mp c];exact Int.le_refl _]
 |a::b::l,_=>by
  let[w,d,h]:=mZ f (b::l) (by simp)
  by_cases e:f a<=f w
  .refine #[a,by simp,λk c=>?_]
   rcases II.mp c with rfl|c
   .exact Int.le_refl _
   .have:=h k c;omega
  .refine #[w,.tail _ d,λk c=>?_]
   rcases II.mp c with rfl|c
   .omega
   .exact h k c
theorem Ag{ws:r3}(u:∀w∈ws,Le w)(hF:PF ws):∀(n:Nat) (fs:q_),fs.length=n->fs≠[]->fs.Nodup->(∀k∈fs,0<=k/\k<ws.length)->∃t∈fs,∀k∈fs,Ll (L7 ws k) (L7 ws t)=KO:=by
 intro n
 induction n with
 |zero=>intro fs h i;exact absurd (List.eq_nil_of_length_eq_zero h) i
 |succ n v=>
  intro fs x i nd bd
  have un:∀k∈fs,Le (L7 ws k):=λk c=>u _ (aQ (bd k c).1 (bd k c).2).2.2
  have fr:∀k∈fs,∀j∈fs,k≠j->Lv (L7 ws k) (L7 ws j):=λk c j A ne=>by
   have a:=bd k c
   have b:=bd j A
   exact hF k.toNat j.toNat _ _ () (aQ a.1 a.2).1 (aQ b.1 b.2).1
  let[w,f,g]:=mZ (λk=>l2 (L7 ws k)) fs i
  by_cases o:fs.erase w=[]
  .refine #[w,f,λk c=>?_]
   have:k=w:=by
    by_cases e:k=w
    .exact e
    .have:=(Jw nd).mpr #[e,c];rw[o]at this;cases this
   subst this;exact lX (un k c)
  .obtain⟨t,p,top⟩:=v (fs.erase w) (by rw[List.length_erase_of_mem f,x];rfl) o (nd.erase w) (λk c=>bd k (JT c));have d:t∈fs:=JT p;have B:t≠w:=((Jw nd).mp p).1;cases q:Ll (L7 ws w) (L7 ws t)with
   |false=>
    refine #[t,d,λk c=>?_]
    by_cases e:k=w
    .subst e;exact q
    .exact top k ((Jw nd).mpr #[e,c])
   |true=>
    refine #[w,f,λk c=>?_]
    cases z:Ll (L7 ws k) (L7 ws w)with
    |false=>rfl
    |true=>
     exfalso
     by_cases e:k=w
     .subst e;rw[lX (un k c)]at z;cases z
     .have l:=qa z;have r:=qa q;have C:l2 (L7 ws w)<=l2 (L7 ws k):=g k c;have D:l2 (L7 ws w)<=l2 (L7 ws t):=g t d;have E:=(un k c).lt;have F:=(un t d).lt;have G:max (l1 (L7 ws k)) (l1 (L7 ws t))<min (l2 (L7 ws k)) (l2 (L7 ws t)):=fY.mpr #[E,Int.lt_of_lt_of_le (fY.mp l).2.1 D,Int.lt_of_lt_of_le (fY.mp r).2.2.1 C,F];have m:k∈fs.erase w:=(Jw nd).mpr #[e,c];by_cases s:k=t
      .subst s;have:=qN (un k c) (un w f) (fr k c w f e) l;rw[z,q]at this;cases this
      .have:=uW (un k c) (un w f) (un t d) (fr k c w f e) (fr w f t d (λy=>B y.symm)) (fr k c t d s) l r G z q;rw[top k m]at this;cases this
theorem uo{I:OY}{tk:OO}{js:q7}{tc:MI}{te:TD}{δ:DS}{c:MH}{Q:DK}(f:Nat->r_)(m:I.n<=1000000)(hC:∀p b,c p=KL->I.C (au c p (.lst b))) (h:∀i d M,i<I.n->I.item i=KJ d->Sub c M->∃os,vy tk d os/\(∀K:Bool->MH->Prop,(∀g,Sub M g->K (f i).isSome g)->tc (cδ os js δ) M K)/\∀e M2,Sub M M2->f i=KJ e->∀K:DK,(∀g,Sub M2 g->K e g)->te (cδ os js δ) M2 K) (q:∀p,c p=KL->Q (.ref p) (au c p (.lst ((HK I.n).filterMap f)))):ud I tk js tc te δ c Q:=by
 refine #[m,λp j=>#[λi b M=>b=(HK i).filterMap f/\M=au c p (.lst b),#[rfl,rfl],?_,?_,?_]]
 .rintro i b M _ ⟨_,rfl⟩;exact hC p b j
 .rintro i b d M r hd ⟨rfl,rfl⟩;let[os,s,t,u]:=h i d _ r hd (.new j .refl);refine #[os,s,t _ λg k=>?_];cases e:f i with
  |none=>
   refine #[_,k,?_,rfl]
   rw[Ka,List.filterMap_append]
   simp[e]
  |some v=>
   refine u v g k e _ λM2 l=>#[_,λa o z=>l a o (k a o z),ag,?_,by rw[bg]]
   rw[Ka,List.filterMap_append]
   simp[e]
 .rintro b M ⟨rfl,rfl⟩;exact q p j
end SD
namespace HT
open PySem PyProof.Rows
section
open PySem.SeqAt
open PySem.AutoSeq1 (wpAny_loadPart')
open PySem.MeetsSeq PySem.MeetsSeq2 PySem.MeetsSeq3
theorem mM(l:pd)(items:Array Hu)(n:Nat)(r:Option pd)(t:Array (Option Hu))(x:Hu)(j:Nat)(B:j<items.size) :
 Meets (KH.«tuple.index» #[[.ref l,x],[]]) λA R s=>s.heap.get? l=KJ { cls:=.type "tuple",dict:=r,data:=.seq items n,slots:=t }/\(∀(i:Nat) (C:i<items.size),i<=j->EqAt A.in1 s items[i] x (decide (i=j)))/\R (.ok (.ret (.int (j:Int) s.toks))) { s with toks:=s.toks+1 }:=
 .of_wp λprog w A R s h=>by
  let[u,g,d,v,os]:=s;let[y,k,h]:=h
  unfold KH.«tuple.index»
  simp only[Std.Legacy.Range.forIn_eq_forIn_range']
  wp_walk using Jd y,wpAny_forIn_list _ (λc b o=>b=(KL,.unit)/\o=#[u,g,d,v,os]/\∃m,m<=j/\c=Kg m (items.size-m) 1) _
  case turn=>
   rintro a c b o ⟨rfl,rfl,m,q,e⟩
   have p:items.size-m=(items.size-m-1)+1:=()
   rw[p,List.range'_succ]at e
   injection e with h1 z
   subst h1 z
   have f:a<items.size:=()
   rw[Array.getElem?_eq_getElem f]
   refine cc (k a f q prog w _ _ ?_)
   by_cases e1:a=j
   .subst e1
    rw[KS rfl]
    wp_walk
    exact #[7,h]
   .rw[KR e1]
    wp_walk
    exact #[rfl,rfl,a+1,(),by rw[show items.size-a-1=items.size-(a+1) by omega]]
  case fin=>
   rintro b o ⟨rfl,rfl,m,q,e⟩
   have p:items.size-m=(items.size-m-1)+1:=()
   rw[p,List.range'_succ]at e
   cases e
  exact #[rfl,rfl,0,(),by simp[Std.Legacy.Range.size]]
end
end HT
open HT renaming lexLt->LX,cz->LY,lexLe->LZ
namespace SD
open PySem PySem.Spec PyProof.Rows L2
section
variable{X:Cx}
def Gj(to:TD)(t:Ly):TD:=λδ M Q=>to δ M λx c=>∃a,x=.tup a/\t δ c λe b=>∃d p,∃j:Nat,e=[d]/\j<a.length/\Pd b d p/\JY p=KN/\
 (∀(i:Nat) (y:D),i<=j->a[i]?=KJ y->∃q,Pd b y q/\PyData.canLay0 q=KN/\J0 q p=decide (i=j))/\Q (.int (j:Int)) b
def E3(K:Ht):V->ry->Hp->VK->Prop:=λx vs H Q=>∃a b M v d p,∃j:Nat,x=.ref a/\vs=[v]/\Lb K H M/\Rep K H (.tup b) x/\Rep K H d v/\j<b.length/\Pd M d p/\JY p=KN/\
 (∀(i:Nat) (y:D),i<=j->b[i]?=KJ y->∃q,Pd M y q/\PyData.canLay0 q=KN/\J0 q p=decide (i=j))/\Q (.int (j:Int)) H
theorem CP(Z:X.A.units+66<J9):Ye X "tuple.index" (E3 X.K):=by
 intro KZ s σ H x vs v us Q I y z B;let[a,l,M,v1,d,p,j,ex,C,u,hx,hd,D,E,f,g,q]:=B;subst ex C;cases y;let[G,rfl,J]:=z.one;rw[Rep]at hx;let[a',xs,ea,L,w]:=hx;cases ea;obtain⟨c,h,⟨o,h1,N,n,O⟩,hz⟩:=I.tuple L;let[as,P]:=cm I u E hd J;have b:c.length=l.length:=by rw[<-h.length,w.length]
 let[oc,od,R,osl]:=o;cases N;cases O;refine call_meets PySem.F.slot_tuple_index #[_,h1,rfl] PySem.F.entry_tuple_index (PySem.F.args_tuple_index_2 _ _) (HT.mM a c.toArray n od osl G j (by simpa[b]using D)) #[h1,λi S m=>?_,?_]
 .have k:i<l.length:=by simpa[b]using S
  let[T,g1,U,V]:=g i l[i] m (Hy k);let[x1,e1,r]:=w.get (Hy k);let[W,e2,t]:=h.get e1;let[bs,Y]:=cm I u g1 r t
  have e3:c.toArray[i]=W:=by
   have:=HC.mp e2
   let[_,e]:=this
   simpa using e
  rw[e3,<-V];have hm:min T.depth p.depth<=63+1:=ID (Nat.min_le_right _ _) (SeqAt.depth_of_shaped f);exact PySem.SeqAt.eqAt_reads _ _ _ _ _ _ _ _ Y P U (SeqAt.canLay_of_shaped f) (by show X.A.units+1+_<J9;omega)
 .exact #[.int _,H,I.tok _,#[_,rfl],q]
theorem BO{o e1:pv}{to:TE}{t:TA}{c d:Pos}(r:X.A.units+66<J9)(u:PE X o to)(w:PA X [e1] t)
 (f:JX o "index" X.env (eval o X.env)=eval o X.env)
 (k:((Jc d (HM [e1] X.env)).all (λx=>!x.1)&&(KG d (JQ [] X.env)).all (λx=>x.1.isSome)
  && decide ([e1].length+([]:List Keyword).length+(if([]:List Keyword).isEmpty then 0 else 1)<30))=KN)
 (g:(c.endLine==d.line)=KN) (y:HM [e1] X.env=(KO,eval e1 X.env)::HM [] X.env) (b:(Jc d (HM [] X.env)).any (·.1)=KO) :
 PE X (.Call (.Attribute o "index" c) [e1] [] d) (λσ H Q=>to σ H λx H1=>(∃p xs,x=.ref p/\Lm X.K H1 p xs)/\t σ H1 λvs l=>E3 X.K x vs l Q):=by
 intro KZ s σ H Q I h
 refine wpAny_Call_method_late f k g rfl (Lc (u KZ s σ H _ I h) λv z i=>?_)
 obtain⟨x,H1,m,B,⟨p,xs,ex,n⟩,C⟩:=i
 subst ex
 cases B
 obtain⟨D,_,⟨E,g1,G,_⟩,_⟩:=m.tuple n
 let[J,L,M]:=m.C7 n
 refine #["tuple","tuple.index",PySem.F.plainAttrs_tuple,PySem.F.slot_tuple_index,PySem.F.type_tuple_index,#[E,g1,G],λa e=>by cases e;exact #[J,L,M],?_]
 have q:=w d KZ z σ H1 _ m C
 rw[y]at q ⊢
 refine Calls.callWith_builtin (by show(KO||(Jc d (HM [] X.env)).any (·.1))=KO;rw[b]<;>rfl) (Calls.evalArgs_plain ?_)
 exact Lc q λus N j=>by let[vs,l,O,P,R]:=j;exact(CP r KZ N σ l (.ref p) vs (.ref p) us Q O rfl P R)
variable{o e1:pv}{to:TD}{t:Ly}{apos LD:Pos}
theorem sj(w:X.A.units+66<J9)(y:DE X o to)(z:DA X [e1] t)
 (c:JX o "index" X.env (eval o X.env)=eval o X.env:=by rfl)
 (h:((Jc LD (HM [e1] X.env)).all (λx=>!x.1)&&(KG LD (JQ [] X.env)).all (λx=>x.1.isSome)
  && decide ([e1].length+([]:List Keyword).length+(if([]:List Keyword).isEmpty then 0 else 1)<30))=KN:=by rfl)
 (e:(apos.endLine==LD.line)=KN:=by rfl) (B:HM [e1] X.env=(KO,eval e1 X.env)::HM [] X.env:=by rfl) (b:(Jc LD (HM [] X.env)).any (·.1)=KO:=by rfl) :
 DE X (.Call (.Attribute o "index" apos) [e1] [] LD) (Gj to t):=
 aY (BO w y z c h e B b) λσ H Q ⟨δ,M,R,i,C,q,fin⟩=>by
  refine #[δ,M,_,i,C,q,λx D v H1 g1 l E f=>?_]
  let[F,ex,G]:=f
  subst ex
  have m:=l
  rw[Rep]at l
  let[a,xs,rfl,I,T]:=l
  refine #[#[a,xs,rfl,I],δ,D,_,i.mono g1,E,G,λU J us V s K u g=>?_]
  let[d,p,j,L,N,O,n,k,P]:=g
  subst L
  let[S,rfl,r]:=bP K
  exact #[a,F,J,S,d,p,j,rfl,rfl,u,m.mono s,r,N,O,n,k,fin _ _ _ _ (g1.trans s) (by rw[Rep]) u P]
def FW(te:TD):MI:=λδ M Q=>te δ M λx a=>∃l xs,x=.ref l/\a l=KJ (.lst xs)/\Q (!xs.isEmpty) a
theorem yy{e:pv}{te:TD}(f:DE X e te)(hw:∀a,isTrue e X.env a=(do let v <-a;standAt e.pos;holding [v] (truthy v)):=by intro _;rfl):DT X e (FW te):=
 mw (xA f hw) λσ H Q ⟨δ,M,R,g,h,q,fin⟩=>#[δ,M,_,g,h,q,λx m v H1 g1 c d ⟨l,xs,ex,i,j⟩=>by
  subst ex
  rw[Rep]at c;subst c
  let[b,hy,k]:=d _ _ i
  exists _,.inl #[b,Ln.of hy,rfl]
  have e:b.isEmpty=xs.isEmpty:=by
   have:=k.length
   cases xs<;>cases b<;>simp at this ⊢
  rw[e]
  exact fin _ _ _ g1 d j]
end
section
open PySem.AutoSeq1 (wpAny_loadPart')
variable{prog:HW}{w:IA}{A:Iv}{E:Hu->Hv->Prop}{s:Hv}
theorem qU{it t:pd}{i:Nat}{items}{x:Hu}{Q:Hu->Hv->Prop}(a:s.heap.IsTupleIter it t i)(e:s.heap.IsTuple t items)(hx:items[i]?=KJ x)
 (f:∀h',h'.IsTupleIter it t (i+1)->JI it s.heap h'->Q x { s with heap:=h' }):HJ (HP prog w) A (Builtin.SmallTypes.nextOf (.ref it)) Q E s:=by
 let[o,b,g,hd]:=id a
 let[h,c,_,j,d]:=e
 unfold Builtin.SmallTypes.nextOf
 refine cc (K5 (name:=Ja "__next__") a.typeIs Kk (Kh Kk a.typeIs F.entry_tuple_iterator_next ?_ (F.args_tuple_iterator_next_1 _)))
 show HJ _ _ (field (.ref it) 0 >>= _) _ _ s
 refine cc (wpAny_field b hd (x:=.ref t) rfl ?_)
 show HJ _ _ (if(IY t==JB)=KN then _ else _) _ _ s
 rw[KP (show ¬((IY t==JB)=KN)from Ib)]
 show HJ _ _ (field (.ref it) 1 >>= _) _ _ s
 refine cc (wpAny_field b hd (x:=.int i 0) rfl ?_)
 show HJ _ _ (seqItems? (.ref t) >>= _) _ _ s
 refine cc (Ky c d ?_)
 simp only[Ju,hx]
 refine cc (wpAny_setField b hd (by simp) (Hz #[x,rfl,Hz (f _ ?_ (J4 ..))]))
 exact #[_,JS _ b (Obj.isFreed_of_fields (Obj.data_mapFields hd _)),(Obj.cls_mapFields ..).trans g,by
  rw[Obj.data_mapFields hd];simp[KD]]
theorem uX{it t:pd}{i:Nat}{items}{Q:Hu->Hv->Prop}(g:A.handled=KL)(b:s.heap.IsTupleIter it t i)(h:s.heap.IsTuple t items)(hx:items[i]?=KL)
 (hE:∀h' e,Heap.ExtBut it s.heap h'->(∃o,h'.get? e=KJ o/\o.cls=.type "StopIteration")->E (.ref e) { s with heap:=h' }):HJ (HP prog w) A (Builtin.SmallTypes.nextOf (.ref it)) Q E s:=by
 let[o,c,j,hd]:=id b
 let[k,d,_,l,f]:=h
 unfold Builtin.SmallTypes.nextOf
 refine cc (K5 (name:=Ja "__next__") b.typeIs Kk (Kh Kk b.typeIs F.entry_tuple_iterator_next ?_ (F.args_tuple_iterator_next_1 _)))
 show HJ _ _ (field (.ref it) 0 >>= _) _ _ s
 refine cc (wpAny_field c hd (x:=.ref t) rfl ?_)
 show HJ _ _ (if(IY t==JB)=KN then _ else _) _ _ s
 rw[KP (show ¬((IY t==JB)=KN)from Ib)]
 show HJ _ _ (field (.ref it) 1 >>= _) _ _ s
 refine cc (wpAny_field c hd (x:=.int i 0) rfl ?_)
 show HJ _ _ (seqItems? (.ref t) >>= _) _ _ s
 refine cc (Ky d f ?_)
 simp only[Ju,hx]
 refine cc (wpAny_rule (cc (wpAny_setField c hd (by simp) ?_)))
 show HJ _ _ (newExc (.type "StopIteration") [] >>= _) _ _ _
 refine cc ?_
 simp only[newExc,newTuple]
 refine cc (IT ?_ (by size_fits))
 refine cc (m:=firstArgMember _ _) (wpAny_of_eq (a:=JB) (by first|rfl|(simp only[firstArgMember];rfl)) ?_)
 refine IT ?_ (by size_fits)
 simp only[raiseNew]
 refine cc (wpAny_handled ?_)
 first|rw[show A.in1.handled=KL from g]|rw[g]
 refine cc (Hz (wpAny_throw ?_))
 exact hE _ _ (((J4 ..).extBut.push _).push _) #[_,HG _ rfl,rfl]
theorem x8(k:A.handled=KL)(it t:pd)(c:t≠it)(items:Array Hu):Draws prog w A it [it,t] items.size (λi v=>items[i]?=KJ v) (λi h=>h.IsTupleIter it t i/\h.IsTuple t items) where
 live:=λ_ _ st=>let⟨o,d,_⟩:=st.1;#[o,d]
 frame:=λ_ _ _ st f=>by
  obtain⟨⟨o,d,r⟩,⟨g,e,l⟩⟩:=st
  exact #[#[o,f it (by simp) o d,r],#[g,f t (by simp) g e,l]]
 item:=λi s Q E j st m=>by
  refine qU st.1 st.2 (x:=items[i]) (by simp[j]) λn a b=>?_
  exact m _ n s.toks (by simp[j]) #[a,st.2.extBut b.extBut c] b
 done:=λs Q E st hE=>uX k st.1 st.2 (by simp) hE
theorem vf(l:pd)(items:Array Hu)(n:Nat)(b:Option pd)(i:Array (Option Hu)) :
 Meets (KH.«enumerate.__new__» #[[.type "enumerate",.ref l],[]]) (λ_ R s=>s.heap.get? l=KJ { cls:=.type "tuple",dict:=b,data:=.seq items n,slots:=i }/\
  R (.ok (.ret (.ref (s.heap.push { cls:=.type "tuple_iterator",data:=.fields (List.toArray [.ref l,.int 0 0]) }).objs.size)))
    { s with heap:=(s.heap.push { cls:=.type "tuple_iterator",data:=.fields (List.toArray [.ref l,.int 0 0]) }).push { cls:=.type "enumerate",data:=.fields (List.toArray [.none,.bool KO,.ref s.z,KD 0,.none,.none]) } }):=
 .of_wp λprog w A R s h=>by
  let[j,g,d,k,os]:=s;let[a,h]:=h
  have f:=sub_enumerate
  have e:Heap.IsTuple (Shared.heap #[j,g,d,k,os]) l items:=#[_,a,rfl,n,rfl]
  wp_walk using Jd a
  refine wpAny_stack_any λst=>Hz ?_
  split
  .rename_i c _ _ _ _ _
   cases (c==KC "enumerate")
   .wp_walk using Jd a,wpAny_pyIter_tuple e
    exact #[7,h]
   .wp_walk using Jd a,wpAny_pyIter_tuple e
    exact #[7,h]
  .wp_walk using Jd a,wpAny_pyIter_tuple e
   exact #[7,h]
theorem rJ{l:pd}{items:Array Hu}{Q:Hu->Hv->Prop}(g:s.heap.IsTuple l items)
 (h:∀h',IsEnum h' (s.z+1) s.z 0 .none->h'.IsTupleIter s.z l 0->(∀b o,s.heap.get? b=KJ o->h'.get? b=KJ o)->Q (.ref (s.z+1)) { s with heap:=h' }) :
 HJ (HP prog w) A (call (.type "enumerate") [.ref l]) Q E s:=by
 obtain⟨⟨c,a,i,j⟩,k,d,n,hd⟩:=g
 replace d:c=.type "tuple":=d
 replace hd:i=.seq items n:=hd
 subst d hd
 refine callType_new F.called_enumerate ⋯ (F.typeCall_enumerate_1 _) (F.newCall_enumerate_1 _) (λobj=>F.args_object_init_2 obj _) F.entry_enumerate_new (vf l items n a j) #[k,?_]
 have e:(s.heap.push { cls:=.type "tuple_iterator",data:=.fields (List.toArray [.ref l,.int 0 0]) }).objs.size=s.z+1:=Jf ..
 show _/\_
 rw[e]
 have f:IsEnum ((s.heap.push { cls:=.type "tuple_iterator",data:=.fields (List.toArray [.ref l,.int 0 0]) }).push { cls:=.type "enumerate",data:=.fields (List.toArray [.none,.bool KO,.ref s.z,KD 0,.none,.none]) }) (s.z+1) s.z 0 .none:=by
  have:=HG (s.heap.push { cls:=.type "tuple_iterator",data:=.fields (List.toArray [.ref l,.int 0 0]) }) (o:={ cls:=.type "enumerate",data:=.fields (List.toArray [.none,.bool KO,.ref s.z,KD 0,.none,.none]) }) rfl
  rw[e]at this;exact this
 exact #[#[_,f,rfl],h _ f #[_,Hx _ (HG _ rfl),rfl,rfl] λb o x=>Hx _ (Hx _ x)]
end
def Fj(K:Ht)(a:pd):It:=
 #[λi H=>∃xs x,Lm K H a xs/\xs[i]?=KJ x,λi H x b=>∃T y,x=.ref T/\H T=KL/\b=upd H T (.tup [.int (i:Int),y])/\∀xs,Lm K H a xs->xs[i]?=KJ y,λi H=>∃xs,Lm K H a xs/\xs.length=i]
theorem qX{P:HW}{w:IA}{K:Ht}{G:ro}{kt}{pt:Pos}(a e it:pd)(t:e≠it):Turn P w K (.Tuple G kt pt) (Fj K a) [e,it] e (λi h=>(∃j,IsEnum h e it (i:Int) j)/\h.IsTupleIter it a i) where
 mem:=by simp
 obj:=λi h st b J=>by
  rcases(show b=e\/b=it by simpa using J)with rfl|rfl
  .obtain⟨⟨j,q⟩,_⟩:=st
   exact #[_,q,λv z=>by
    have z':Data.fields _=Data.cell v:=z
    cases z']
  .obtain⟨o,q,c,d⟩:=st.2
   exact #[o,q,λv z=>by rw[d]at z;cases z]
 keep:=λi h h' st k=>by
  obtain⟨⟨j,q⟩,⟨o,R,r⟩⟩:=st
  exact #[#[j,k e (by simp) _ q],#[o,k it (by simp) o R,r]]
 item:=by
  intro X S T U V i KZ s σ H E I O st W
  subst S T U
  let[xs,x,Q,hx]:=W
  let[g,Y,p,hz]:=I.tuple Q
  let[u,hu,ru]:=Y.get hx
  obtain⟨⟨j,y⟩,l⟩:=st
  have p:s.heap.IsTuple a g.toArray:=p
  have le:e<s.z:=HN y
  have li:it<s.z:=by let[o,q,_]:=l;exact HN q
  have B:a≠it:=λz=>by
   subst z
   let[o1,L,M,_]:=l
   let[o2,y1,C,_]:=p
   rw[L]at y1;cases y1
   rw[M]at C;exact absurd (KC.inj C) ⋯
  have Z:e≠a:=λz=>by
   subst z
   let[o2,y1,C,_]:=p
   rw[show s.heap.get? e=_ from y]at y1;cases y1
   exact absurd (KC.inj C) ⋯
  have D:X.A.in1.handled=KL:=I.ok.hd V
  have b0:i<g.length:=(HC.mp hu).1
  refine wpAny_pyNext_enum_itemD (x8 D it a B g.toArray) y #[l,p] (by simp;omega) t (by simp[t,Z]) λx0 h1 F m R N hT c0 hk=>?_
  obtain rfl:u=x0:=by
   have m:g[i]?=KJ x0:=‹m›
   rw[hu]at m;cases m;rfl
  refine #[7,wpAny_letOwnedTupleGo_enum (s:={ s with heap:=h1,toks:=F+1 }) R λh2 a0 n=>?_]
  have n:JI e h1 h2:=n
  have fr:=I.fresh
  have I1:Inv X KZ σ (upd H s.z (.tup [.int (i:Int),x])) { s with heap:=s.heap.push { cls:=.type "tuple",data:=.seq (List.toArray [.int (i:Int) F,u]) },toks:=s.toks }:=
   I.laid (λb v q=>Hx _ q) (HD _) #[L8 rfl,[.int (i:Int) F,u],.cons #[_,rfl] (.cons ru .nil),#[_,HG _ rfl,rfl,7],#[_,HG _ rfl,rfl]]
  have fk:∀{b:pd},b<s.z->cH X KZ H b->cH X KZ (upd H s.z (.tup [.int (i:Int),x])) b:=λ{b} lt f=>#[by rw[aD (Ip lt)];exact f.1,f.2]
  have fe:=fk le (O e (by simp))
  have fi:=fk li (O it (by simp))
  have I2:Inv X KZ σ (upd H s.z (.tup [.int (i:Int),x])) { s with heap:=h2,toks:=F+1 }:=by
   refine mB (s:={ s with heap:=s.heap.push { cls:=.type "tuple",data:=.seq (List.toArray [.int (i:Int) F,u]) },toks:=s.toks }) I1 (λb o ne ni q=>?_) fe fi
   have q:(s.heap.push { cls:=.type "tuple",data:=.seq (List.toArray [.int (i:Int) F,u]) }).get? b=KJ o:=q
   refine(n.2 b ne).trans ?_
   rcases Heap.get?_push_cases q with⟨rfl,rfl⟩|q
   .exact hT
   .exact hk b o ne ni q
  obtain⟨⟨oi,L,M⟩,_⟩:=N
  refine #[.ref s.z,_,I2,rfl,#[_,x,rfl,fr,rfl,λys hy=>by rw[I.mT hy Q];exact hx],#[#[u,?_],#[oi,(n.2 it t.symm).trans L,M]],λb J=>?_]
  .have:(((i+1:Nat):Int))=(i:Int)+1:=()
   rw[this];exact a0
  .rcases(show b=e\/b=it by simpa using J)with rfl|rfl
   .exact fe.1
   .exact fi.1
 done:=by
  intro X S T U V i KZ s σ H E I O st W
  subst S T U
  let[xs,Q,hx]:=W
  let[g,Y,p,hz]:=I.tuple Q
  have p:s.heap.IsTuple a g.toArray:=p
  obtain⟨⟨j,y⟩,l⟩:=st
  let[f0,f1,f2,f3,f4,f5]:=O it (by simp)
  have hl:=Y.length
  have B:a≠it:=λz=>by
   subst z
   let[o1,L,M,_]:=l
   let[o2,y1,C,_]:=p
   rw[L]at y1;cases y1
   rw[M]at C;exact absurd (KC.inj C) ⋯
  have D:X.A.in1.handled=KL:=I.ok.hd V
  have ei:g.toArray.size=i:=by simp;omega
  exact wpAny_pyNext_enum_endD (x8 D it a B g.toArray) y #[by rw[ei];exact l,p] λh' eb=>#[rfl,I.turned (t':=s.toks) (λb o J q=>eb b o J q) f0 f1 f3 f4 f5]
 self:=λ_ _ _ _ _ st h=>let⟨⟨_,y⟩,_⟩:=st;wpAny_pyIter_enum y h
section
variable{X:Cx}{elts:ro}{kt:Nat}{pt:Pos}
def Dt(K:Ht)(b:TA):TI:=λσ H R=>b σ H λvs H1=>∃a xs,vs=[.ref a]/\Lm K H1 a xs/\R (Fj K a) H1
theorem xG{a:pv}{j:TA}{p pos:Pos}(m:Gl X "enumerate")(n:X.mg "enumerate"=KL)(o:PA X [a] j)(r:HM [a] X.env=[(KO,eval a X.env)]:=by rfl):PI X (.Tuple elts kt pt) (.Call (.Name "enumerate" p) [a] [] pos) (Dt X.K j):=by
 intro KZ s σ H R I h;refine Call_ (gM I m n jk (JG (Lc (o pos KZ s σ H _ I h) λus c d=>?_) r rfl));let[vs,H1,f,t,v]:=d;let[l,xs,w,x,q]:=v;subst w;let[u,rfl,y]:=t.one;cases y;let[g,B,pt,C]:=f.tuple x;refine rJ (show c.heap.IsTuple l g.toArray from pt) λD k i z=>wpAny_pyIter_enum k ?_
 have fp:∀b∈[c.z+1,c.z],cH X KZ H1 b:=λb A=>by
  have e:c.z<=b:=by
   rcases(show b=c.z+1\/b=c.z by simpa using A)with rfl|rfl
   .exact Nat.le_succ _
   .exact HD _
  exact f.pH e (f.hok.fresh e)
 exact #[_,[c.z+1,c.z],_,_,H1,rfl,f.kept (t':=c.toks) z,qX l _ _ (Nat.succ_ne_self _),#[#[_,k],i],fp,q]
def Dv(b:Ly):My:=λδ M R=>b δ M λc e=>∃a,c=[.tup a]/\R #[a.length,λi=>(a[i]?).map λd=>.tup [.int (i:Int),d],λ_=>True] e
theorem yt{a:pv}{m:Ly}{p pos:Pos}(u:Gl X "enumerate")(w:X.mg "enumerate"=KL)(z:DA X [a] m)(f:HM [a] X.env=[(KO,eval a X.env)]:=by rfl):DI X (.Tuple elts kt pt) (.Call (.Name "enumerate" p) [a] [] pos) (Dv m):=
 mi (xG u w z f) λσ H R A=>by
  let[δ,M,I,f,B,q,fin]:=A
  exact #[δ,M,_,f,B,q,λJ C vs H1 g1 D E F=>by
   let[d,e,G]:=F
   subst e
   let[v,rfl,r]:=bP D
   rw[Rep]at r
   let[l,xs,rfl,hx,g]:=r
   refine #[l,xs,rfl,hx,fin _ C H1 _ g1 E G #[λn o b h s=>#[xs,b.t _ _ hx,g.length.symm],λi n o c b h s=>?_,?_]]
   .have j:i<xs.length:=by rw[<-g.length];exact c
    exact #[xs,xs[i],b.t _ _ hx,by simp[j]]
   .rintro i n o v K c b h s ⟨T,y,rfl,k,rfl,hy⟩
    have c:i<d.length:=c
    let[x,e1,e2]:=(g.mono b).get (show d[i]?=KJ d[i] by simp[c])
    have:=hy xs (b.t _ _ hx)
    rw[e1]at this;cases this
    exact #[.new k,h.new k,.tup [.int (i:Int),d[i]],by simp[c],by rw[Rep];exact #[T,7,Lm.of aF,.cons (by rw[Rep]) (.cons (e2.mono (.new k)) .nil)]]]
end
open PySem PySem.W PySem.Spec PySem.Calls PyProof.Rows Builtin Builtin.ObjectAttr Builtin.Getset_descriptor
section
variable{P:HW}{w:IA}{K:Ht}{mg:Str->Option Hu}{base:pq}{N:rx}{qual:Str}{scope:JH}{f:pd}{cd:Hu}{A:Iv}{outer:List Env}{s:Hv}{H:Hp}{E:XK}
end
def m8(s:pe)(i:Nat):pe:=match s with
 |.ClassDef _ _ _ b _ _ _ _ _ _ _=>b.getD i (.Pass #[0,0,0,0])
 |_=>.Pass #[0,0,0,0]
def cl(K:Ht)(x:Str):pd:=match Kc K IS x with
 |some (KJ (.ref C))=>C
 |_=>0
section
variable{K:Ht}{x y:Str}{C D:pd}{b:Bool}
theorem tM(a:Kc K IS x=KJ (KJ (.ref C))):cl K x=C:=by unfold cl;rw[a]
end
section
variable{X:Cx}{pos:Pos}
variable{x:Str}{e1 e2:pv}{kt:Nat}{tp np:Pos}{t:Ly}
def Fn(t:TA):TE:=λσ H Q=>t σ H λvs H1=>∃n:Nat,vs=[.int (n:Int)]/\∀p,H1 p=KL->Q (.ref p) (upd H1 p (.rng 0 (n:Int)))
theorem B6{a:pv}{d:TA}{p:Pos}(i:Gl X "range")(j:X.mg "range"=KL)(k:PA X [a] d)(l:HM [a] X.env=[(KO,eval a X.env)]:=by rfl):PE X (.Call (.Name "range" p) [a] [] pos) (Fn d):=by intro KZ s σ H Q I h;refine JW (gM I i j boot_range (JG (Lc (k pos KZ s σ H _ I h) λus f c=>?_) l rfl));let[vs,H1,g,m,n,r,q]:=c;subst r;let[u,rfl,t,rfl]:=vals1 m;refine call_range_1 ?_;have v:=g.hok.fresh (HD f.z);exact #[.ref _,_,g.laid (a:=f.z) (o:=.rng 0 (n:Int)) (λb u e=>Hx _ e) (HD _) #[_,_,_,HG _ rfl],rfl,q _ v]
theorem rK:∀(n:Nat) (l:List Hu),l.length=n->(∀(j:Nat) (v:Hu),l[j]?=KJ v->∃t,v=Value.int (j:Int) t)->Vals ((HK n).map λi:Nat=>V.int (i:Int)) l:=by
 intro n l b h
 have key:∀(m:Nat) (l:List Hu),(∀(j:Nat) (v:Hu),l[j]?=KJ v->∃t,v=Value.int ((m+j:Nat):Int) t)->Vals ((Kg m l.length).map λi:Nat=>V.int (i:Int)) l:=by
  intro m l
  induction l generalizing m with
  |nil=>intro _;exact .nil
  |cons a l c=>
   intro h
   rw[Io,List.range'_succ,HI]
   refine .cons (h 0 a rfl) (c (m+1) λj v e=>?_)
   let[t,q]:=h (j+1) v ‹e›
   exact #[t,by rw[q];congr 1;omega]
 have:=key 0 l (λj v e=>‹h j v e›);rw[b,<-List.range_eq_range']at this;exact this
theorem sN(g:X.calm=KN):b5 X (.type "list") (λxs H Q=>∃a,∃n:Nat,xs=[.ref a]/\H a=KJ (.rng 0 (n:Int))/\n<=1000000/\∀p,H p=KL->Q (.ref p) (upd H p (.lst ((HK n).map λi:Nat=>V.int (i:Int))))):=by
 intro KZ s σ H xs us Q I r h;let[a,n,ex,k,C,q]:=h;subst ex;let[u,rfl,l]:=vals1 r;cases (show u=IY a from l);let[t,u,v,e]:=I.hok a _ k;have m:Builtin.Range.rangeSize 0 (n:Int) 1=(n:Int):=by rw[rangeSize_one];split<;>omega
 refine call_list_range (I.ok.hd g) e (small_one () () () ()) m () λD w c y kp z b=>?_;let[d,f]:=b;have A:=I.hok.fresh (HD s.z);have B:Vals ((HK n).map λi:Nat=>V.int (i:Int)) c.toList:=rK n c.toList ‹d› λj v e=>by let[t,q]:=f j v ‹e›;exact #[t,by rw[q];congr 1;omega]
 refine #[.ref _,_,I.laid (a:=s.z) (o:=.lst ((HK n).map λi:Nat=>V.int (i:Int))) (t':=w) kp (HD _) #[?_,c.toList,y,B,‹z›],rfl,q _ A];have sz:1000000<=HR:=L8 rfl;simp;omega
def EE(t:Ly):TD:=λδ M Q=>t δ M λb a=>∃n:Nat,b=[.int (n:Int)]/\n<=1000000/\∀p,a p=KL->Q (.ref p) (au a p (.lst ((HK n).map λi:Nat=>D.int (i:Int))))
theorem rk{K:Ht}{H:Hp}(n:Nat):aC K H ((HK n).map λi:Nat=>D.int (i:Int)) ((HK n).map λi:Nat=>V.int (i:Int)):=by have:=fG (K:=K) (H:=H) ((HK n).map λi:Nat=>(i:Int));rw[Jb,Jb]at this;exact this
theorem pf{e:pv}{f g lp:Pos}(r:X.calm=KN)(s:X.mg "list"=KL)(h:X.mg "range"=KL)(u:DA X [e] t)(i:Gl X "list":=by rfl)(j:Gl X "range":=by rfl)(k:HM [e] X.env=[(KO,eval e X.env)]:=by rfl)
 (c:HM [.Call (.Name "range" f) [e] [] g] X.env=(KO,eval (.Call (.Name "range" f) [e] [] g) X.env)::HM [] X.env:=by rfl) (d:(Jc pos (HM [] X.env)).any (·.1)=KO:=by rfl) :
 DE X (.Call (.Name "list" lp) [.Call (.Name "range" f) [e] [] g] [] pos) (EE t):=
 aY (nB (sN r) i s kX (uj (B6 j h u k) yg c) ⋯ ⋯ c d) λσ H Q ⟨δ,M,R,k,w,q,fin⟩=>by
  refine #[δ,M,_,k,w,q,λD E vs H1 g1 y m a=>?_]
  let[n,z,A,B]:=a
  subst z
  let[v,rfl,o]:=bP y
  rw[Rep]at o;subst o
  refine #[n,rfl,λp l=>#[p,n,rfl,aF,A,λC b=>?_]]
  exact fin _ _ _ _ ((g1.trans (.new l)).trans (.new b)) (by rw[Rep]) ((m.new l).mj b (rk n)) (B C ((m.new l).fresh b))
end
abbrev Lu:=Int×Int×Int×Int
section
variable{P:HW}{w:IA}
def sf(P:HW)(w:IA)(h:pq)(n d:Int)(a:pd):Prop:=IsTupleKey (intKind P w) h [n,d] a
def gr(P:HW)(w:IA)(h:pq)(k:Lu)(a:pd):Prop:=∃o b c m,h.get? a=KJ o/\o.cls=.type "tuple"/\o.data=.seq (List.toArray [.ref b,.ref c]) m/\sf P w h k.1 k.2.1 b/\sf P w h k.2.2.1 k.2.2.2 c
theorem gr.inj{h:pq}{a:pd}{x y:Lu}(p:gr P w h x a)(q:gr P w h y a):x=y:=by
 let[o,b,c,m,h1,t,i,j,k]:=p;let[u,l,n,v,g1,z,d,r,s]:=q;rw[h1]at g1;cases g1;rw[i]at d;injection d with e _;have e1:b=l/\c=n:=‹e›
 let[rfl,rfl]:=e1;have f:=IsTupleKey.inj j r;have g:=IsTupleKey.inj k s;let[x1,A,B,C]:=x;let[y1,D,E,F]:=y;simp at f g;let[rfl,rfl]:=f;let[rfl,rfl]:=g;rfl
theorem gr.keeps{h h':pq}{k:Lu}{a d:pd}{o:Obj}{es:Array J7}{ep:Nat}(p:gr P w h k a)(hd:h.get? d=KJ o)(e:o.data=.dict es ep)(f:JI d h h'):gr P w h' k a:=by
 let[i,b,c,m,h1,j,g,l,n]:=p;have ne:a≠d:=λz=>by rw[z,hd]at h1;cases h1;rw[e]at g;cases g
 exact #[i,b,c,m,(f.2 a ne).trans h1,j,g,IsTupleKey.keeps l hd e f,IsTupleKey.keeps n hd e f]
def wN(P:HW)(w:IA)(k:Lu):Int:=reduceHash (Builtin.Tuple.tupleHashOf [tupleKeyHash (intKind P w) [k.1,k.2.1],tupleKeyHash (intKind P w) [k.2.2.1,k.2.2.2]])
theorem gr.hash{A:Iv}{E:Hu->Hv->Prop}{s:Hv}{k:Lu}{a:pd}{Q:Int->Hv->Prop}(j:A.units+4<J9)(p:gr P w s.heap k a)(q:Q (wN P w k) { s with toks:=s.toks+7 }):HJ (HP P w) A (pyHash (.ref a)) Q E s:=by
 let[o,b,c,m,h1,e,f,h,i]:=p;let[l,g,d,n,os]:=s;show HJ _ _ (pyHashByItsType (.ref a)) _ _ _;refine PySem.W.pyHash_slot (T:="tuple") #[o,h1,e] F.slot_tuple_hash F.entry_tuple_hash (F.args_tuple_hash_1 _) rfl (.inr ()) ?_;unfold KH.«tuple.__hash__»;simp only[<-Array.forIn_toList]
 iterate 4 wp_step
 refine Hz ?_;refine cc (wpAny_tupleItemsOf h1 f ?_);refine cc ?_;simp only[List.forIn_cons,List.forIn_nil,pure_bind,bind_assoc];refine cc (wpAny_pyHash_tuple (knd:=intKind P w) (by show A.units+1<J9;omega) h ?_);refine cc (wpAny_pyHash_tuple (knd:=intKind P w) (by show A.units+1<J9;omega) i ?_);refine Hz ?_;unfold retInt
 wp_walk
 exact #[_,7,q]
theorem i8{n:Int}{v:Hu}(h:(intKind P w).is n v=KN):∃t,v=.int n t:=by
 have h:Value.isInt n v=KN:=h;cases v with
 |int i t=>
  have:(i==n)=KN:=h
  exact #[t,by rw[eq_of_beq this]]
 |_=>cases h
def Ab(n d:Int):K8:=.tuple [.int n,.int d]
def pQ(k:Lu):K8:=.tuple [Ab k.1 k.2.1,Ab k.2.2.1 k.2.2.2]
theorem sf.reads{h:pq}{n d:Int}{a:pd}(p:sf P w h n d a):∃e,Reads h (.ref a) (Ab n d) e:=by
 let[o,b,m,h1,f,g,c]:=p;generalize i:b.toList=l at c;cases c with
 |cons hx r=>
  cases r with
  |cons hy r=>
   cases r
   let[t1,rfl]:=i8 hx
   let[j,rfl]:=i8 hy
   exact #[_,.tuple h1 f g (by rw[i];exact .cons (.int _ _) (.cons (.int _ _) .nil))]
theorem gr.reads{h:pq}{k:Lu}{a:pd}(p:gr P w h k a):∃d,Reads h (.ref a) (pQ k) d:=by let[o,b,c,m,h1,e,f,g,i]:=p;let[d,j]:=g.reads;let[bs,l]:=i.reads;exact #[_,.tuple h1 e f (.cons j (.cons l .nil))]
theorem yj(x y:Lu):(pQ x).eqv (pQ y)=decide (x=y):=by let[x1,a,b,c]:=x;let[y1,d,e,f]:=y;simp only[pQ,Ab,J0,Jl,Bool.and_true];rw[Bool.eq_iff_iff];simp[and_assoc]
theorem gr.eq{A:Iv}{E:Hu->Hv->Prop}{s:Hv}{x y:Lu}{a b:pd}{Q:Bool->Hv->Prop}(g:A.units+4<J9)(p:gr P w s.heap x a)(c:gr P w s.heap y b)(q:Q (decide (x=y)) s):HJ (HP P w) A (eqBool (.ref a) (.ref b)) Q E s:=by let[d,e]:=p.reads;let[bs,f]:=c.reads;have hd:min (pQ x).depth (pQ y).depth<=3:=ID (Nat.min_le_left _ _) (L8 rfl);have:=SeqAt.eqAt_reads (pQ x) (pQ y) A s (.ref a) (.ref b) d bs e f rfl rfl ();rw[yj]at this;exact this P w E Q q
theorem sf.quiet{A:Iv}{E:Hu->Hv->Prop}{s:Hv}{n d:Int}{a:pd}{Q:Bool->Hv->Prop}(i:Nat)(p:sf P w s.heap n d a)(q:Q KN s):HJ (HP P w) A (eqIsQuiet (i+1) (.ref a)) Q E s:=by
 let[o,b,m,h1,c,f,e]:=p;rw[eqIsQuiet.eq_2];refine cc (wpAny_specialOf #[o,h1,c] F.slot_tuple_eq.lookup ?_);refine cc (wpAny_isInstance #[o,h1,c] isSubtype_tuple_tuple ?_);simp only[Bool.not_true,J1,if_false];refine cc (Ky h1 f ?_);simp only[Option.getD_some,<-Array.forIn_toList];generalize h:b.toList=l at e;cases e with
 |cons hx r=>
  cases r with
  |cons hy r=>
   cases r
   let[t1,rfl]:=i8 hx
   let[g,rfl]:=i8 hy
   refine cc ?_
   simp only[List.forIn_cons,List.forIn_nil,pure_bind,bind_assoc,eqIsQuiet_byValue i (show carriedByValue (.int n t1)=KN from rfl),eqIsQuiet_byValue i (show carriedByValue (.int d g)=KN from rfl),Bool.not_true,J1,if_false]
   refine Hz ?_
   exact Hz q
theorem gr.quiet{A:Iv}{E:Hu->Hv->Prop}{s:Hv}{k:Lu}{a:pd}{Q:Bool->Hv->Prop}(p:gr P w s.heap k a)(q:Q KN s):HJ (HP P w) A (eqIsQuiet 8 (.ref a)) Q E s:=by let[o,b,c,m,h1,d,e,f,g]:=p;rw[eqIsQuiet.eq_2];refine cc (wpAny_specialOf #[o,h1,d] F.slot_tuple_eq.lookup ?_);refine cc (wpAny_isInstance #[o,h1,d] isSubtype_tuple_tuple ?_);simp only[Bool.not_true,J1,if_false];refine cc (Ky h1 e ?_);simp only[Option.getD_some,<-Array.forIn_toList];refine cc ?_;simp only[List.forIn_cons,List.forIn_nil,pure_bind,bind_assoc];refine cc (f.quiet 6 ?_);simp only[Bool.not_true,J1,if_false,pure_bind];refine cc (g.quiet 6 ?_);simp only[Bool.not_true,J1,if_false,pure_bind];refine Hz ?_;exact Hz q
def d7(P:HW)(w:IA):HeapKind P w Lu where
 is:=gr P w
 hash:=wN P w
 draws:=λ_=>7
 room:=λA=>A.units+4<J9
 inj:=λp q=>p.inj q
 keeps:=λp hd b c=>p.keeps hd b c
 pyHash:=λa p q=>p.hash a q
 eqBool:=λa p d q=>p.eq a d q
 quiet:=λp q=>p.quiet q
end
section
variable{X:Cx}{KZ:p4}{σ:L2.St}{H:Hp}{s:Hv}{a b:pd}{k:Lu}
def dA(K:Ht)(H:Hp)(b:pd)(k:Lu):Prop:=∃f g,Lm K H b [.ref f,.ref g]/\Lm K H f [.int k.1,.int k.2.1]/\Lm K H g [.int k.2.2.1,.int k.2.2.2]
theorem BG{n d:Int}{f:pd}(I:L2.Inv X KZ σ H s)(h:Lm X.K H f [.int n,.int d]):sf X.prog X.w s.heap n d f:=by
 let[c,r,e,_]:=I.tuple h;cases r with
 |cons g r=>cases r with
  |cons i r=>
   cases r
   let[t1,rfl]:=g
   let[p,rfl]:=i
   let[o,h1,j,m,l]:=e
   exact #[o,_,m,h1,j,l,.cons (by show((n==n)=KN);simp) (.cons (by show((d==d)=KN);simp) .nil)]
theorem qd(I:L2.Inv X KZ σ H s)(h:dA X.K H b k):gr X.prog X.w s.heap k b:=by
 let[f,g,h1,c,d]:=h;let[e,r,i,_]:=I.tuple h1;cases r with
 |cons j r=>cases r with
  |cons l r=>
   cases r
   cases j
   cases l
   let[o,n,p,m,q]:=i
   exact #[o,f,g,m,n,p,q,BG I c,BG I d]
abbrev MS:=Lu×pd×V
def bZ(P:HW)(w:IA)(a:pd)(xs:List MS):pq->Prop:=λh=>(a==JC)=KO/\xs.length<=HR/\(xs.map (·.1)).Nodup/\∃c:List (Lu×pd×Hu),
 KI (λ(p:MS) (q:Lu×pd×Hu)=>p.1=q.1/\p.2.1=q.2.1/\RelV p.2.2 q.2.2) xs c/\∃o d e,h.get? a=KJ o/\o.ExactDict/\o.data=.dict d e/\d.toList=c.map (entryOfKey (d7 P w))
def fW(xs:List MS)(k:Lu)(b:pd)(v:V):List MS:=if(xs.any λx=>decide (x.1=k))=KN then xs.map (λx=>if x.1=k then(x.1,x.2.1,v)else x)else xs++[(k,b,v)]
abbrev QA:=λ(p:MS) (q:Lu×pd×Hu)=>p.1=q.1/\p.2.1=q.2.1/\RelV p.2.2 q.2.2
theorem jj{xs:List MS}{c:List (Lu×pd×Hu)}(r:KI QA xs c):c.map (·.1)=xs.map (·.1):=by
 induction r with
 |nil=>rfl
 |cons h t d=>rw[HI,HI,d,h.1]
theorem AL{xs:List MS}{d:List (Lu×pd×Hu)}(r:KI QA xs d)(k:Lu):(xs.any λx=>decide (x.1=k))=(atKey d k).isSome:=by
 induction r with
 |nil=>rfl
 |@cons p q ps qs h t ih=>
  rw[Ke]
  by_cases e:p.1=k
  .have c:q.1=k:=h.1.symm.trans e;simp[atKey,Iq,e,c]
  .have c:¬q.1=k:=λz=>e (h.1.trans z);rw[KR e,Bool.false_or,ih];simp[atKey,Iq,c]
theorem gW{xs:List MS}{c:List (Lu×pd×Hu)}(r:KI QA xs c)(k:Lu)(b:pd){v:V}{u:Hu}(d:RelV v u):KI QA (fW xs k b v) (storedH c k b u):=by
 unfold fW storedH;rw[AL r k];by_cases e:(atKey c k).isSome=KN
 .rw[KQ e,KQ e];clear e
  induction r with
  |nil=>exact .nil
  |@cons p q ps qs h t ih=>
   rw[HI,HI]
   refine .cons ?_ ih
   unfold putAt
   by_cases e:p.1=k
   .rw[KQ e,KQ (h.1.symm.trans e)];exact #[h.1,h.2.1,d]
   .rw[KP e,KP (λz=>e (h.1.trans z))];exact h
 .rw[KP e,KP e];exact Paired.snoc r #[rfl,rfl,d]
theorem k7{xs:List MS}{c:List (Lu×pd×Hu)}(r:KI QA xs c):xs.length=c.length:=by
 induction r with
 |nil=>rfl
 |cons h t d=>rw[Io,Io,d]
theorem zR{xs:List MS}{c:List (Lu×pd×Hu)}(r:KI QA xs c){q:Lu×pd×Hu}(h:q∈c):∃p∈xs,p.1=q.1/\p.2.1=q.2.1:=by
 induction r with
 |nil=>cases h
 |cons d t f=>
  rcases II.mp h with z|z
  .subst z;exact #[_,by simp,d.1,d.2.1]
  .obtain⟨p,g,e⟩:=f z;exact #[p,by simp[g],e]
theorem l9(xs:List MS)(k:Lu)(b:pd)(v:V):(fW xs k b v).length<=xs.length+1:=by
 unfold fW;split
 .rw[Hw];omega
 .simp
theorem nO{xs:List MS}(I:L2.Inv X KZ σ H s)(e:H a=KJ (.ext (bZ X.prog X.w a xs)))(d:∀x∈xs,dA X.K H x.2.1 x.1):(a==JC)=KO/\xs.length<=HR/\∃c,KI QA xs c/\s.heap.DictOfH (d7 X.prog X.w) a c:=by obtain⟨⟨h1,f,g,c,r,o,h,i,j,l,m,n⟩,_⟩:=I.hok a _ e;refine #[h1,f,c,r,o,h,i,j,l,m,n,λx hx=>?_,by rw[jj r];exact g];let[p,q,e1,e2]:=zR r hx;rw[<-e1,<-e2];exact qd I (d p q)
theorem kJ{P:HW}{w:IA}{xs:List MS}(h1 c:pq)(h:bZ P w a xs h1)(k:∀o,h1.get? a=KJ o->c.get? a=KJ o):bZ P w a xs c:=by let[d,e,f,g,r,o,i,j,l,q]:=h;exact #[d,e,f,g,r,o,i,j,k o l,q]
theorem zB{A:Iv}{E:Hu->Hv->Prop}{Q:Unit->Hv->Prop}{xs:List MS}{v:V}{u:Hu}(F:A.units+8<J9)(I:L2.Inv X KZ σ H s)(e:H a=KJ (.ext (bZ X.prog X.w a xs)))(i:∀x∈xs,dA X.K H x.2.1 x.1)(j:dA X.K H b k)(f:RelV v u)(G:xs.length<HR)
 (h:∀g,L2.Inv X KZ σ (upd H a (.ext (bZ X.prog X.w a (fW xs k b v)))) g->Q .unit g):HJ (HP X.prog X.w) A (setItem (.ref a) (.ref b) u) Q E s:=by
 let[hd,l,J,r,m]:=nO I e i
 refine wpAny_setItem_heap (knd:=d7 X.prog X.w) (hsz:=by rw[<-k7 r];exact l) (show A.in1.units+4<J9 by show A.units+1+4<J9;omega) (qd I j) m λL c n=>h _ ?_
 let[q,o,p,d,t,z,B,_,C]:=c
 refine iU I (by rw[e];exact JV) n #[q,d] #[#[hd,?_,?_,_,gW r k b f,q,o,p,d,t,z,B],#[q,d],λh1 D x y=>kJ h1 D x y]
 .have:=l9 xs k b v;omega
 .rw[<-jj (gW r k b f)];exact C
theorem uc(I:L2.Inv X KZ σ H s):L2.Inv X KZ σ (upd H s.z (.ext (bZ X.prog X.w s.z []))) { s with heap:=s.heap.push { cls:=.type "dict",data:=.dict #[] } }:=
 I.laid (a:=s.z) (t':=s.toks) (λ_ _ q=>Hx _ q) (HD _)
  #[#[beq_eq_false_iff_ne.mpr (Ne.symm (Ip I.big)),J3 _,List.nodup_nil,[],.nil,_,#[],0,HG _ rfl,#[rfl,rfl,rfl],rfl,rfl],#[_,HG _ rfl],λh1 c x y=>kJ h1 c x y]
def eF(xs:List MS)(k:Lu):Option V:=(xs.find? λx=>decide (x.1=k)).map (·.2.2)
theorem oE{xs:List MS}{d:List (Lu×pd×Hu)}(r:KI QA xs d){v:V}(h:eF xs k=KJ v):∃p:pd×Hu,atKey d k=KJ p/\RelV v p.2:=by
 induction r with
 |nil=>cases h
 |@cons p q ps qs h' t ih=>
  by_cases e:p.1=k
  .have c:q.1=k:=h'.1.symm.trans e;simp[eF,Iq,e]at h;subst h;exact #[q.2,by simp[atKey,Iq,c],h'.2.2]
  .have c:¬q.1=k:=λz=>e (h'.1.trans z);have f:eF ps k=KJ v:=by simpa[eF,Iq,e]using h
   let[g,i,j]:=ih f;exact #[g,by simpa[atKey,Iq,c]using i,j]
theorem zh{A:Iv}{E:Hu->Hv->Prop}{Q:Hu->Hv->Prop}{xs:List MS}{v:V}(j:A.units+8<J9)(I:L2.Inv X KZ σ H s)(e:H a=KJ (.ext (bZ X.prog X.w a xs)))(d:∀x∈xs,dA X.K H x.2.1 x.1)(f:dA X.K H b k)(hv:eF xs k=KJ v) (h:∀u c,L2.Inv X KZ σ H c->RelV v u->Q u c):HJ (HP X.prog X.w) A (getItem (.ref a) (.ref b)) Q E s:=by let[hd,l,m,r,g]:=nO I e d;let[p,h1,i]:=oE r hv;exact wpAny_getItem_heap (knd:=d7 X.prog X.w) (show A.in1.units+4<J9 by show A.units+1+4<J9;omega) (qd I f) g h1 (h _ _ (I.tok _) i)
end
section
variable{prog:HW}{w:IA}{K:Type}[DecidableEq K]{knd:HeapKind prog w K}{A:Iv}{E:Hu->Hv->Prop}{s:Hv}
theorem qI{d a:pd}{xs:List (K×pd×Hu)}{k:K}{v:Hu}{Q:Hu->Hv->Prop}(n:knd.room A)(b:knd.is s.heap k a)(r:s.heap.DictOfH knd d xs) (h1:∀p,atKey xs k=KJ p->Q p.2 { s with toks:=s.toks+knd.draws k }) (t:atKey xs k=KL->∀h',h'.DictOfH knd d (storedH xs k a v)->JI d s.heap h'->Q v { s with heap:=h',toks:=s.toks+knd.draws k }) (hsz:xs.length<=HR) : HJ (HP prog w) A (dictSetDefault d (.ref a) v) Q E s:=by
 let[o,B,u,c,z,hd,l,g,m]:=r;unfold dictSetDefault
 try with_reducible refine Jg ?_
 refine cc (knd.pyHash n b ?_);refine cc (wpAny_dictFind_heap (s:={ s with toks:=s.toks+knd.draws k }) n b c hd l g m ?_ ?_)
 .intro h;have i:k∉xs.map (·.1):=not_mem_keys_of_get h;have f:=atKey_none_of_get h
  refine cc (wpAny_rule (cc (wpAny_updateDictKeys (hz:=by have e:=size_of_entries l;omega) (s:={ s with toks:=s.toks+knd.draws k }) c hd (Hz (t f _ #[_,_,u+1,JS _ c (Obj.isFreed_of_dict (Obj.data_mapDictKeys hd _)),
   z.mapDictKeys _,Obj.data_mapDictKeys hd _,?_,?_,?_] (J4 ..))))))
  .rw[storedH_new f];simp[l,entryOfKey]
  .rw[storedH_new f];intro x hx;rcases HX.mp hx with hx|hx
   .exact knd.keeps (g x hx) c hd (J4 ..)
   .have:x=(k,a,v):=‹hx›
    subst this;exact knd.keeps b c hd (J4 ..)
  .rw[storedH_new f,Iu,Kr];refine #[m,by simp,?_];intro x hx y hy;have:y=k:=‹hy›
   subst this;exact λe=>i (e▸hx)
 .intro j p q;have f:=atKey_of_get m q;refine cc (wpAny_dictEntries (s:={ s with toks:=s.toks+knd.draws k }) c hd ?_);rw[entry_at l j,q];exact cc (wpAny_rule (Hz (h1 p f)))
theorem qJ{d a:pd}{xs:List (K×pd×Hu)}{k:K}{v:Hu}{Q:Hu->Hv->Prop}(g:knd.room A.in1)(b:knd.is s.heap k a)(c:s.heap.DictOfH knd d xs)(hd:(d==JC)=KO)
 (h1:∀p,atKey xs k=KJ p->Q p.2 { s with toks:=s.toks+knd.draws k })
 (h:atKey xs k=KL->∀h',h'.DictOfH knd d (storedH xs k a v)->JI d s.heap h'->Q v { s with heap:=h',toks:=s.toks+knd.draws k }) (hsz:xs.length<=HR) :
 HJ (HP prog w) A (call (.builtin "dict.setdefault") [.ref d,.ref a,v]) Q E s:=by
 refine Kh PySem.F.slot_dict_setdefault c.typeIs PySem.F.entry_dict_setdefault ?_ (PySem.F.args_dict_setdefault_3 _ _ _)
 unfold KH.«dict.setdefault»
 refine cc ?_
 unfold Builtin.Dict.keyAndDefault
 refine cc (wpAny_notOrdered_dict c.typeIs ?_)
 show HJ _ _ (pure (d,IY a,KJ v)) _ _ s
 refine Hz ?_
 show HJ _ _ (if(d==JC)=KN then _ else(dictSetDefault d (.ref a) v >>= _)) _ _ s
 rw[KP (by rw[hd];exact Ib)]
 exact cc (qI g b c (λp i=>Hz #[p.2,rfl,h1 p i]) (λj h' e f=>Hz #[v,rfl,h j h' e f]) hsz)
end
section
variable{X:Cx}{KZ:p4}{σ:L2.St}{H:Hp}{s:Hv}{a b:pd}{k:Lu}
theorem yR{xs:List MS}{c:List (Lu×pd×Hu)}(r:KI QA xs c)(h:eF xs k=KL):atKey c k=KL:=by
 induction r with
 |nil=>rfl
 |@cons p q ps qs h' t ih=>
  by_cases e:p.1=k
  .simp[eF,Iq,e]at h
  .have d:¬q.1=k:=λz=>e (h'.1.trans z);have f:eF ps k=KL:=by simpa[eF,Iq,e]using h
   have:=ih f;simpa[atKey,Iq,d]using this
theorem qY{A:Iv}{E:Hu->Hv->Prop}{Q:Hu->Hv->Prop}{xs:List MS}{v:V}{u:Hu}(R:A.units+8<J9)(I:L2.Inv X KZ σ H s)(e:H a=KJ (.ext (bZ X.prog X.w a xs)))(o:∀x∈xs,dA X.K H x.2.1 x.1)(t:dA X.K H b k)(m:RelV v u)(S:xs.length<HR)
 (h1:∀d n f,eF xs k=KJ d->L2.Inv X KZ σ H f->RelV d n->Q n f)
 (h:eF xs k=KL->∀f,L2.Inv X KZ σ (upd H a (.ext (bZ X.prog X.w a (fW xs k b v)))) f->Q u f):HJ (HP X.prog X.w) A (call (.builtin "dict.setdefault") [.ref a,.ref b,u]) Q E s:=by
 let[hd,z,T,r,B]:=nO I e o
 refine qJ (knd:=d7 X.prog X.w) (show A.in1.units+4<J9 by show A.units+1+4<J9;omega) (qd I t) B hd (λp i=>?_) (λC U j D=>?_) (by rw[<-k7 r];exact z)
 .cases c:eF xs k with
  |none=>rw[yR r c]at i;cases i
  |some d=>
   let[F,g,G]:=oE r c
   rw[i]at g
   cases g
   exact h1 d _ _ c (I.tok _) G
 .have c:eF xs k=KL:=by
   cases c:eF xs k with
   |none=>rfl
   |some d=>
    let[F,g,_]:=oE r c
    rw[C]at g;cases g
  refine h c _ ?_
  let[q,J,L,l,M,N,O,_,P]:=j
  refine iU I (by rw[e];exact JV) D #[q,l] #[#[hd,?_,?_,_,gW r k b m,q,J,L,l,M,N,O],#[q,l],λh1 h x y=>kJ h1 h x y]
  .have:=l9 xs k b v;omega
  .rw[<-jj (gW r k b m)];exact P
end
section
variable{X:Cx}
def Dr(X:Cx):TE:=λ_ H Q=>∀p,H p=KL->Q (.ref p) (upd H p (.ext (bZ X.prog X.w p [])))
theorem wb{pos:Pos}:PE X (.Dict [] [] pos) (Dr X):=λKZ s σ H Q I h=>wpAny_Dict_empty #[.ref s.z,_,uc I,rfl,h _ (I.hok.fresh (HD _))]
structure Qh(X:Cx)(H:Hp)(a b:pd)(xs:List MS)(k:Lu):Prop where
 d:H a=KJ (.ext (bZ X.prog X.w a xs))
 ks:∀x∈xs,dA X.K H x.2.1 x.1
 key:dA X.K H b k
def Ci(X:Cx)(d ty:TE):TE:=λσ H Q=>d σ H λx H1=>ty σ H1 λy c=>∃a b xs k v,x=.ref a/\y=.ref b/\Qh X c a b xs k/\eF xs k=KJ v/\Q v c
theorem wD{KZ:p4}{σ:L2.St}{H:Hp}{s:Hv}{a:pd}{xs:List MS}(I:L2.Inv X KZ σ H s)(e:H a=KJ (.ext (bZ X.prog X.w a xs))):s.TypeIs (.ref a) "dict"/\∀b,IY a=.ref b->∃o,s.heap.get? b=KJ o/\o.dict=KL:=by obtain⟨⟨_,_,_,_,_,o,_,_,c,d,_⟩,_⟩:=I.hok a _ e;exact #[#[o,c,d.1],λb z=>by cases z;exact #[o,c,d.2.1]]
theorem yY{o i:pv}{e ty:TE}{pos:Pos}(g:X.A.units+8<J9)(j:PE X o e)(l:PE X i ty)(m:EK i):PE X (.Subscript o i pos) (Ci X e ty):=by intro KZ s σ H Q I h;refine Subscript_ (Lc (j KZ s σ H _ I h) λv n ⟨x,H1,p,r,t⟩=>Lc (l KZ n σ H1 _ p t) λu J c=>?_);let[y,w,f,z,a,b,xs,k,B,ex,C,D,hv,q]:=c;subst ex C;cases r;cases z;exact tail_any (wD f D.d).1 PySem.F.slot_dict_getitem.lookup (zh g f D.d D.ks D.key hv λK L E G=>#[B,w,E,G,q]) (m _ _)
def CY(X:Cx)(d ty e:TE):TS:=λD σ H=>e σ H λv H1=>d σ H1 λx f=>ty σ f λy c=>∃a b xs k,x=.ref a/\y=.ref b/\Qh X c a b xs k/\xs.length<HR/\D.nx σ (upd c a (.ext (bZ X.prog X.w a (fW xs k b v))))
theorem yB{o i c:pv}{g ty j:TE}{pos e:Pos}(l:X.A.units+8<J9)(m:PE X o g)(n:PE X i ty)(hv:PE X c j)(p:JU c (KJ (.Subscript o i e)) pos.line X.env=pure KO) : PS X (.Assign [.Subscript o i e] c pos) (CY X g ty j):=by intro KZ s σ H D I h;refine wpAny_Assign_Subscript (Lc (hv KZ s σ H _ I h) λr q ⟨v,H1,t,w,z⟩=>Lc (m KZ q σ H1 _ t z) λu B ⟨x,C,E,F,G⟩=>Lc (n KZ B σ C _ E G) λP Q f=>?_) p;let[y,R,J,K,a,b,xs,k,ex,L,A,M,N]:=f;subst ex L;cases F;cases K;exact zB l J A.d A.ks A.key w M λS O=>#[σ,_,O,N]
def FL(X:Cx)(to:TE)(t:TA):TE:=λσ H Q=>to σ H λx H1=>∃a c,x=.ref a/\H1 a=KJ (.ext (bZ X.prog X.w a c))/\t σ H1 λvs d=>∃b v xs k,vs=[.ref b,v]/\Qh X d a b xs k/\xs.length<HR/\
 (∀e,eF xs k=KJ e->Q e d)/\(eF xs k=KL->Q v (upd d a (.ext (bZ X.prog X.w a (fW xs k b v)))))
theorem zE{o e1 e2:pv}{to:TE}{t:TA}{e f:Pos}(z:X.A.units+8<J9)(B:PE X o to)(C:PA X [e1,e2] t)
 (g:JX o "setdefault" X.env (eval o X.env)=eval o X.env:=by rfl)
 (m:((Jc f (HM [e1,e2] X.env)).all (λx=>!x.1)&&(KG f (JQ [] X.env)).all (λx=>x.1.isSome)
  && decide ([e1,e2].length+([]:List Keyword).length+(if([]:List Keyword).isEmpty then 0 else 1)<30))=KN:=by rfl)
 (i:(e.endLine==f.line)=KN:=by rfl) (E:HM [e1,e2] X.env=(KO,eval e1 X.env)::HM [e2] X.env:=by rfl) (c:(Jc f (HM [e2] X.env)).any (·.1)=KO:=by rfl) :
 PE X (.Call (.Attribute o "setdefault" e) [e1,e2] [] f) (FL X to t):=by
 intro KZ s σ H Q I h
 refine wpAny_Call_method_late g m i rfl (Lc (B KZ s σ H _ I h) λv G j=>?_)
 let[x,H1,u,J,a,K,ex,L,M]:=j
 subst ex
 cases J
 let[h1,N]:=wD u L
 exists "dict","dict.setdefault",PySem.F.plainAttrs_dict,PySem.F.slot_dict_setdefault,PySem.F.type_dict_setdefault,h1,N
 have w:=C f KZ G σ H1 _ u M
 rw[E]at w ⊢
 refine Calls.callWith_builtin (by show(KO||(Jc f (HM [e2] X.env)).any (·.1))=KO;rw[c]<;>rfl) (Calls.evalArgs_plain ?_)
 refine Lc w λus s2 l=>?_
 let[vs,O,P,R,b,S,xs,k,p,D,T,U,V]:=l
 subst p
 let[u1,u2,rfl,q,n]:=R.two
 cases q
 exact qY z P D.d D.ks D.key n T (λy u' W p r Y=>#[y,O,r,Y,U y p]) (λZ W r=>#[S,_,r,n,V Z])
end
def OL(k:Lu):D:=.tup [.tup [.int k.1,.int k.2.1],.tup [.int k.2.2.1,.int k.2.2.2]]
section
variable{K:Ht}{H H':Hp}{M:MH}{a b:pd}{k:Lu}
theorem pP{v:V}(r:Rep K H (OL k) v):∃b,v=.ref b/\dA K H b k:=by unfold OL at r;rw[Rep]at r;let[b,xs,rfl,hx,l]:=r;let[q,s,rfl,c,d]:=gc l;rw[Rep]at c d;let[f,fs,rfl,m,n]:=c;let[g,t,rfl,o,p]:=d;let[u,w,rfl,e,h]:=gc n;let[x,y,rfl,i,j]:=gc p;rw[Rep]at e h i j;subst e h i j;exact #[b,rfl,f,g,hx,m,o]
theorem wy(h:dA K H b k):Rep K H (OL k) (.ref b):=by
 let[f,g,hx,d,e]:=h;unfold OL;rw[Rep];exists b,7,hx;have c:∀(m n:Int),aC K H [D.int m,D.int n] [V.int m,V.int n]:=λm n=>fG [m,n];rw[aC];exists _,7,?_
 .rw[Rep];exact #[f,7,d,c _ _]
 .rw[aC];exists _,7,?_
  .rw[Rep];exact #[g,7,e,c _ _]
  .rw[aC]
theorem dA.mono(g:L5 K H H')(h:dA K H b k):dA K H' b k:=by let[c,e,r]:=pP ((wy h).mono g);cases e;exact r
abbrev MP:=List (Lu×D)
def Q5(kvs:MP):Ht->Hp->pd->Prop:=λK H a=>∃xs:List MS,(∀P w,H a=KJ (.ext (bZ P w a xs)))/\xs.map (·.1)=kvs.map (·.1)/\(∀x∈xs,dA K H x.2.1 x.1)/\aC K H (kvs.map (·.2)) (xs.map (·.2.2))
theorem xE{kvs:MP}(h:Q5 kvs K H a)(g:L5 K H H')(e:H' a=H a):Q5 kvs K H' a:=by let[xs,h1,c,d,f]:=h;exact #[xs,λP w=>e.trans (h1 P w),c,λx hx=>(d x hx).mono g,f.mono g]
def MW(kvs:MP):MO:=.gen (Q5 kvs)
theorem Lb.dsp{kvs:MP}(h:Lb K H M)(e:M a=KJ (MW kvs)):Q5 kvs K H a:=(h a _ e).1
theorem Q5.wJ{kvs:MP}(h:Q5 kvs K H a)(ne:H a≠KL):mO K H a (MW kvs):=#[h,ne,λH' g e=>xE h g e]
theorem Lb.Bs{p:pd}(P:HW)(w:IA)(h:Lb K H M)(c:H p=KL):Lb K (upd H p (.ext (bZ P w p []))) (au M p (MW [])):=λa u e=>by
 by_cases ne:a=p
 .subst ne;rw[ag]at e;cases e;exact Q5.wJ #[[],(λP w=>aF),rfl,(λx hx=>by simp at hx),(by simp[aC])] (by rw[aF];simp)
 .rw[ak ne]at e;exact(h a u e).ff (.new c) (aD ne)
def dz(kvs:MP)(k:Lu):r_:=(kvs.find? λx=>decide (x.1=k)).map (·.2)
def putD(kvs:MP)(k:Lu)(d:D):MP:=if(kvs.any λx=>decide (x.1=k))=KN then kvs.map (λx=>if x.1=k then(x.1,d)else x)else kvs++[(k,d)]
theorem og(k:Lu):∀{kvs:MP} {xs:List MS},xs.map (·.1)=kvs.map (·.1)->aC K H (kvs.map (·.2)) (xs.map (·.2.2))->(∀d,dz kvs k=KJ d->∃v,eF xs k=KJ v/\Rep K H d v)/\(dz kvs k=KL->eF xs k=KL)/\((xs.any λx=>decide (x.1=k))=kvs.any λx=>decide (x.1=k))
 |[],[],_,_=>#[(λd h=>by simp[dz]at h),(λ_=>rfl),rfl]
 |[],x::xs,h,_=>by cases h
 |y::kvs,[],h,_=>by cases h
 |y::kvs,x::xs,h,r=>by
  rw[HI,HI]at h
  injection h with h1 g
  rw[HI,HI,aC]at r
  let[v,vs,e,i,j]:=r
  injection e with e1 e2
  subst e1 e2
  let[l,m,n]:=og k g j
  by_cases e:y.1=k
  .have c:x.1=k:=h1.trans e
   refine #[λd hd=>?_,λf=>?_,?_]
   .simp[dz,Iq,e]at hd
    subst hd
    exact #[x.2.2,by simp[eF,Iq,c],i]
   .simp[dz,Iq,e]at f
   .simp[e,c]
  .have c:¬x.1=k:=λz=>e (h1.symm.trans z)
   refine #[λd hd=>?_,λf=>?_,?_]
   .obtain⟨v,o,p⟩:=l d (by simpa[dz,Iq,e]using hd)
    exact #[v,by simpa[eF,Iq,c]using o,p]
   .have:=m (by simpa[dz,Iq,e]using f)
    simpa[eF,Iq,c]using this
   .rw[Ke,Ke,n,KR e,KR c]
theorem tO(k:Lu){d:D}{v:V}(r:Rep K H d v):∀{kvs:MP} {xs:List MS},xs.map (·.1)=kvs.map (·.1)->aC K H (kvs.map (·.2)) (xs.map (·.2.2))->
 (xs.map λx=>if x.1=k then(x.1,x.2.1,v)else x).map (·.1)=(kvs.map λx=>if x.1=k then(x.1,d)else x).map (·.1)/\aC K H ((kvs.map λx=>if x.1=k then(x.1,d)else x).map (·.2)) ((xs.map λx=>if x.1=k then(x.1,x.2.1,v)else x).map (·.2.2))
 |[],[],_,h=>#[rfl,h]
 |[],x::xs,h,_=>by cases h
 |y::kvs,[],h,_=>by cases h
 |y::kvs,x::xs,h,q=>by
  rw[HI,HI]at h
  injection h with h1 i
  rw[HI,HI,aC]at q
  let[m,vs,e,j,l]:=q
  injection e with e1 e2
  subst e1 e2
  let[f,g]:=tO k r i l
  by_cases e:y.1=k
  .have c:x.1=k:=h1.trans e
   simp only[HI,KQ e,KQ c]
   exact #[by rw[f];exact congrArg (·::_) h1,by rw[aC];exact #[_,7,r,g]]
  .have c:¬x.1=k:=λz=>e (h1.symm.trans z)
   simp only[HI,KP e,KP c]
   exact #[by rw[f];exact congrArg (·::_) h1,by rw[aC];exact #[_,7,j,g]]
theorem BS{kvs:MP}{xs:List MS}{d:D}{v:V}(h1:xs.map (·.1)=kvs.map (·.1))(c:aC K H (kvs.map (·.2)) (xs.map (·.2.2)))(f:∀x∈xs,dA K H x.2.1 x.1)(g:dA K H b k)(r:Rep K H d v) : (fW xs k b v).map (·.1)=(putD kvs k d).map (·.1)/\aC K H ((putD kvs k d).map (·.2)) ((fW xs k b v).map (·.2.2))/\∀x∈fW xs k b v,dA K H x.2.1 x.1:=by
 unfold fW putD;rw[(og k h1 c).2.2];by_cases e:(kvs.any λx=>decide (x.1=k))=KN
 .rw[KQ e,KQ e];let[h,i]:=tO k r h1 c;refine #[h,i,λx hx=>?_];let[y,hy,rfl]:=IZ.mp hx;have:=f y hy;by_cases e:y.1=k
  .rw[KQ e];exact this
  .rw[KP e];exact this
 .rw[KP e,KP e];refine #[by rw[Iu,Iu,h1];rfl,?_,λx hx=>?_]
  .rw[Iu,Iu];exact c.append (by rw[HI,HI,Jm,Jm,aC];exact #[_,7,r,by rw[aC]])
  .rcases HX.mp hx with z|z
   .exact f x z
   .have:x=(k,b,v):=‹z›
    subst this;exact g
theorem L5.ext{c:pq->Prop}{o:HO}(h:H a=KJ (.ext c)):L5 K H (upd H a o):=.put (λxs e=>by rw[h]at e;cases e) (λu xs e=>by rw[h]at e;cases e)
theorem Lb.xv{kvs:MP}{xs:List MS}{d:D}{v:V}(P:HW)(w:IA)(h:Lb K H M)(hx:∀P w,H a=KJ (.ext (bZ P w a xs)))(h1:xs.map (·.1)=kvs.map (·.1))(f:aC K H (kvs.map (·.2)) (xs.map (·.2.2)))(i:∀x∈xs,dA K H x.2.1 x.1)(j:dA K H b k)(r:Rep K H d v) :
 Lb K (upd H a (.ext (bZ P w a (fW xs k b v)))) (au M a (MW (putD kvs k d))):=λc u e=>by
 have g:L5 K H (upd H a (.ext (bZ P w a (fW xs k b v)))):=.ext (hx P w)
 by_cases ne:c=a
 .subst ne
  rw[ag]at e;cases e
  let[l,m,n]:=BS h1 f i j r
  exact Q5.wJ #[_,λP w=>aF,l,λx hx=>(n x hx).mono g,m.mono g] (by rw[aF];simp)
 .rw[ak ne]at e
  exact(h c u e).ff g (aD ne)
end
section
variable{X:Cx}
def zx:TD:=λ_ M Q=>∀p,M p=KL->Q (.ref p) (au M p (MW []))
theorem qu{pos:Pos}:DE X (.Dict [] [] pos) zx:=aY wb λσ H Q a=>by let[δ,M,R,d,c,q,fin]:=a;exact(λp b=>fin _ _ _ _ (.new b) (by rw[Rep]) (c.Bs _ _ b) (q p (c.fresh b)))
def Ai(b ty:TD):TD:=λδ M Q=>b δ M λx c=>ty δ c λy a=>∃l kvs k d,x=.ref l/\y=OL k/\a l=KJ (MW kvs)/\dz kvs k=KJ d/\Q d a
theorem ja{o i:pv}{f ty:TD}{pos:Pos}(K:X.A.units+66<J9)(j:DE X o f)(m:DE X i ty)(e:EK i):DE X (.Subscript o i pos) (Ai f ty):=
 aY (yY () j m e) λσ H Q a=>by let[δ,M,R,e,n,q,fin]:=a;exact(#[δ,M,_,e,n,q,λx p v H1 g1 g r s=>#[δ,p,_,e.mono g1,r,s,λy L u N t w h c=>by
  let[l,kvs,k,d,ex,z,B,hv,C]:=c
  subst ex z
  rw[Rep]at g;subst g
  let[b,rfl,sp]:=pP w
  let[xs,h1,D,E,F]:=h.dsp B
  let[G,I,J]:=(og k D F).1 d hv
  exact #[l,b,xs,k,G,rfl,rfl,#[h1 _ _,E,sp],I,fin _ _ _ _ (g1.trans t) J h C]]])
def zy(b ty c:TD):MN:=λB δ M=>c δ M λd e=>b δ e λx f=>ty δ f λy a=>∃l kvs k,x=.ref l/\y=OL k/\a l=KJ (MW kvs)/\kvs.length<1000000/\B.nx δ (au a l (MW (putD kvs k d)))
theorem yh{o i a:pv}{h ty j:TD}{pos c:Pos}(V:X.A.units+66<J9)(C:DE X o h)(E:DE X i ty)(hv:DE X a j)(e:JU a (KJ (.Subscript o i c)) pos.line X.env=pure KO:=by rfl):DSt X (.Assign [.Subscript o i c] a pos) (zy h ty j):=
 cA (yB () C E hv e) λD σ H ⟨δ,M,e,F,B,ok,q⟩=>#[δ,M,_,e,F,q,λd G v H1 g1 I J L=>#[δ,G,_,e.mono g1,J,L,λx N u W f m O P=>#[δ,N,_,(e.mono g1).mono f,O,P,λy Y Z n g Q p ⟨l,kvs,k,ex,R,S,hn,T⟩=>by
  subst ex R
  rw[Rep]at m;subst m
  let[b,rfl,sp]:=pP Q
  let[xs,h1,r,s,U]:=p.dsp S
  have t:xs.length=kvs.length:=by have:=congrArg List.length r;simpa using this
  have sz:1000000<=HR:=L8 rfl
  exists l,b,xs,k,rfl,rfl,#[h1 _ _,s,sp],()
  have z:L5 X.K n (upd n l (.ext (bZ X.prog X.w l (fW xs k b v)))):=.ext (h1 X.prog X.w)
  exact ok.nx _ _ _ _ (((g1.trans f).trans g).trans z) (e.mono (((g1.trans f).trans g).trans z)) (p.xv _ _ h1 r U s sp (I.mono (f.trans g))) T]]]
def Ee(to:TD)(t:Ly):TD:=λδ M Q=>to δ M λx c=>∃l a,x=.ref l/\c l=KJ (MW a)/\t δ c λf b=>∃kvs k d,f=[OL k,d]/\b l=KJ (MW kvs)/\kvs.length<1000000/\(∀e,dz kvs k=KJ e->Q e b)/\(dz kvs k=KL->Q d (au b l (MW (putD kvs k d))))
theorem AK{o e1 e2:pv}{to:TD}{t:Ly}{f j:Pos}(hu:X.A.units+66<J9)(T:DE X o to)(U:DA X [e1,e2] t)
 (g:JX o "setdefault" X.env (eval o X.env)=eval o X.env:=by rfl)
 (m:((Jc j (HM [e1,e2] X.env)).all (λx=>!x.1)&&(KG j (JQ [] X.env)).all (λx=>x.1.isSome)
  && decide ([e1,e2].length+([]:List Keyword).length+(if([]:List Keyword).isEmpty then 0 else 1)<30))=KN:=by rfl)
 (h:(f.endLine==j.line)=KN:=by rfl) (r:HM [e1,e2] X.env=(KO,eval e1 X.env)::HM [e2] X.env:=by rfl) (c:(Jc j (HM [e2] X.env)).any (·.1)=KO:=by rfl) :
 DE X (.Call (.Attribute o "setdefault" f) [e1,e2] [] j) (Ee to t):=
 aY (zE () T U g m h r c) λσ H Q ⟨δ,M,R,r,V,q,fin⟩=>#[δ,M,_,r,V,q,λx W v H1 g1 E F ⟨l,G,ex,u,Y⟩=>by
  subst ex
  rw[Rep]at E;subst E
  let[y,h0,_]:=F.dsp u
  refine #[l,y,rfl,h0 _ _,δ,W,_,r.mono g1,F,Y,λds M2 vs I J Z z i=>?_]
  let[kvs,k,d,e,hl,hn,k1,k2]:=i
  subst e
  let[v1,L,rfl,B,n]:=gc Z
  let[b,rfl,sp]:=pP B
  let[xs,h1,C,N,O]:=z.dsp hl
  have P:xs.length=kvs.length:=by have:=congrArg List.length C;simpa using this
  have sz:1000000<=HR:=L8 rfl
  have dv:=og k C O
  refine #[b,L,xs,k,rfl,#[h1 _ _,N,sp],(),λv' a=>?_,λa=>?_]
  .cases e:dz kvs k with
   |none=>rw[dv.2.1 e]at a;cases a
   |some s=>
    let[D,p,q4]:=dv.1 s e
    rw[a]at p;cases p
    exact fin _ _ _ _ (g1.trans J) q4 z (k1 s e)
  .have e:dz kvs k=KL:=by
    cases e:dz kvs k with
    |none=>rfl
    |some s=>
     let[D,p,_]:=dv.1 s e
     rw[a]at p;cases p
   have S:L5 X.K I (upd I l (.ext (bZ X.prog X.w l (fW xs k b L)))):=.ext (h1 X.prog X.w)
   exact fin _ _ _ _ ((g1.trans J).trans S) (n.mono S) (z.xv _ _ h1 C O N sp n) (k2 e)]
end
def two(a t1 b c d:pv)(scope:JH)(pos:Pos):pv:=.ListComp a [#[t1,b,[],0],#[c,d,[],0]] scope pos
theorem FT(a t1 d e c:pv)(scope:JH)(pos:Pos)(it b:Hu)(env:Env):compTurn (two a t1 d e c scope pos) 0 it b env=(do
 standAt d.pos
 match <-pyNext it with
 |none=>pure (.done .next)
 |some v=>
  JP t1 it v
  Kw t1 env v
  let x <-eval c env
  standAt c.pos
  let x <-Ik c env x
  let _ <-runOwn (.compStart (two a t1 d e c scope pos) 1 (<-holding [x] (pyIter x)) b env) env
  again (.compLoop (two a t1 d e c scope pos) 0 it b env)):=by rfl
theorem Ei(a t1 e c d:pv)(scope:JH)(pos:Pos)(it b:Hu)(env:Env):compTurn (two a t1 e c d scope pos) 1 it b env=(do
 standAt d.pos
 match <-pyNext it with
 |none=>pure (.done .next)
 |some v=>
  JP c it v
  Kw c env v
  (do let _ <-call (.builtin "list.append") [b,<-eval a env])
  again (.compLoop (two a t1 e c d scope pos) 1 it b env)):=by rfl
section
variable{prog:HW}{w:IA}{A:Iv}{R:Result->Hv->Prop}{s:Hv}{elt t1 i1 t2 i2:pv}{scope:JH}{pos:Pos}{it acc:Hu}{env:Env}
theorem Du(h0:JK (HP prog w) A (.compLoop (two elt t1 i1 t2 i2 scope pos) 1 it acc env) R s)
 (h:HJ (HP prog w) A (pyIter it) (λa b=>JK (HP prog w) A (.compLoop (two elt t1 i1 t2 i2 scope pos) 1 a acc env) R b) (notedBy (HP prog w) A env λx b=>R (.error x) b) s) :
 JK (HP prog w) A (.compStart (two elt t1 i1 t2 i2 scope pos) 1 it acc env) R s:=by
 refine codeAny_of_tree ?_
 show HJ _ _ ((compStart (two elt t1 i1 t2 i2 scope pos) 1 it acc env).onRaise (λx=>do noteFrame x env;standAt theWindowsPlace)) _ _ s
 refine wpAny_notedAt ?_
 unfold compStart
 show HJ _ _ (ask >>= _) _ _ s
 refine cc (wpAny_askSetting (wpAny_ite ?_))
 split
 .first
   |exact cc (Hz (Hz (And.intro rfl h0)))
   |exact Hz (And.intro rfl h0)
 .refine cc (wpAny_rule ?_)
  show HJ _ _ (standAt i2.pos >>= _) _ _ s
  exact cc (Jv (cc (HQ h (λa b c=>Hz (And.intro rfl c)) λ_ _ x=>x)))
theorem Fc(J:Nat->Hv->Prop)
 (step:∀n s,J n s->HJ (HP prog w) A (pyNext it) (λr b=>match r with
  |none=>R (.ok .next) b
  |some v=>HJ (HP prog w) A (JP t2 it v) (λ_ c=>HJ (HP prog w) A (Kw t2 env v) (λ_ d=>
   HJ (HP prog w) A (eval elt env) (λx f=>HJ (HP prog w) A (call (.builtin "list.append") [acc,x]) (λ_ g=>∃m,m<n/\J m g) MJ f) MJ d) MJ c) MJ b) MJ s)
 (n:Nat) (h:J n s):JK (HP prog w) A (.compLoop (two elt t1 i1 t2 i2 scope pos) 1 it acc env) R s:=by
 have a:∀{E:Hu->Hv->Prop} e i,MJ e i->E e i:=λ_ _ z=>z.elim
 refine codeAny_loop rfl J (λn s j=>?_) n h
 show HJ _ _ (Sem.onRaise (compTurn (two elt t1 i1 t2 i2 scope pos) 1 it acc env) (λx=>do noteFrame x env;theTreesLotGoes x)) _ _ s
 refine wpAny_noted ?_
 rw[Ei]
 refine cc (Jv (cc (HQ (step n s j) (λr b h1=>?_) a)))
 cases r with
 |none=>exact Hz h1
 |some v=>
  refine cc (HQ h1 (λ_ c k=>cc (HQ k (λ_ d l=>?_) a)) a)
  exact cc (cc (HQ l (λx f o=>cc (HQ o (λ_ g p=>Hz (Hz #[rfl,p])) a)) a))
theorem Fo(J:Nat->Hv->Prop)(c:∀x,Ik i2 env x=pure x)
 (step:∀n s,J n s->HJ (HP prog w) A (pyNext it) (λr d=>match r with
  |none=>R (.ok .next) d
  |some v=>HJ (HP prog w) A (JP t1 it v) (λ_ g=>HJ (HP prog w) A (Kw t1 env v) (λ_ i=>
   HJ (HP prog w) A (eval i2 env) (λx j=>HJ (HP prog w) A (pyIter x) (λa k=>JK (HP prog w) A (.compStart (two elt t1 i1 t2 i2 scope pos) 1 a acc env) (λr l=>match r with
    |.ok _=>∃m,m<n/\J m l
    |.error e=>False) k) MJ j) MJ i) MJ g) MJ d) MJ s)
 (n:Nat) (h:J n s):JK (HP prog w) A (.compLoop (two elt t1 i1 t2 i2 scope pos) 0 it acc env) R s:=by
 have b:∀{E:Hu->Hv->Prop} e o,MJ e o->E e o:=λ_ _ z=>z.elim
 refine codeAny_loop rfl J (λn s q=>?_) n h
 show HJ _ _ (Sem.onRaise (compTurn (two elt t1 i1 t2 i2 scope pos) 0 it acc env) (λx=>do noteFrame x env;theTreesLotGoes x)) _ _ s
 refine wpAny_noted ?_
 rw[FT]
 refine cc (Jv (cc (HQ (step n s q) (λr d h1=>?_) b)))
 cases r with
 |none=>exact Hz h1
 |some v=>
  refine cc (HQ h1 (λ_ g t=>cc (HQ t (λ_ i u=>cc (HQ u (λx j y=>?_) b)) b)) b)
  refine cc (Jv ?_)
  rw[c]
  refine cc (Hz ?_)
  refine cc (Jg (HQ y (λa k B=>?_) b))
  refine cc (wpAny_runOwn (codeAny_mono B (λr l p=>?_)))
  cases r with
  |ok f=>exact Hz #[rfl,p]
  |error e=>exact p.elim
end
def Gb(js:q7)(wi2:TI)(te:TE)(σ:L2.St)(J:It)(H1:Hp)(Q:VK):Prop:=∀D,H1 D=KL->∃W:Nat->Nat->Hp->Prop,(∃m,W 0 m (upd H1 D (.lst [])))/\∀i m H,W i m H->
 (J.stop i H/\Q (.ref D) H)\/(J.go i H/\∀y c,J.yld i H y c->∀o,wi2 (cσ [KJ y,o] js σ) c λb h=>∃U:Nat->Nat->Hp->Prop,(∃n,U 0 n h)/\∀j n a,U j n a->
  (b.stop j a/\∃d,d<m/\W (i+1) d a)\/(b.go j a/\∀z e,b.yld j a z e->te (cσ [KJ y,KJ z] js σ) e λv f=>∃xs,f D=KJ (.lst xs)/\xs.length<HR/\∃g,g<n/\U (j+1) g (upd f D (.lst (xs++[v])))))
def A9(js:q7)(a wi2:TI)(te:TE):TE:=λσ H Q=>a σ H λJ H1=>Gb js wi2 te σ J H1 Q
section
variable{X:Cx}{x y:Str}{px py pos:Pos}{js:q7}{scope:JH}{elt i1 i2:pv}{te:TE}{wi wi2:TI}{KZ:p4}{σ:L2.St}{H:Hp}{s:Hv}{fp:rq}{it:pd}{tn:Nat->pq->Prop}{J:It}
theorem zY(c:L4 X [x,y] js scope)(hc:X.calm=KN)(q1:∀C s H fp,PI (Lg X [x,y] js scope C s H fp) (.Name y py) i2 wi2)(r1:∀(env:Env) x,Ik i2 env x=pure x)(he:∀C s H fp,PE (Lg X [x,y] js scope C s H fp) elt te)
 {R:Hu->pd->Result->Hv->Prop} {E:Hu->Hv->Prop} {Q:VK}
 (I:Inv X KZ σ H s) (T:Turn X.prog X.w X.K (.Name x px) J fp it tn) (st:tn 0 s.heap) (hf:∀b∈fp,cH X KZ H b) (wc:Gb js wi2 te σ J H Q)
 (hR:∀D C f F,Inv X KZ σ f F->cH X KZ f C->(∃m,F.heap.Ns C m)->Q (.ref D) f->R (.ref D) C (.ok .next) F) :
 HJ (HP X.prog X.w) X.A (newList []) (λt0 v0=>HJ (HP X.prog X.w) X.A (newFunctionEnv scope X.env.globals (eG scope.names X.env) [] X.env.qual KL .none (KJ X.env)) (λN x0=>
  JK (HP X.prog X.w) X.A (.compStart (two elt (.Name x px) i1 (.Name y py) i2 scope pos) 0 (.ref it) t0 { N with scope:=relabel scope X.env }) (R t0 N.locals) x0) E v0) E s:=by
 have s1:∀C s H fp,PG (Lg X [x,y] js scope C s H fp) (.Name x px) (f6 0):=λ_ _ _ _=>iN c 0 rfl
 have t1:∀C s H fp,PG (Lg X [x,y] js scope C s H fp) (.Name y py) (f6 1):=λ_ _ _ _=>iN c 1 rfl
 have y0:∀b∈fp,b<s.z:=λb a=>let⟨o,e,_⟩:=T.obj 0 _ st b a;HN e
 have hD:H s.z=KL:=I.hok.fresh (HD _)
 refine IT (nR ?_)
 generalize hh:s.heap.push { cls:=.type "list",dict:=KL,data:=.seq ([]:List Hu).toArray }=g
 generalize z0:pushCells (({ s with heap:=g }:Hv).heap.push { cls:=.type "dict",data:=.dict #[] }) scope.names=h
 have k3:∀b o,s.heap.get? b=KJ o->g.get? b=KJ o:=λb o e=>by rw[<-hh];exact Hx _ e
 have I3:Inv X KZ σ (upd H s.z (.lst [])) { s with heap:=g }:=by
  refine I.laid (t':=s.toks) k3 (HD _) ?_
  exists J3 _,[],0,.nil
  rw[<-hh]
  exact HG _ rfl
 have k:∀b∈fp,cH X KZ (upd H s.z (.lst [])) b:=λb a=>#[by rw[aD (Ip (y0 b a))];exact(hf b a).1,(hf b a).2]
 have u1:g.objs.size=s.z+1:=by rw[<-hh,Jf]
 have b1:∀b∈fp,b<g.objs.size:=λb a=>by rw[u1];exact Nat.lt_succ_of_lt (y0 b a)
 have k4:∀b o,g.get? b=KJ o->h.get? b=KJ o:=λb o e=>by rw[<-z0];exact pushCells_keeps _ _ b o (Hx _ e)
 have I4:=lI c I3 k b1 (h':=h) z0.symm k4
 obtain⟨W,⟨m0,w0⟩,c1⟩:=wc _ hD
 have PH:tn 0 h:=T.keep 0 _ _ st λb a o e=>k4 b o (k3 b o e)
 generalize hX:Lg X [x,y] js scope g.objs.size { s with heap:=g } (upd H s.z (.lst [])) fp=X' at I4
 have S:∀{pins':p4} {f:Hp} {l:L2.St} {F:Hv},Inv X' [] l f F->(∀b∈fp,f b=KL)->∀b∈fp,cH X' [] f b:=λ{pins' f l F} J' hn b a=>by
  subst hX
  let[a1,a2]:=J'.ok.exf b a
  exact #[hn b a,a1,J'.ok.exfs b a,.inl a,a2,λp hp=>absurd (show p∈([]:p4)from hp) (by simp)]
 have O:JK (HP X.prog X.w) X.A (.compLoop (two elt (.Name x px) i1 (.Name y py) i2 scope pos) 0 (.ref it) (.ref s.z) (ko scope g.objs.size X.env)) (R (.ref s.z) g.objs.size)
  { s with heap:=h }:=by
  refine Fo (λn F=>∃i os f,os.length=2/\Inv X' [] (cσ os js σ) f F/\tn i F.heap/\(∀b∈fp,f b=KL)/\W i n f) (λx=>r1 _ x) ?_ m0 #[0,_,_,by simp,I4,PH,λb a=>(k b a).1,w0]
  rintro n s5 ⟨i,os,H5,v1,I5,N1,d1,w5⟩
  rcases c1 i n H5 w5 with⟨stop,q⟩|⟨go,step⟩
  .subst hX
   refine HQ (T.done (Lg X [x,y] js scope g.objs.size { s with heap:=g } (upd H s.z (.lst [])) fp) rfl rfl rfl hc i [] s5 _ H5 MJ I5 (S (pins':=[]) I5 d1) N1 stop) (λr s6 z6=>?_) λ_ _ z=>z
   let[Y,I6]:=z6
   subst Y
   refine hR _ _ H5 s6 (I3.xR I6.os I6.base I6.hok I6.bare λb a=>#[(k b a).2.2.2.1,(k b a).2.1,(k b a).2.2.2.2.1,(k b a).2.2.2.2.2]) (I3.pH (HD _) I6.free) (let⟨m,hm,_⟩:=I6.loc;#[m,hm]) q
  .subst hX
   refine HQ (T.item (Lg X [x,y] js scope g.objs.size { s with heap:=g } (upd H s.z (.lst [])) fp) rfl rfl rfl hc i [] s5 _ H5 MJ I5 (S (pins':=[]) I5 d1) N1 go) (λr s6 z6=>?_) λ_ _ z=>z
   let[u,Y,h6]:=z6
   subst Y
   refine HQ h6 (λ_ s7 z7=>?_) λ_ _ z=>z
   let[yv,H7,I7,r7,y7,Mv,w1]:=z7
   have x1:=I7.pinned (S (pins':=[]) I7 w1) (T.obj _ _ Mv)
   obtain⟨o0,o1,rfl⟩:∃o0 o1,os=[o0,o1]:=by
    exact rP v1
   refine HQ (s1 _ _ _ _ _ s7 _ H7 yv u (λl f=>l=cσ [KJ yv,o1] js σ/\f=H7) x1 r7 #[rfl,rfl]) (λ_ s8 Z=>?_) λ_ _ z=>z
   let[n3,H8,I8,e8,y1]:=Z
   subst e8 y1
   have e1:∀{m':Nat} {o2:Option V} {t:Hp} {B:Hv},Inv (Lg X [x,y] js scope g.objs.size { s with heap:=g } (upd H s.z (.lst [])) fp) ([]++gF fp s7.heap) (cσ [KJ yv,o2] js σ) t B->m'<n->W (i+1) m' t->
    ∃m,m<n/\∃i os f,os.length=2/\Inv (Lg X [x,y] js scope g.objs.size { s with heap:=g } (upd H s.z (.lst [])) fp) [] (cσ os js σ) f B/\tn i B.heap/\(∀b∈fp,f b=KL)/\W i m f:=λ{m' o2 t B} G a0 z1=>by
    refine #[m',a0,i+1,_,t,rfl,G.eD,T.keep _ _ _ Mv λb a o e=>(G.pin (b,o) (Ia _ (Ia _ (bH a e)))).1,λb a=>?_,z1]
    let[o',e,d]:=T.obj _ _ Mv b a
    exact(G.pin (b,o') (Ia _ (Ia _ (bH a e)))).2.1
   refine HQ (q1 _ _ _ _ _ s8 _ _ _ I8 (step yv H8 y7 o1)) (λv2 s9 h9=>HQ h9 (λo3 B b2=>?_) λ_ _ z=>z) λ_ _ z=>z
   obtain⟨c2,d2,e2,J2,t,f2,G,T2,Pn,M,U,⟨n0,u0⟩,b0⟩:=b2
   subst f2
   have L:JK (HP X.prog X.w) X.A (.compLoop (two elt (.Name x px) i1 (.Name y py) i2 scope pos) 1 (.ref c2) (.ref s.z) (ko scope g.objs.size X.env)) (λr s6=>match r with
    |.ok _=>∃m,m<n/\∃i os f,os.length=2/\Inv (Lg X [x,y] js scope g.objs.size { s with heap:=g } (upd H s.z (.lst [])) fp) [] (cσ os js σ) f s6/\tn i s6.heap/\(∀b∈fp,f b=KL)/\W i m f
    |.error e=>False) B:=by
    refine Fc (λn2 F=>∃j o2 f,Inv (Lg X [x,y] js scope g.objs.size { s with heap:=g } (upd H s.z (.lst [])) fp) ([]++gF fp s7.heap) (cσ [KJ yv,o2] js σ) f F/\e2 j F.heap/\(∀b∈d2,f b=KL)/\U j n2 f) ?_ n0 #[0,o1,t,G,Pn,λb a=>(M b a).1,u0]
    rintro n2 f1 ⟨j,o2,c0,g1,N4,P,g2⟩
    rcases b0 j n2 c0 g2 with⟨d0,m',a0,w'⟩|⟨h2,e0⟩
    .refine HQ (T2.done (Lg X [x,y] js scope g.objs.size { s with heap:=g } (upd H s.z (.lst [])) fp) rfl rfl rfl hc j _ f1 _ c0 MJ g1 (λb a=>#[P b a,(M b a).2]) N4 d0) (λr j2 f0=>?_) λ_ _ z=>z
     let[Y,k2]:=f0
     subst Y
     exact e1 k2 a0 w'
    .refine HQ (T2.item (Lg X [x,y] js scope g.objs.size { s with heap:=g } (upd H s.z (.lst [])) fp) rfl rfl rfl hc j _ f1 _ c0 MJ g1 (λb a=>#[P b a,(M b a).2]) N4 h2) (λr j2 g0=>?_) λ_ _ z=>z
     let[u2,Y,m2]:=g0
     subst Y
     refine HQ m2 (λ_ p2 h0=>?_) λ_ _ z=>z
     let[zv,h1,q2,r2,s2,NS,j1]:=h0
     have k1:=q2.pinned (λb a=>#[j1 b a,(M b a).2]) (T2.obj _ _ NS)
     refine HQ (t1 _ _ _ _ _ p2 _ h1 zv u2 (λl f=>l=cσ [KJ yv,KJ zv] js σ/\f=h1) k1 r2 #[rfl,rfl]) (λ_ t2 i0=>?_) λ_ _ z=>z
     let[m3,w2,x2,y2,m1]:=i0
     subst y2 m1
     refine HQ (he _ _ _ _ _ t2 _ _ _ x2 (e0 zv w2 s2)) (λv z2 k0=>?_) λ_ _ z=>z
     let[vv,a3,b3,c3,ys,n1,p1,e3]:=k0
     refine HQ (jD (X:=(Lg X [x,y] js scope g.objs.size { s with heap:=g } (upd H s.z (.lst [])) fp)) _ z2 _ a3 (.ref s.z) [vv] (.ref s.z) [v] (λ_ f=>∃n',n'<n2/\U (j+1) n' f) b3 rfl (.cons c3 .nil) #[_,ys,vv,rfl,rfl,n1,p1,e3]) (λ_ p3 q0=>?_) λ_ _ z=>z
     let[_,f3,s0,_,n',g3,i3]:=q0
     refine #[n',g3,j+1,_,f3,s0.eD,T2.keep _ _ _ NS λb a o e=>(s0.pin (b,o) (Ia _ (Ia _ (bH a e)))).1,λb a=>?_,i3]
     let[o',e,d]:=T2.obj _ _ NS b a
     exact(s0.pin (b,o') (Ia _ (Ia _ (bH a e)))).2.1
   exact Du L (T2.self X.A 0 _ _ _ Pn L)
 exact codeAny_compStart_list O (T.self X.A 0 _ _ _ PH O)
theorem BI(c:L4 X [x,y] js scope)(l:X.calm=KN)(n:PI X (.Name x px) i1 wi)(g:∀C s H fp,PI (Lg X [x,y] js scope C s H fp) (.Name y py) i2 wi2)(p:∀C s H fp,PE (Lg X [x,y] js scope C s H fp) elt te) (r:∀x,Ik i1 X.env x=pure x:=by intro _;rfl) (i:∀(env:Env) x,Ik i2 env x=pure x:=by intro _ _;rfl) : PE X (two elt (.Name x px) i1 (.Name y py) i2 scope pos) (A9 js wi wi2 te):=by intro KZ s σ H Q I h;unfold two;rw[eval_ListComp];refine JZ (use:=KL) rfl r (c.wB I.ok) c.kind c.names (Lc (n KZ s σ H _ I h) λv K h1=>Lc h1 λt L a=>?_);let[it,fp,tn,J,M,e,u,T,st,z,w]:=a;subst e;refine zY (R:=λj C=>compPost (HP X.prog X.w) X.A X.xe KL (EP X KZ σ Q) j C) c l g i p u T st z w λD C B E F f d q=>?_;let[m,G]:=d;exact #[m,G,λN k=>#[.ref D,B,F.turned (t':=E.toks) (λb o ne e=>k.extBut b o ne e) f.1 f.2.1 f.2.2.2.1 f.2.2.2.2.1 f.2.2.2.2.2,rfl,q]]
end
def Fd(I:OY)(js:q7)(h:My)(te:TD)(δ:DS)(g:MH)(Q:DK):Prop:=I.n<=1000/\∀p,g p=KL->∃W:Nat->r8->MH->Prop,W 0 [] (au g p (.lst []))/\(∀i b M,i<=I.n->W i b M->I.C M)/\
 (∀i b d M,i<I.n->I.item i=KJ d->W i b M->h (cδ [KJ d,KL] js δ) M λc k=>c.n<=1000/\∃U:Nat->r8->MH->Prop,U 0 b k/\(∀j a M,j<=c.n->U j a M->c.C M)/\
  (∀j a e M,j<c.n->c.item j=KJ e->U j a M->te (cδ [KJ d,KJ e] js δ) M λv l=>∃f,Sub f l/\f p=KJ (.lst a)/\U (j+1) (a++[v]) (au f p (.lst (a++[v]))))/\∀a M,U c.n a M->W (i+1) a M)/\∀b M,W I.n b M->Q (.ref p) M
def Bm(a:My)(js:q7)(b:My)(te:TD):TD:=λδ M Q=>a δ M λI c=>Fd I js b te δ c Q
theorem rm{K:Ht}{H:Hp}{d:D}{v:V}(o:Option V)(r:Rep K H d v):Slots K H [KJ d,KL] [KJ v,o]:=by
 refine #[rfl,λi e h=>?_]
 match i,h with
 |0,h=>cases h;exact #[v,rfl,r]
 |1,h=>cases h
theorem qM{K:Ht}{H:Hp}{d e:D}{v u:V}(r:Rep K H d v)(q:Rep K H e u):Slots K H [KJ d,KJ e] [KJ v,KJ u]:=jU (.cons r (.cons q .nil))
theorem zd{K:Ht}{wd LF:My}{js:q7}{te:TD}{σ:L2.St}{H:Hp}{Q:VK}(h:lift K (Bm wd js LF te) σ H Q):A9 js (lL K wd) (lL K LF) (lift K te) σ H Q:=by
 let[δ,M,R,L,hM,q,fin]:=h;refine #[δ,M,_,L,hM,q,λI M1 H1 J g1 a1 N O p P=>?_];let[hn,N]:=N;let[W,w0,hC,C,done]:=N p (a1.fresh P);refine #[λi m t=>m=I.n-i/\i<=I.n/\L5 K H1 t/\∃w M,w.length<=i*1000/\Lb K t M/\W i w M,#[I.n,by simp,J3 _,.new P,[],_,J3 _,a1.mj P .nil,w0],?_];rintro i m t ⟨rfl,S,f,w,x,hl,F,D⟩;by_cases a:i<I.n
 .refine .inr #[O.go i t x a f F (hC _ _ _ S D),λv H3 hy o=>?_];let[T,a3,d,ed,rd]:=O.yld i t x v H3 a f F (hC _ _ _ S D) hy;have q3:=C i w d x a ed D;refine #[cδ [KJ d,KL] js δ,x,_,kW (js:=js) (L.mono ((g1.trans f).trans T)) (rm o rd),a3,q3,λy M4 H4 J2 V a4 X g=>?_];let[a0,U,u0,k,l,r]:=X;refine #[λj n z=>n=y.n-j/\j<=y.n/\L5 K H4 z/\∃A M,A.length<=i*1000+j/\Lb K z M/\U j A M,#[y.n,by simp,J3 _,.refl,w,M4,(),a4,u0],?_];rintro j n z ⟨rfl,Y,s,A,B,b0,G,E⟩;by_cases b:j<y.n
  .refine .inr #[g.go j z B b s G (k _ _ _ Y E),λu H6 Z=>?_];let[g6,a6,e,ee,re]:=g.yld j z B u H6 b s G (k _ _ _ Y E) Z;have s6:=kW (js:=js) (L.mono (((((g1.trans f).trans T).trans V).trans s).trans g6)) (qM (rd.mono ((V.trans s).trans g6)) re);refine #[cδ [KJ d,KJ e] js δ,B,_,s6,a6,l j A e B b ee E,λvv M' uu H7 g7 r7 a7 c=>?_];let[M8,s8,e8,w8]:=c;let[ts,hx,rs]:=(a7.sub s8) _ _ e8;refine #[ts,hx,?_,y.n-(j+1),(),rfl,b,((s.trans g6).trans g7).trans (.lst hx),A++[vv],_,by simp;omega,(a7.sub s8).wt hx (rs.append (.cons r7 .nil)),w8];rw[<-rs.length];have sz:1000000<=HR:=L8 rfl;omega
  .obtain rfl:j=y.n:=()
   exact .inl #[g.stop z B s G (k _ _ _ Y E),I.n-(i+1),(),rfl,a,((f.trans T).trans V).trans s,A,B,(),G,r _ _ E]
 .obtain rfl:i=I.n:=()
  exact .inl #[O.stop t x f F (hC _ _ _ S D),fin _ _ _ _ (g1.trans f) (by rw[Rep]) F (done w x D)]
section
variable{X:Cx}{x y:Str}{px py pos:Pos}{js:q7}{scope:JH}{elt i1 i2:pv}{te:TD}{wd LF:My}
theorem za(c:L4 X [x,y] js scope)(d:X.calm=KN)(e:DI X (.Name x px) i1 wd)(a:∀C s H fp,DI (Lg X [x,y] js scope C s H fp) (.Name y py) i2 LF)(f:∀C s H fp,DE (Lg X [x,y] js scope C s H fp) elt te) (g:∀x,Ik i1 X.env x=pure x:=by intro _;rfl) (b:∀(env:Env) x,Ik i2 env x=pure x:=by intro _ _;rfl) : DE X (.ListComp elt [#[.Name x px,i1,[],0],#[.Name y py,i2,[],0]] scope pos) (Bm wd js LF te):=aY (BI (te:=lift X.K te) (wi2:=lL X.K LF) c d e a f g b) λ_ _ _ h=>zd h
end
section
variable{X:Cx}
def Hc:RC:=λa M Q=>match a with
 |[.ref l]=>∃ns:q_,M l=KJ (.lst (ns.map D.int))/\Q (.int ns.sum) M
 |_=>False
theorem ka(ns:q_):∀j,j<=ns.length->preSum (λi=>(ns[i]?).getD 0) j=(ns.take j).sum
 |0,_=>by simp[preSum]
 |j+1,h=>by
  rw[preSum,ka ns j (),List.take_succ,List.sum_append]
  have:j<ns.length:=()
  simp[this]
theorem u7(m:X.calm=KN):b5 X (.builtin "sum") (λxs H Q=>∃(p:pd) (ns:q_),xs=[.ref p]/\Ln X.K H p (ns.map V.int)/\Q (.int ns.sum) H):=by
 intro KZ s σ H xs us Q I r o;let[l,ns,e,w,k]:=o;subst e;let[u,rfl,y]:=vals1 r;cases y;let[a,g,z,_]:=I.list w;have d:=z.isList;have c:a.length=ns.length:=by rw[<-g.length,Hw]
 have lt:l≠s.z:=Ip (let⟨_,e,_⟩:=d;HN e);refine call_sum_walkG (x:=.ref l) (wpAny_pyIter_list d #[s.z,[s.z,l],[s.z],a.toArray.size,_,_,λi=>(ns[i]?).getD 0,rfl,Walks.list (A:=X.A.in1) (I.ok.hd m) _ l lt a.toArray,#[#[_,HG _ rfl,rfl,rfl],d.push _],?_,λi v B=>?_,λG J L C=>?_])
 .intro b j;simp at j;rcases j with rfl|rfl
  .show _<(s.heap.push _).objs.size;rw[Jf];omega
  .show _<(s.heap.push _).objs.size;rw[Jf];exact Nat.lt_succ_of_lt (let⟨_,e,_⟩:=d;HN e)
 .have f:a[i]?=KJ v:=‹B›
  have D:=intsAre_of g
  obtain⟨n,E,q⟩:∃n,ns[i]?=KJ n/\∃t,v=Value.int n t:=by
   have key:∀{us:List Hu} {ns:q_},Jt us ns->∀(i:Nat) (v:Hu),us[i]?=KJ v->∃n,ns[i]?=KJ n/\∃t,v=Value.int n t:=by
    intro us ns h
    induction h with
    |nil=>intro i v e;simp at e
    |cons n t h F=>
     intro i v e
     cases i with
     |zero=>simp at e;exact #[n,rfl,t,e.symm]
     |succ i=>exact F i v ‹e›
   exact key D i v f
  let[t,rfl]:=q;exact #[t,by simp[E]]
 .rw[show preSum (λi=>(ns[i]?).getD 0) a.toArray.size=ns.sum by rw[HL,c,ka ns _ (HD _),List.take_length]];exact #[.int ns.sum,H,I.kept (LSm.kept_iter C),#[_,rfl],k]
theorem C3(c:X.calm=KN):d4 X (.builtin "sum") Hc:=cj (u7 c) λvs H Q ⟨b,M,R,f,a,q,fin⟩=>by
 rcases b with _|⟨d,b⟩
 .exact Ic q
 cases d<;>rcases b with _|⟨e,b⟩<;>try exact Ic q
 .obtain⟨ns,e,q⟩:=q;let[v,rfl,r]:=bP f;rw[Rep]at r;subst r;let[xs,hx,g]:=a _ _ e;rw[dm g]at hx;exact #[_,ns,rfl,Ln.of hx,fin _ _ _ _ .refl (by rw[Rep]) a q]
theorem Dz:J5 "sum"=KJ (.builtin "sum"):=boot_sum
end
def Lw(k:Int):Wl:=(k,0,k,1)
def Lp(k y:Int):Wl:=(k,y,k+1,y)
def OP(m:Int):Nat->r3
 |0=>[Lw m]
 |i+1=>OP m i++[Lp (i:Int) 0,Lp (i:Int) 1,Lw (i:Int)]
theorem t6(m:Int):∀i:Nat,(OP m i).length=1+3*i
 |0=>rfl
 |i+1=>by rw[OP,IJ,t6 m i];simp;omega
theorem nW{m:Int}{w:Wl}:∀{i:Nat},w∈OP m i->w=Lw m\/∃k:Nat,k<i/\(w=Lp (k:Int) 0\/w=Lp (k:Int) 1\/w=Lw (k:Int))
 |0,h=>.inl (J8.mp h)
 |i+1,h=>by
  rw[OP,HX]at h
  rcases h with h|h
  .rcases nW h with h|⟨k,a,h⟩
   .exact .inl h
   .exact .inr #[k,(),h]
  .simp only[II,List.not_mem_nil,or_false]at h
   exact .inr #[i,(),h]
def wI(w:Wl):Prop:=∃k:Int,0<=k/\k<=13/\(w=Lw k\/w=Lp k 0\/w=Lp k 1)
theorem C2{m:Nat}{w:Wl}(a:m<=13)(h:w∈OP (m:Int) m):wI w:=by
 rcases nW h with h|⟨k,b,h|h|h⟩
 .exact #[m,(),(),.inl h]
 .exact #[k,(),(),.inr (.inl h)]
 .exact #[k,(),(),.inr (.inr h)]
 .exact #[k,(),(),.inl h]
theorem Em{w:Wl}(h:wI w):Le w:=by
 obtain⟨k,h0,h1,rfl|rfl|rfl⟩:=h
 .exact #[by simp only[Lw];omega,by simp only[Lw];omega,by simp only[Lw];omega,by simp only[Lw];omega,by simp only[Lw,l1,l2,la];omega]
 .exact #[by simp only[Lp];omega,by simp only[Lp];omega,by simp only[Lp];omega,by simp only[Lp];omega,by simp only[Lp,l1,l2,la];omega]
 .exact #[by simp only[Lp];omega,by simp only[Lp];omega,by simp only[Lp];omega,by simp only[Lp];omega,by simp only[Lp,l1,l2,la];omega]
theorem mQ(k x y:Int):sd (Lw k) x y=k-x:=by unfold sd Mg Lw;simp;omega
theorem oP(k c x y:Int):sd (Lp k c) x y=y-c:=by unfold sd Mg Lp;simp only;rw[show k+1-k=1 by omega,Int.sub_self,Int.one_mul,Int.zero_mul,Int.sub_zero]
theorem qC(z:Int):0<=Ie z*Ie z:=by
 rcases Ih z 0 with h|h|h
 .rw[Ir h];decide
 .subst h;decide
 .rw[IE h];decide
theorem wA(z:Int):0<=Ie z*Ie (z-1):=by
 rcases Ih z 0 with h|h|h
 .rw[Ir h,Ir ()];decide
 .subst h;decide
 .rcases Ih (z-1) 0 with g|g|g
  .omega
  .rw[g];simp
  .rw[IE h,IE g];decide
theorem zF{U V:Wl}(f:wI U)(g:wI V)(ne:U≠V):Lv U V:=by
 have h:∀k j:Int,k≠j->Lv (Lw k) (Lw j):=λk j e=>by
  refine #[?_,?_,?_,?_,?_,.inl ?_]
  .simp only[l1,l2,la,Lw];omega
  .simp only[aV,Lh,Lj,mQ];simp only[l1,l2,la,Lw];omega
  .simp only[aV,Lh,Lj,mQ];simp only[l1,l2,la,Lw];omega
  .simp only[aV,Lh,Lj,mQ];simp only[l1,l2,la,Lw];omega
  .simp only[aV,Lh,Lj,mQ];simp only[l1,l2,la,Lw];omega
  .simp only[Lh,Lj,mQ];exact qC _
 have c:∀k j y:Int,(y=0\/y=1)->Lv (Lw k) (Lp j y):=λk j y hy=>by
  refine #[?_,?_,?_,?_,?_,.inl ?_]
  .simp only[l1,l2,la,Lw,Lp];omega
  .simp only[aV,Lh,Lj,mQ,oP];simp only[l1,l2,la,Lw,Lp];omega
  .simp only[aV,Lh,Lj,mQ,oP];simp only[l1,l2,la,Lw,Lp];omega
  .simp only[aV,Lh,Lj,mQ,oP];simp only[l1,l2,la,Lw,Lp];omega
  .simp only[aV,Lh,Lj,mQ,oP];simp only[l1,l2,la,Lw,Lp];omega
  .simp only[Lh,Lj,mQ];have:=wA (k-j);rw[show k-j-1=k-(j+1) by omega]at this;exact this
 have d:∀k y j x:Int,(y=0\/y=1)->(x=0\/x=1)->¬(k=j/\y=x)->Lv (Lp k y) (Lp j x):=λk y j x hy hx e=>by
  refine #[?_,?_,?_,?_,?_,.inl ?_]
  .simp only[l1,l2,la,Lp];omega
  .simp only[aV,Lh,Lj,oP];simp only[l1,l2,la,Lp];omega
  .simp only[aV,Lh,Lj,oP];simp only[l1,l2,la,Lp];omega
  .simp only[aV,Lh,Lj,oP];simp only[l1,l2,la,Lp];omega
  .simp only[aV,Lh,Lj,oP];simp only[l1,l2,la,Lp];omega
  .simp only[Lh,Lj,oP];exact qC _
 have a:(0:Int)=0\/(0:Int)=1:=.inl rfl;have b:(1:Int)=0\/(1:Int)=1:=.inr rfl;obtain⟨k,h0,h1,rfl|rfl|rfl⟩:=f<;>obtain⟨j,g0,g1,rfl|rfl|rfl⟩:=g
 .exact h k j λz=>ne (by rw[z])
 .exact c k j 0 a
 .exact c k j 1 b
 .exact(c j k 0 a).swap
 .exact d k 0 j 0 a a λz=>ne (by rw[z.1])
 .exact d k 0 j 1 a b λz=>()
 .exact(c j k 1 b).swap
 .exact d k 1 j 0 b a λz=>()
 .exact d k 1 j 1 b b λz=>ne (by rw[z.1])
theorem mW(m:Nat):∀i:Nat,i<=m->(OP (m:Int) i).Nodup
 |0,_=>List.nodup_cons.mpr #[by simp,List.nodup_nil]
 |i+1,h=>by
  rw[OP,Kr]
  refine #[mW m i (),by simp[Lp,Lw],λa c b f e=>?_]
  subst e
  have d:a=Lp (i:Int) 0\/a=Lp (i:Int) 1\/a=Lw (i:Int):=‹f›
  rcases nW c with c|⟨k,g,c⟩
  .subst c
   rcases d with z|z|z<;>simp only[Lw,Lp,Prod.mk.injEq]at z<;>omega
  .rcases c with rfl|rfl|rfl<;>rcases d with z|z|z<;>simp only[Lw,Lp,Prod.mk.injEq]at z<;>omega
theorem Ba{m:Nat}{ws:r3}(f:m<=13)(h:ws.Perm (OP (m:Int) m)):PF ws/\(∀w∈ws,Le w)/\ws.length<=40:=by have is:∀w∈ws,wI w:=λw a=>C2 f (h.mem_iff.mp a);have nd:ws.Nodup:=h.nodup_iff.mpr (mW m m (HD _));refine #[λi j U V b c d=>?_,λw a=>Em (is w a),by rw[h.length_eq,t6];omega];refine zF (is U (HE c)) (is V (HE d)) λe=>?_;subst e;let[h1,e1]:=HC.mp c;let[g,e2]:=HC.mp d;exact b ((List.getElem_inj nd).mp (e1.trans e2.symm))
theorem C5{t b X Y:Int}(a:0<t)(c:0<b){U V:Wl}(g:Le U)(h:Le V)(ne:¬(l1 U=l1 V/\l2 U=l2 V)):J0 (QR t b X Y U) (QR t b X Y V)=KO:=by have h1:=jl (X:=X) (Y:=Y) (p:=U.1) (q:=U.2.1) (e:=V.1) (f:=V.2.1) a c g.b h.b;have i:=jl (X:=X) (Y:=Y) (p:=U.2.2.1) (q:=U.2.2.2) (e:=V.2.2.1) (f:=V.2.2.2) a c g.d h.d;unfold QR Qm;rw[J0,Jl,Jl,Jl,LR,LR,Bool.and_true,<-Bool.decide_and,decide_eq_false_iff_not,h1,i];exact ne
abbrev Vc:=Int×Int
def vc(a b:Vc):Int:=Mg a.1 a.2 b.1 b.2
def vl(a:Vc):Int:=la a.1 a.2
theorem jr(a b:Vc):vc b a=-vc a b:=by unfold vc Mg;grind
theorem FN(b x y z:Vc):vc b y*vc x z=vc b x*vc y z+vc b z*vc x y:=by unfold vc Mg;grind
theorem B8(a b c:Vc)(h:vc a b=0):vc b c*vl a=vc a c*vl b:=by unfold vc Mg at *;unfold vl la;grind
def QG(a b:Vc):Prop:=vc a b=0->vl a*vl b<0
theorem iT(z:Int):(z<0/\Ie z=-1)\/(z=0/\Ie z=0)\/(0<z/\Ie z=1):=by
 rcases Ih z 0 with h|h|h
 .exact .inl #[h,Ir h]
 .exact .inr (.inl #[h,by subst h;rfl])
 .exact .inr (.inr #[h,IE h])
theorem iS{p q:Int}(h:p*q<0):(p<0/\0<q)\/(0<p/\q<0):=by
 rcases Ih p 0 with a|a|a
 .rcases Ih q 0 with b|b|b
  .have:=IP a b;omega
  .subst b;simp at h
  .exact .inl #[a,b]
 .subst a;simp at h
 .rcases Ih q 0 with b|b|b
  .exact .inr #[a,b]
  .subst b;simp at h
  .have:=Ij a b;omega
theorem Wr{a b:Vc}(c:Vc)(z:vc a b=0)(h:vl a*vl b<0):Ie (vc b c)=-Ie (vc a c):=by
 have e:=B8 a b c z;generalize vc b c=p at *;generalize vc a c=q at *;have k:∀{x y:Int},0<x->0<y->0<x*y:=λh1 d=>Ij h1 d
 rcases iS h with⟨h1,d⟩|⟨h1,d⟩<;>rcases iT p with⟨f,e1⟩|⟨f,e1⟩|⟨f,e1⟩<;>rcases iT q with⟨g,e2⟩|⟨g,e2⟩|⟨g,e2⟩<;>rw[e1,e2]<;>first|rfl|(exfalso;subst_vars;first
  |(have i:=IP f h1;have j:=IC g d;omega)
  |(have i:=IC f h1;have j:=IP g d;omega)
  |(have i:=Ii f h1;have j:=Ij g d;omega)
  |(have i:=Ij f h1;have j:=Ii g d;omega)
  |(have i:=IP f h1;omega)
  |(have i:=IC f h1;omega)
  |(have i:=Ii f h1;omega)
  |(have i:=Ij f h1;omega)
  |(have j:=IP g d;omega)
  |(have j:=IC g d;omega)
  |(have j:=Ii g d;omega)
  |(have j:=Ij g d;omega))
def OQ(b x y:Vc):Bool:=if Ie (vc b x)=Ie (vc b y)then decide (vc x y<0)else decide (Ie (vc b x)<Ie (vc b y))
theorem kO(b x y:Vc):OQ b x y=KN↔Ie (vc b x)<Ie (vc b y)\/(Ie (vc b x)=Ie (vc b y)/\vc x y<0):=by
 unfold OQ;split
 .rename_i h;simp;omega
 .rename_i h;simp;omega
theorem vO{b x y:Vc}(h1:QG b x)(a:QG b y)(c:QG x y):OQ b x y=KN\/OQ b y x=KN:=by
 rw[kO,kO];rcases Ih (vc x y) 0 with h|h|h
 .omega
 .have o:=c h;have e:=Wr b h o;have e1:vc x b=-vc b x:=jr b x;have e2:vc y b=-vc b y:=jr b y;rw[e1,e2,Int.sign_neg,Int.sign_neg]at e;by_cases ne:Ie (vc b x)=Ie (vc b y)
  .have d:Ie (vc b x)=0:=()
   have f:Ie (vc b y)=0:=()
   have g:=iS (h1 (Int.sign_eq_zero_iff_zero.mp d));have i:=iS (a (Int.sign_eq_zero_iff_zero.mp f));have j:=iS o;omega
  .omega
 .have:=jr x y;omega
theorem vJ{b x y z:Vc}(h1:QG b x)(l:QG b y)(m:QG b z)(c:OQ b x y=KN)(a:OQ b y z=KN):OQ b x z=KN:=by
 rw[kO]at *;rcases c with c|⟨c,b1⟩
 .left;rcases a with a|⟨a,d⟩<;>omega
 .rcases a with a|⟨a,d⟩
  .left;omega
  .right;exists ();have i:=FN b x y z;rcases iT (vc b y)with⟨k,e⟩|⟨k,e⟩|⟨k,e⟩
   .have kx:vc b x<0:=by rcases iT (vc b x)with q|q|q<;>omega
    have f:vc b z<0:=by rcases iT (vc b z)with q|q|q<;>omega
    have g:=IP kx d;have h:=IP f b1;rcases Ih (vc x z) 0 with q|q|q
    .exact q
    .rw[q]at i;simp at i;omega
    .have:=IC k q;omega
   .exfalso;have kx:vc b x=0:=by rcases iT (vc b x)with q|q|q<;>omega
    have j:=h1 kx;have e:=Wr y kx j;have:Ie (vc x y)=-1:=Ir b1;rw[k]at e;simp at e;omega
   .have kx:0<vc b x:=by rcases iT (vc b x)with q|q|q<;>omega
    have f:0<vc b z:=by rcases iT (vc b z)with q|q|q<;>omega
    have g:=Ii kx d;have h:=Ii f b1;rcases Ih (vc x z) 0 with q|q|q
    .exact q
    .rw[q]at i;simp at i;omega
    .have:=Ij k q;omega
theorem zL{a b c:Vc}(h:QG a b)(e:OQ a c b=KN)(d:OQ b c a=KN):False:=by
 rw[kO]at e d;have e1:vc b a=-vc a b:=jr a b;have e2:vc c b=-vc b c:=jr b c;have e3:vc c a=-vc a c:=jr a c;rw[e1,Int.sign_neg]at d;rw[e2]at e;rw[e3]at d;by_cases z:vc a b=0
 .have o:=Wr c z (h z);rw[z]at e d;simp at e d;rcases iT (vc a c)with q|q|q<;>rcases iT (vc b c)with r|r|r<;>omega
 .rcases iT (vc a b)with p|p|p<;>rcases iT (vc a c)with q|q|q<;>rcases iT (vc b c)with r|r|r<;>omega
def rev(w:Wl):Wl:=(w.2.2.1,w.2.2.2,w.1,w.2.1)
def fw(ws:r3)(f:Nat):Wl:=if f%2=0 then L7 ws ((f/2:Nat):Int)else rev (L7 ws ((f/2:Nat):Int))
def fa(ws:r3)(f:Nat):Vc:=((fw ws f).1,(fw ws f).2.1)
def fb(ws:r3)(f:Nat):Vc:=((fw ws f).2.2.1,(fw ws f).2.2.2)
def fd(ws:r3)(f:Nat):Vc:=((fw ws f).2.2.1-(fw ws f).1,(fw ws f).2.2.2-(fw ws f).2.1)
def fx(f:Nat):Nat:=if f%2=0 then f+1 else f-1
theorem uA(f:Nat):fx f/2=f/2/\(fx f)%2=1-f%2:=by unfold fx;split<;>omega
theorem Bk(f:Nat):fx (fx f)=f:=by unfold fx;split<;>split<;>omega
theorem me{f n:Nat}(h:f<2*n):fx f<2*n:=by unfold fx;split<;>omega
theorem Bz(ws:r3)(f:Nat):fw ws (fx f)=rev (fw ws f):=by
 unfold fw;rw[(uA f).1,(uA f).2];by_cases h:f%2=0
 .rw[KP (),KQ h]
 .rw[KQ (),KP h];rfl
theorem lT(ws:r3)(f:Nat):fa ws (fx f)=fb ws f:=by unfold fa fb;rw[Bz];rfl
theorem jJ{ws:r3}(d:∀w∈ws,Le w)(hF:PF ws){g h:Nat}(t:g<2*ws.length)(x:h<2*ws.length)(ne:g≠h)(e:fa ws g=fa ws h):QG (fd ws g) (fd ws h):=by
 let[g1,_,f]:=aQ (ws:=ws) (k:=((g/2:Nat):Int)) () ();let[h1,_,i]:=aQ (ws:=ws) (k:=((h/2:Nat):Int)) () ();have U:=d _ f;have V:=d _ i;rw[Ju]at g1 h1;unfold fa at e;have e1:=congrArg Prod.fst e;have e2:=congrArg Prod.snd e;unfold fd;unfold fw at *;by_cases a:g/2=h/2
 .exfalso;rw[<-a]at e1 e2;have lt:=U.lt;unfold l1 l2 la at lt;by_cases p:g%2=0
  .rw[KQ p,KP (():¬h%2=0)]at e1 e2;unfold rev at e1 e2;dsimp only at e1 e2;omega
  .rw[KP p,KQ (():h%2=0)]at e1 e2;unfold rev at e1 e2;dsimp only at e1 e2;omega
 .have F:=hF _ _ _ _ a g1 h1;generalize L7 ws ((g/2:Nat):Int)=u at *;generalize L7 ws ((h/2:Nat):Int)=v at *;intro z;have y:=U.lt;have A:=V.lt;unfold vc Mg at z;have j:=F.e2;have l:=F.e4;have m:=F.e1;have n:=F.e3;have B:=F.ne;unfold aV at m j n l;unfold vl;by_cases p:g%2=0<;>by_cases q:h%2=0
  .rw[KQ p,KQ q]at z e1 e2 ⊢;exfalso;simp only[]at z e1 e2;have o:Lj u v=0:=by unfold Lj sd Mg;grind
   have r:Lj v u=0:=by unfold Lj sd Mg;grind
   have s:l1 u=l1 v:=by unfold l1;rw[e1,e2]
   omega
  .rw[KQ p,KP q]at z e1 e2 ⊢;unfold rev at *;simp only[]at z e1 e2 ⊢;have b:la (u.2.2.1-u.1) (u.2.2.2-u.2.1)=l2 u-l1 u:=by unfold l1 l2 la;omega
   have c:la (v.1-v.2.2.1) (v.2.1-v.2.2.2)=-(l2 v-l1 v):=by unfold l1 l2 la;omega
   rw[b,c];exact Ii () ()
  .rw[KP p,KQ q]at z e1 e2 ⊢;unfold rev at *;simp only[]at z e1 e2 ⊢;have b:la (u.1-u.2.2.1) (u.2.1-u.2.2.2)=-(l2 u-l1 u):=by unfold l1 l2 la;omega
   have c:la (v.2.2.1-v.1) (v.2.2.2-v.2.1)=l2 v-l1 v:=by unfold l1 l2 la;omega
   rw[b,c];exact IC () ()
  .rw[KP p,KP q]at z e1 e2 ⊢;unfold rev at *;exfalso;simp only[]at z e1 e2;have o:Lh u v=0:=by unfold Lh sd Mg;grind
   have r:Lh v u=0:=by unfold Lh sd Mg;grind
   have s:l2 u=l2 v:=by unfold l2;rw[e1,e2]
   omega
def dQ(R:Nat->Nat->Bool)(o:Option Nat)(g:Nat):Option Nat:=match o with
 |none=>KJ g
 |some h=>if R g h=KN then KJ g else KJ h
theorem fold_min{R:Nat->Nat->Bool}{S:Nat->Prop}(a:∀x y,S x->S y->x≠y->R x y=KN\/R y x=KN)(c:∀x y z,S x->S y->S z->R x y=KN->R y z=KN->R x z=KN) :
 ∀(l:q7) (h:Nat),S h->(∀x∈l,S x)->∃m,l.foldl (dQ R) (KJ h)=KJ m/\S m/\(m=h\/m∈l)/\(h=m\/R m h=KN)/\∀x∈l,x=m\/R m x=KN
 |[],h,sh,_=>#[h,rfl,sh,.inl rfl,.inl rfl,λx hx=>by cases hx]
 |g::l,h,sh,hl=>by
  have d:=hl g (by simp)
  rw[List.foldl_cons]
  by_cases r:R g h=KN
  .obtain⟨m,e,b,mem,h1,f⟩:=fold_min a c l g d (λx hx=>hl x (by simp[hx]))
   have i:dQ R (KJ h) g=KJ g:=by unfold dQ;simp[r]
   rw[i]
   exists m,e,b,?_,?_
   .rcases mem with z|z
    .right;simp[z]
    .right;simp[z]
   .right
    rcases h1 with z|z
    .rw[<-z];exact r
    .exact c _ _ _ b d sh z r
   .intro x hx
    rcases II.mp hx with z|z
    .subst z;exact h1
    .exact f x z
  .obtain⟨m,e,b,mem,h1,f⟩:=fold_min a c l h sh (λx hx=>hl x (by simp[hx]))
   have i:dQ R (KJ h) g=KJ h:=by unfold dQ;simp[r]
   rw[i]
   exists m,e,b,?_,h1
   .rcases mem with z|z
    .exact .inl z
    .right;simp[z]
   .intro x hx
    rcases II.mp hx with z|z
    .subst z
     by_cases ne:x=h
     .subst ne;exact h1
     .rcases a x h d sh ne with q|q
      .exact absurd q r
      .rcases h1 with z|z
       .right;rw[<-z];exact q
       .right;exact c _ _ _ b sh d z q
    .exact f x z
def yu(ws:r3)(f g:Nat):Bool:=decide (fa ws g=fb ws f)&&decide (g≠fx f)
def jK(ws:r3)(f:Nat):q7:=(HK (2*ws.length)).filter (yu ws f)
def OC(ws:r3)(f g h:Nat):Bool:=OQ (fd ws (fx f)) (fd ws g) (fd ws h)
def bh(ws:r3)(f:Nat):Nat:=((jK ws f).foldl (dQ (OC ws f)) KL).getD (fx f)
theorem cX{ws:r3}{f g:Nat}:g∈jK ws f↔g<2*ws.length/\fa ws g=fb ws f/\g≠fx f:=by unfold jK yu;simp[Iw]
theorem kY{ws:r3}(h:∀w∈ws,Le w)(hF:PF ws){f:Nat}(i:f<2*ws.length):(jK ws f=[]/\bh ws f=fx f)\/(bh ws f∈jK ws f/\∀x∈jK ws f,x=bh ws f\/OC ws f (bh ws f) x=KN):=by
 unfold bh;cases c:jK ws f with
 |nil=>exact .inl #[rfl,rfl]
 |cons g l=>
  right
  have sub:∀x∈g::l,x<2*ws.length/\fa ws x=fb ws f/\x≠fx f:=λx hx=>cX.mp (by rw[c];exact hx)
  have d:∀x,(x<2*ws.length/\fa ws x=fb ws f/\x≠fx f)->QG (fd ws (fx f)) (fd ws x):=λx hx=>jJ h hF (me i) hx.1 (λz=>hx.2.2 z.symm) (by rw[lT,hx.2.1])
  let[m,e,o,mem,h1,j]:=fold_min (R:=OC ws f) (S:=λx=>x<2*ws.length/\fa ws x=fb ws f/\x≠fx f) (λx y hx hy ne=>vO (d x hx) (d y hy) (jJ h hF hx.1 hy.1 ne (by rw[hx.2.1,hy.2.1]))) (λx y z hx hy k a b=>vJ (d x hx) (d y hy) (d z k) a b) l g (sub g (by simp)) (λx hx=>sub x (by simp[hx]))
  rw[List.foldl_cons]
  have n:dQ (OC ws f) KL g=KJ g:=rfl
  rw[n,e]
  simp only[Option.getD_some]
  refine #[by rcases mem with z|z<;>simp[z],λx hx=>?_]
  rcases II.mp hx with z|z
  .subst z;exact h1
  .exact j x z
theorem Fw{ws:r3}(b:∀w∈ws,Le w)(hF:PF ws){f:Nat}(a:f<2*ws.length):bh ws f<2*ws.length:=by
 rcases kY b hF a with⟨_,e⟩|⟨h,_⟩
 .rw[e];exact me a
 .exact(cX.mp h).1
theorem BE{ws:r3}(a:∀w∈ws,Le w)(hF:PF ws){f:Nat}(b:f<2*ws.length):fa ws (bh ws f)=fb ws f:=by
 rcases kY a hF b with⟨_,e⟩|⟨h,_⟩
 .rw[e,lT]
 .exact(cX.mp h).2.1
theorem CB{ws:r3}(a:∀w∈ws,Le w)(hF:PF ws){f g:Nat}(b:f<2*ws.length)(d:g<2*ws.length)(e:bh ws f=bh ws g):f=g:=by
 by_cases ne:fx f=fx g
 .rw[<-Bk f,ne,Bk]
 .exfalso;have c:fb ws f=fb ws g:=by rw[<-BE a hF b,<-BE a hF d,e]
  have h:fx g∈jK ws f:=cX.mpr #[me d,by rw[lT,c],λz=>ne z.symm];have i:fx f∈jK ws g:=cX.mpr #[me b,by rw[lT,c],ne];rcases kY a hF b with⟨z,_⟩|⟨k,l⟩
  .rw[z]at h;cases h
  .rcases kY a hF d with⟨z,_⟩|⟨m,n⟩
   .rw[z]at i;cases i
   .have o:=(cX.mp k).2.2;have p:=(cX.mp m).2.2;have q:=(l _ h).resolve_left (λz=>p (by rw[<-e,<-z]));have j:=(n _ i).resolve_left (λz=>o (by rw[e,<-z]));rw[<-e]at j;exact zL (jJ a hF (me b) (me d) ne (by rw[lT,lT,c])) q j
def NT(ws:r3)(f:Nat):Nat->Nat
 |0=>f
 |k+1=>bh ws (NT ws f k)
def rn(ws:r3)(f k:Nat):q7:=(HK (k+1)).map (NT ws f)
def NR(ws:r3)(f k:Nat):Prop:=∀i j,i<j->j<=k->NT ws f i≠NT ws f j
theorem jN(ws:r3)(f k:Nat):(rn ws f k).length=k+1:=by simp[rn]
theorem zP(ws:r3)(f k:Nat):rn ws f (k+1)=rn ws f k++[NT ws f (k+1)]:=by unfold rn;rw[Ka,Iu];rfl
theorem yi:∀(m:Nat) (l:q7),l.Nodup->(∀x∈l,x<m)->l.length<=m
 |0,l,_,h=>by
  cases l with
  |nil=>simp
  |cons a l=>exact absurd (h a (by simp)) ()
 |m+1,l,nd,h=>by
  have h1:=yi m (l.erase m) (nd.erase m) (λx hx=>by
   have:=h x (JT hx)
   have ne:x≠m:=λz=>by
    subst z
    exact absurd hx (nd.not_mem_erase)
   omega)
  have:=List.length_erase_le (a:=m) (l:=l)
  by_cases b:m∈l
  .have:=List.length_erase_of_mem b;omega
  .rw[List.erase_of_not_mem b]at h1;omega
section
variable{ws:r3}(hU:∀w∈ws,Le w)(hF:PF ws){f:Nat}(hf:f<2*ws.length)
include hU hF hf
theorem jy:∀k,NT ws f k<2*ws.length
 |0=>hf
 |k+1=>Fw hU hF (jy k)
theorem Aa{k:Nat}(h:NR ws f k)(ne:bh ws (NT ws f k)≠f):NR ws f (k+1):=λi j a b e=>by
 by_cases q:j<=k
 .exact h i j a q e
 .have:j=k+1:=()
  subst this;cases i with
  |zero=>exact ne e.symm
  |succ i=>exact h i k () (HD _) (CB hU hF (jy hU hF hf i) (jy hU hF hf k) e)
theorem sX{k:Nat}(h:NR ws f k):k+1<=2*ws.length:=by
 rw[<-jN ws f k];refine yi _ _ ?_ (λx hx=>?_)
 .unfold rn;rw[List.nodup_iff_pairwise_ne,List.pairwise_map];refine K0 ?_ (List.pairwise_lt_range (n:=k+1));intro a b e d c;exact h a b c (by have:=List.mem_range.mp d;omega)
 .unfold rn at hx;let[i,_,rfl]:=IZ.mp hx;exact jy hU hF hf i
end
structure Zw(ws:r3)(r:q7):Prop where
 ex:∃f k,f<2*ws.length/\k+1<=2*ws.length/\r=rn ws f k/\bh ws (NT ws f k)=f
theorem zk(ws:r3)(f:Nat):NR ws f 0:=λi j a b=>()
theorem Aj{n d:Int}(hd:0<d):((Rat.divInt n d).den:Int) ∣ d:=by rw[Rat.den_divInt,KP ()];have h1:d.natAbs/d.gcd n ∣ d.natAbs:=Nat.div_dvd_of_dvd (Int.ofNat_dvd_left.mp (Int.gcd_dvd_left d n));exact Int.ofNat_dvd_left.mpr h1
section
variable{X:Cx}
def FO:Mh:=OU (λ_ _=>True) λi j=>.int (Builtin.bitXor i j)
theorem Dk:Mi X (JR .BitXor) FO:=dR (RF DL) λ_ _ _=>by rw[Rep]
variable{o:pv}{to:TD}{apos LD:Pos}
end
theorem Ds:∀f:Nat,f<80->Builtin.bitXor (f:Int) 1=((fx f:Nat):Int):=⋯
def Qn(n:Nat)(S:Int->Bool):Ht->Hp->pd->Prop:=λK H a=>∃kvs:List (Key×V),H a=KJ (.dK kvs)/\kvs.length<=n/\∀i:Int,(kvs.any λb=>decide (b.1=Sum.inl i))=S i
def Pz(n:Nat)(S:Int->Bool):MO:=.gen (Qn n S)
section
variable{K:Ht}{H H':Hp}{M:MH}{a:pd}
theorem Qn.wJ{n:Nat}{S:Int->Bool}(h:Qn n S K H a):mO K H a (Pz n S):=#[h,(by let[kvs,h1,_]:=h;rw[h1];simp),λH' g e=>let⟨kvs,h1,b⟩:=h;#[kvs,e.trans h1,b]]
theorem Lb.di{n:Nat}{S:Int->Bool}(h:Lb K H M)(e:M a=KJ (Pz n S)):Qn n S K H a:=(h a _ e).1
theorem Lb.Fp{p:pd}(h:Lb K H M)(b:H p=KL):Lb K (upd H p (.dK [])) (au M p (Pz 0 λ_=>KO)):=λa u e=>by
 by_cases ne:a=p
 .subst ne;rw[ag]at e;cases e;exact Qn.wJ #[[],aF,HD _,λ_=>rfl]
 .rw[ak ne]at e;exact(h a u e).ff (.new b) (aD ne)
theorem L5.dK{kvs:List (Key×V)}{o:HO}(h:H a=KJ (.dK kvs)):L5 K H (upd H a o):=.put (λxs e=>by rw[h]at e;cases e) (λu xs e=>by rw[h]at e;cases e)
theorem Lb.F7{n:Nat}{S:Int->Bool}{kvs:List (Key×V)}{i:Int}{v:V}(h:Lb K H M)(hx:H a=KJ (.dK kvs))(f:kvs.length<=n)(b:∀i:Int,(kvs.any λd=>decide (d.1=Sum.inl i))=S i) : Lb K (upd H a (.dK (putK kvs (.inl i) v))) (au M a (Pz (n+1) λj=>decide (j=i)||S j)):=λc u e=>by
 by_cases ne:c=a
 .subst ne;rw[ag]at e;cases e;refine Qn.wJ #[_,aF,by have:=gC kvs (.inl i) v;omega,λj=>?_];rw[eB,ym];by_cases z:j=i
  .subst z;rw[KQ rfl];simp
  .rw[KP (λq=>z (by injection q)),<-eB,b];simp[z]
 .rw[ak ne]at e;exact(h c u e).ff (.dK hx) (aD ne)
end
section
variable{X:Cx}{pos:Pos}
def CL:TD:=λ_ M Q=>∀p,M p=KL->Q (.ref p) (au M p (Pz 0 λ_=>KO))
theorem yM:DE X (.Dict [] [] pos) CL:=aY xn λσ H Q a=>by let[δ,M,R,d,c,q,fin]:=a;exact(λp b=>fin _ _ _ _ (.new b) (by rw[Rep]) (c.Fp b) (q p (c.fresh b)))
def Bg(g:Bool->Bool)(ty b:TD):TD:=λδ M Q=>ty δ M λy c=>b δ c λx a=>∃i l n S,y=.int i/\x=.ref l/\a l=KJ (Pz n S)/\Q (.bl (g (S i))) a
theorem A4{K:Ht}{g:Bool->Bool}{ty d:TD}{σ:L2.St}{H:Hp}{Q:VK}(h:lift K (Bg g ty d) σ H Q) : (lift K ty) σ H λy H1=>(lift K d) σ H1 λx c=>∃a o,x=.ref a/\BN c a y o/\Q (.bl (g o.isSome)) c:=by let[δ,M,R,e,m,q,fin]:=h;refine #[δ,M,_,e,m,q,λy p v H1 g1 f r s=>#[δ,p,_,e.mono g1,r,s,λx C u c t j k b=>?_]];let[i,l,n,S,w,ex,z,A]:=b;subst w ex;rw[Rep]at f;rw[Rep]at j;subst f j;let[kvs,h1,D,B]:=k.di z;exists l,fu kvs (.inl i),rfl,.inl #[kvs,.inl i,.inl h1,rfl,rfl];rw[<-eB,B];exact fin _ _ _ _ (g1.trans t) (by rw[Rep]) k A
variable{e1 e2:pv}{ty td:TD}
theorem sE(n:X.A.units+66<J9)(h1:DE X e1 ty)(i:DE X e2 td)(j:Kt .NotIn e2=KO:=by rfl):DT X (.Compare e1 [.NotIn] [e2] pos) (tBD (Bg (λb=>!b) ty td)):=
 mw (BV (uP () h1 i) j) λσ H Q e=>by let[δ,M,R,k,l,q,fin]:=e;exact(A4 (g:=λb=>!b) (Q:=λx h=>∃c,x=.bl c/\Q c h) #[δ,M,_,k,l,q,λd o v h g r a f=>by
  let[c,m,z]:=f
  subst m
  rw[Rep]at r;subst r
  exact #[c,rfl,fin _ _ _ g a z]])
def D3(td ty b:TD):MN:=λB δ M=>b δ M λd c=>td δ c λx e=>ty δ e λy a=>∃l i n S,x=.ref l/\y=.int i/\a l=KJ (Pz n S)/\n<1000000/\B.nx δ (au a l (Pz (n+1) λj=>decide (j=i)||S j))
theorem wZ{o i a:pv}{h:TD}{b:Pos}(R:X.A.units+66<J9)(t:DE X o td)(w:DE X i ty)(hv:DE X a h)(f:JU a (KJ (.Subscript o i b)) pos.line X.env=pure KO:=by rfl):DSt X (.Assign [.Subscript o i b] a pos) (D3 td ty h):=
 cA (AS () t w hv f) λD σ H c=>by let[δ,M,f,z,B,ok,q]:=c;exact(#[δ,M,_,f,z,q,λd C v H1 g1 T E F=>#[δ,C,_,f.mono g1,E,F,λx G u U g j I J=>#[δ,G,_,(f.mono g1).mono g,I,J,λy V W k m p r e=>by
  let[l,i,n,S,ex,L,N,Y,O]:=e
  subst ex L
  rw[Rep]at j;rw[Rep]at p;subst j p
  let[kvs,h1,P,Q]:=r.di N
  have sz:1000000<=HR:=L8 rfl
  have s:L5 X.K k (upd k l (.dK (putK kvs (.inl i) v))):=.dK h1
  exact #[l,7,.inl #[kvs,.inl i,h1,rfl,(),rfl],ok.nx _ _ _ _ (((g1.trans g).trans m).trans s) (f.mono (((g1.trans g).trans m).trans s)) (r.F7 h1 P Q) O]]]])
end
def GF(ws:r3)(f:Nat)(r:q7):Prop:=∃a,NR ws f a/\bh ws (NT ws f a)=f/\r=rn ws f a
def WY(ws:r3):Nat->p_->Prop
 |0,rs=>rs=[]
 |i+1,rs=>∃qs,WY ws i qs/\((i∈qs.flatten/\rs=qs)\/(i∉qs.flatten/\∃r,GF ws i r/\rs=qs++[r]))
def RL(M:MH)(ps:rq)(rs:p_):Prop:=KI (λ(p:pd) (r:q7)=>M p=KJ (.lst (r.map sg))) ps rs
theorem RL.len{M:MH}{ps:rq}{rs:p_}(h:RL M ps rs):ps.length=rs.length:=by
 unfold RL at h
 induction h with
 |nil=>rfl
 |cons _ _ a=>rw[Io,Io,a]
theorem RL.mono{M b:MH}{ps:rq}{rs:p_}(h:RL M ps rs)(s:∀p∈ps,∀o,M p=KJ o->b p=KJ o):RL b ps rs:=by
 unfold RL at *
 induction h with
 |nil=>exact .nil
 |cons a _ c=>exact .cons (s _ (by simp) _ a) (c λp d o e=>s p (by simp[d]) o e)
theorem RL.snoc{M:MH}{ps:rq}{rs:p_}{p:pd}{r:q7}(h:RL M ps rs)(e:M p=KJ (.lst (r.map sg))):RL M (ps++[p]) (rs++[r]):=Paired.snoc h e
section
variable{α β:Type}{n:Nat}{k:Nat->Int}
def OD(n:Nat)(k:Nat->Int){α:Type}:PySem.W.KasT α->(α->Prop)->Prop
 |.ret a,Q=>Q a
 |.ask i j f,Q=>i<n/\j<n/\OD n k (f (decide (k i<k j))) Q
theorem fv{f:α->PySem.W.KasT β}{Q:β->Prop}:∀(t:PySem.W.KasT α),OD n k t (λa=>OD n k (f a) Q)->OD n k (t.bind f) Q
 |.ret _,h=>h
 |.ask i j g,h=>#[h.1,h.2.1,fv _ h.2.2]
theorem cR{Q R:α->Prop}(b:∀a,Q a->R a):∀(t:PySem.W.KasT α),OD n k t Q->OD n k t R
 |.ret _,h=>b _ h
 |.ask i j g,h=>#[h.1,h.2.1,cR b _ h.2.2]
theorem t8{b:Nat->Nat->(Bool->Hv->Prop)->Hv->Prop}{s:Hv}(c:∀i j (C:Bool->Hv->Prop),i<n->j<n->C (decide (k i<k j)) s->b i j C s){Q:α->Hv->Prop}:∀(t:PySem.W.KasT α),OD n k t (λa=>Q a s)->t.kasWp b Q s
 |.ret _,h=>h
 |.ask i j g,h=>c i j _ h.1 h.2.1 (t8 c _ h.2.2)
structure MT(n:Nat)(p:Array Nat):Prop where
 perm:p.Perm (HK n).toArray
theorem MT.size{p:Array Nat}(h:MT n p):p.size=n:=by have:=h.perm.size_eq;simpa using this
theorem MT.lt{p:Array Nat}(h:MT n p){i:Nat}(b:i<n):p.getD i 0<n:=by
 have a:i<p.size:=by rw[h.size];exact b
 have:p[i]∈(HK n).toArray:=h.perm.mem_iff.mp (Array.getElem_mem a);simpa[Array.getD,a]using this
theorem MT.inj{p:Array Nat}(h:MT n p){i j:Nat}(f:i<n)(g:j<n)(e:p.getD i 0=p.getD j 0):i=j:=by
 have a:i<p.size:=by rw[h.size];exact f
 have b:j<p.size:=by rw[h.size];exact g
 have nd:p.toList.Nodup:=(Array.perm_iff_toList_perm.mp h.perm).nodup_iff.mpr ‹List.nodup_range›;have c:p.toList[i]=p.toList[j]:=by simpa[Array.getD,a,b]using e
 have d:=IQ.mp nd;rcases Nat.lt_trichotomy i j with h|h|h
 .exact absurd c (d i j _ _ h)
 .exact h
 .exact absurd c.symm (d j i _ _ h)
def ky(k:Nat->Int)(p:Array Nat)(i:Nat):Int:=k (p.getD i 0)
def Inj(n:Nat)(k:Nat->Int):Prop:=∀i j,i<n->j<n->k i=k j->i=j
theorem rB(d:Inj n k){p:Array Nat}(h:MT n p){i j:Nat}(b:i<n)(c:j<n)(a:i≠j):ky k p i≠ky k p j:=λe=>a (h.inj b c (d _ _ (h.lt b) (h.lt c) e))
def Up(k:Nat->Int)(p:Array Nat)(m:Nat):Prop:=∀i j,i<j->j<m->ky k p i<ky k p j
def Dn(k:Nat->Int)(p:Array Nat)(m:Nat):Prop:=∀i j,i<j->j<m->ky k p j<ky k p i
theorem A3{p:Array Nat}{m:Nat}(h1:1<=m)(h:Up k p m)(b:ky k p (m-1)<ky k p m):Up k p (m+1):=λi j a d=>by
 by_cases e:j=m
 .subst e;by_cases c:i=j-1
  .subst c;exact b
  .have:=h i (j-1) () ();omega
 .exact h i j a ()
theorem zK{p:Array Nat}{m:Nat}(h1:1<=m)(h:Dn k p m)(b:ky k p m<ky k p (m-1)):Dn k p (m+1):=λi j a d=>by
 by_cases e:j=m
 .subst e;by_cases c:i=j-1
  .subst c;exact b
  .have:=h i (j-1) () ();omega
 .exact h i j a ()
theorem ou(b:Inj n k){p:Array Nat}(a:MT n p):∀(f m:Nat),1<=m->m+f=n->Up k p m->OD n k (PySem.W.kas_asc p f m) λr=>m<=r/\r<=n/\Up k p r/\(r=n\/ky k p r<ky k p (r-1))
 |0,m,h1,e,u=>#[HD _,(),u,.inl ()]
 |f+1,m,h1,e,u=>by
  exists a.lt (),a.lt ()
  by_cases c:k (p.getD m 0)<k (p.getD (m-1) 0)
  .rw[KS c]
   exact #[HD _,(),u,.inr c]
  .rw[KR c]
   have ne:=rB b a (i:=m) (j:=m-1) () () ()
   refine cR (λr h=>#[(),h.2]) _ (ou b a f (m+1) () () (A3 h1 u ?_))
   unfold ky at ne ⊢;omega
theorem pI(b:Inj n k){p:Array Nat}(a:MT n p):∀(f m:Nat),1<=m->m+f=n->Dn k p m->OD n k (PySem.W.kas_desc f p m 0) λr=>r.1=p/\r.2.2=0/\m<=r.2.1/\r.2.1<=n/\Dn k p r.2.1
 |0,m,h1,e,u=>#[rfl,rfl,HD _,by show m<=n;omega,u]
 |f+1,m,h1,e,u=>by
  exists a.lt (),a.lt ()
  by_cases c:k (p.getD m 0)<k (p.getD (m-1) 0)
  .rw[KS c]
   exact cR (λr h=>#[h.1,h.2.1,(),h.2.2.2]) _ (pI b a f (m+1) () () (zK h1 u c))
  .rw[KR c]
   have ne:=rB b a (i:=m) (j:=m-1) () () ()
   have d:k (p.getD (m-1) 0)<k (p.getD m 0):=by unfold ky at ne;omega
   exists a.lt (),a.lt ()
   rw[KS d]
   exact #[rfl,rfl,HD _,by show m<=n;omega,u]
theorem getD_eq(p:Array Nat)(i:Nat):p.getD i 0=(p[i]?).getD 0:=by simp[Array.getD_eq_getD_getElem?]
theorem tX{p:Array Nat}{m:Nat}(a:MT n p):MT n (PySem.W.kas_rev p 0 m):=⟨(mirror_perm _ _ _ _).trans a.perm⟩
theorem De{p:Array Nat}{m:Nat}(a:MT n p)(b:m<=n)(h:Dn k p m):Up k (PySem.W.kas_rev p 0 m) m:=λi j c d=>by unfold ky PySem.W.kas_rev;rw[getD_eq,getD_eq,getElem?_mirror_all (by rw[a.size];exact b),getElem?_mirror_all (by rw[a.size];exact b),KQ #[(),()],KQ #[(),d],<-getD_eq,<-getD_eq];exact h (0+m-1-j) (0+m-1-i) () ()
theorem vY(b:Inj n k){p:Array Nat}(a:MT n p){m:Nat}(h1:1<=m)(c:m<=n)(d:Dn k p m):OD n k (PySem.W.kas_tail3 m n p) λr=>MT n r.2/\1<=r.1/\r.1<=n/\Up k r.2 r.1:=fv _ (cR (λr h=>show MT n _/\_ from #[tX a,by show 1<=r;omega,h.2.1,h.2.2.1]) _ (ou b (tX a) (n-m) m h1 () (De a c d)))
theorem vP(b:Inj n k)(t:2<=n){p:Array Nat}(a:MT n p):OD n k (PySem.W.kas_count n p) λr=>MT n r.2/\1<=r.1/\r.1<=n/\Up k r.2 r.1:=by
 refine fv _ (cR (λr h=>?_) _ (ou b a (n-1) 1 (HD _) () λi j c l=>()));let[f,g,u,m]:=h;by_cases e:r=n
 .rw[KQ (by simp[e])];exact #[a,f,g,u]
 .rw[KP (by simp[e])];by_cases e1:r>1
  .rw[KQ e1];exists a.lt (),a.lt ();have:k (p.getD 0 0)<k (p.getD (r-1) 0):=u 0 (r-1) () ();rw[KS this];exact #[a,f,g,u]
  .rw[KP e1];have o:r=1:=()
   subst o;refine fv _ (cR (λq h=>?_) _ (pI b a (n-(1+1)) (1+1) () () λi j c l=>?_))
   .obtain⟨e2,e3,e4,s,d⟩:=h;rw[KP (by rw[e3];exact Ks 0),e2];exact vY b a () s d
   .obtain rfl:i=0:=()
    obtain rfl:j=1:=()
    exact m.resolve_left e
theorem jA(h:Inj n k){p:Array Nat}(g:MT n p){m:Nat}(d:m<n)(u:Up k p m):∀(f l r:Nat),r<=l+f->l<=r->r<=m->(∀i,i<l->ky k p i<ky k p m)->(∀i,r<=i->i<m->ky k p m<ky k p i)->
 OD n k (PySem.W.kas_place p m f l r) λx=>x<=m/\(∀i,i<x->ky k p i<ky k p m)/\(∀i,x<=i->i<m->ky k p m<ky k p i)
 |0,l,r,h1,h2,h3,a,b=>#[(),a,λi o d=>b i () d]
 |f+1,l,r,h1,h2,h3,a,b=>by
  show OD n k (if l≥r then _ else _) _
  by_cases e:l≥r
  .rw[KQ e]
   exact #[(),a,λi o d=>b i () d]
  .rw[KP e]
   exists g.lt d,g.lt ()
   by_cases c:k (p.getD m 0)<k (p.getD ((l+r)/2) 0)
   .rw[KS c]
    refine jA h g d u f l ((l+r)/2) () () () a λi o q=>?_
    by_cases s:i=(l+r)/2
    .subst s;exact c
    .have:=u ((l+r)/2) i () q
     unfold ky at this ⊢;omega
   .rw[KR c]
    have ne:=rB h g (i:=m) (j:=(l+r)/2) d () ()
    refine jA h g d u f ((l+r)/2+1) r () () h3 (λi o=>?_) b
    by_cases s:i=(l+r)/2
    .subst s;unfold ky at ne ⊢;omega
    .have:=u i ((l+r)/2) () ()
     unfold ky at ne this ⊢;omega
theorem x9{p:Array Nat}(a:MT n p){m x:Nat}(b:m<n)(hx:x<=m)(i:Nat):ky k (bubble p m (m-x)) i=if i=x then ky k p m else if x<i/\i<=m then ky k p (i-1)else ky k p i:=by
 unfold ky;rw[getD_eq,getElem?_bubble (by rw[a.size];exact b) _ (),show m-(m-x)=x by omega];split
 .rw[<-getD_eq]
 .split
  .rw[<-getD_eq]
  .rw[<-getD_eq]
theorem uF(g:Inj n k):∀(f:Nat) (p:Array Nat) (m:Nat),MT n p->m+f=n->Up k p m->OD n k (PySem.W.kas_bin f p m) λq=>MT n q/\Up k q n
 |0,p,m,hp,e,u=>#[hp,by rw[show n=m by omega];exact u]
 |f+1,p,m,hp,e,u=>by
  have c:m<n:=()
  refine fv _ (cR (λx h=>?_) _ (jA g hp c u m 0 m () () (HD _) (λi l=>()) λi l o=>()))
  let[hx,a,b]:=h
  refine uF g f _ (m+1) ⟨(bubble_perm _ _ _).trans hp.perm⟩ () λi j d r=>?_
  rw[x9 hp c hx,x9 hp c hx]
  by_cases e1:i=x
  .rw[KQ e1,KP (),KQ #[(),()]]
   exact b _ () ()
  .rw[KP e1]
   by_cases e2:x<i
   .rw[KQ #[e2,()],KP (),KQ #[(),()]]
    exact u _ _ () ()
   .rw[KP ()]
    by_cases e3:j=x
    .rw[KQ e3];exact a i ()
    .rw[KP e3]
     by_cases e4:x<j
     .rw[KQ #[e4,()]]
      by_cases s:i=j-1
      .omega
      .exact u _ _ () ()
     .rw[KP ()]
      exact u _ _ d ()
theorem xV(a:Inj n k)(c:2<=n):OD n k (PySem.W.kas_sort n) λp=>MT n p/\Up k p n:=by
 refine fv _ (cR (λr h=>?_) _ (vP a c (p:=(HK n).toArray) ⟨Array.Perm.refl _⟩));let[b,h1,d,u]:=h;by_cases e:r.1<n
 .rw[KQ e,show max r.1 1=r.1 by omega];exact uF a _ _ _ b () u
 .rw[KP e];have:r.1=n:=()
  exact #[b,by rw[this]at u;exact u]
end
section
variable{prog:HW}{w:IA}{A:Iv}{E:Hu->Hv->Prop}{s:Hv}
def fR(vs:List Hu)(p:Array Nat):Array Hu:=Il (p.toList.map λi=>vs.getD i JB)
end
section
variable{X:Cx}
def p0(us:List (Int×Int))(i:Nat):Int×Int:=us.getD i (0,0)
theorem iE{us:List (Int×Int)}{i:Nat}(h:i<us.length):p0 us i∈us:=by unfold p0;rw[Jk,Hy h];exact IU h
theorem A0{xs:ry}{its:List Hu}(h:Vals xs its):∀i,RelV (xs.getD i .non) (its.getD i .none):=by
 induction h with
 |nil=>intro i;simp;rfl
 |cons a _ b=>intro i;cases i with
  |zero=>exact a
  |succ i=>exact b i
theorem ny{xs:ry}{its:List Hu}(h:Vals xs its):∀l:q7,Vals (l.map λi=>xs.getD i .non) (l.map λi=>its.getD i .none)
 |[]=>.nil
 |i::l=>.cons (A0 h i) (ny h l)
variable{prog:HW}{w:IA}{A:Iv}{E:Hu->Hv->Prop}{s:Hv}
end
section
variable{X:Cx}
def Qd(K:Ht)(H:Hp):ry->List (Int×Int)->Prop
 |[],[]=>True
 |x::xs,u::us=>(∃a,x=.ref a/\Lm K H a [.int u.1,.int u.2])/\Qd K H xs us
 |_,_=>False
theorem Qd.len{K:Ht}{H:Hp}:∀{xs:ry} {us:List (Int×Int)},Qd K H xs us->xs.length=us.length
 |[],[],_=>rfl
 |_::_,_::_,h=>by rw[Io,Io,Qd.len h.2]
 |[],_::_,h=>h.elim
 |_::_,[],h=>h.elim
def CG(h:pq)(v:Hu)(u:Int×Int):Prop:=∃a t1 b,v=.ref a/\IsTup h a (List.toArray [.int u.1 t1,.int u.2 b])
theorem yH{KZ:p4}{σ:List (Option V)}{H:Hp}{s:Hv}(I:Inv X KZ σ H s){x:V}{v:Hu}{u:Int×Int}(h:∃a,x=.ref a/\Lm X.K H a [.int u.1,.int u.2])(r:RelV x v):CG s.heap v u:=by let[a,rfl,b]:=h;cases r;let[c,d,e,_]:=I.tuple b;obtain⟨y1,g,rfl,⟨t1,rfl⟩,⟨f,rfl⟩⟩:=vals2 d;exact #[a,t1,f,rfl,e]
theorem yE{KZ:p4}{σ:List (Option V)}{H:Hp}{s:Hv}(I:Inv X KZ σ H s):∀{xs:ry} {us:List (Int×Int)} {its:List Hu},Qd X.K H xs us->Vals xs its->∀i,i<us.length->CG s.heap (its.getD i .none) (p0 us i)
 |[],[],_,_,_,i,hi=>by simp at hi
 |x::xs,u::us,_,h,.cons a r,i,hi=>by
  cases i with
  |zero=>exact yH I h.1 a
  |succ i=>exact yE I h.2 r i ‹hi›
 |[],_::_,_,h,_,_,_=>h.elim
 |_::_,[],_,h,_,_,_=>h.elim
theorem qm{h:pq}:∀{its:List Hu} {us:List (Int×Int)},its.length=us.length->(∀i,i<us.length->CG h (its.getD i .none) (p0 us i))->∃fs:List Hu,PySem.W.KatTups h its fs/\fs.length=us.length/\∀v∈fs,∃n t,v=Value.int n t
 |[],[],_,_=>#[[],PySem.W.KatTups.nil,rfl,λv hv=>by simp at hv]
 |v::its,u::us,hl,q=>by
  let[fs,b,c,d]:=qm (its:=its) (us:=us) ‹hl› λi f=>q (i+1) ‹f›
  let[a,t1,l,e,o,g,j,n,hd]:=q 0 (by simp)
  have k:v=.ref a:=e
  subst k
  refine #[.int u.1 t1::fs,PySem.W.KatTups.cons g j hd rfl b,by simp[c],λv hv=>?_]
  rcases II.mp hv with rfl|hv
  .exact #[_,7]
  .exact d v hv
 |[],_::_,hl,_=>by simp at hl
 |_::_,[],hl,_=>by simp at hl
def Wf(u:Int×Int):D:=.tup [.int u.1,.int u.2]
theorem xI{K:Ht}{H:Hp}:∀{us:List (Int×Int)} {xs:ry},aC K H (us.map Wf) xs->Qd K H xs us
 |[],xs,h=>by
  rw[Jm,aC]at h
  subst h;trivial
 |u::us,xs,h=>by
  rw[HI,aC]at h
  let[x,r,rfl,a,b]:=h
  refine #[?_,xI b]
  unfold Wf at a
  rw[Rep]at a
  let[p,d,rfl,hy,c]:=a
  let[y1,e,rfl,e1,e2]:=gc c
  rw[Rep]at e1 e2
  subst e1 e2
  exact #[p,rfl,hy]
def MV(u v:Int×Int):Prop:=100*u.1+u.2<100*v.1+v.2
theorem uR:J5 "sorted"=KJ (.builtin "sorted"):=by first|exact boot_sorted|rfl
end
def kr(h:pq)(d:pd)(es:Array J7)(ep:Nat):Prop:=∃o,h.get? d=KJ o/\o.ExactDict/\o.data=.dict es ep
section
variable{prog:HW}{w:IA}{A:Iv}{E:Hu->Hv->Prop}{s:Hv}{d it:pd}{es:Array J7}{ep i:Nat}
theorem kr.ty(h:kr s.heap d es ep):s.TypeIs (.ref d) "dict":=let⟨o,a,b,_⟩:=h;#[o,a,b.1]
theorem kr.kept{h h':pq}(q:kr h d es ep)(k:∀o,h.get? d=KJ o->h'.get? d=KJ o):kr h' d es ep:=let⟨o,a,b⟩:=q;#[o,k o a,b]
theorem kr.lt{h:pq}(q:kr h d es ep):d<h.objs.size:=let⟨_,a,_⟩:=q;HN a
theorem yF{Q:Hu->Hv->Prop}(e:(d==JC)=KO)(b:kr s.heap d es ep)
 (q:Q (.ref s.z) { s with heap:=s.heap.push { cls:=.type "dict_keyiterator",data:=.fields (List.toArray [.ref d,.int 0 0,.int es.size 0,.int ep 0]) } }):HJ (HP prog w) A (pyIter (.ref d)) Q E s:=by
 have a:=b.ty
 let[o,g1,f,c]:=b
 refine wpAny_pyIter_slot a F.slot_dict_iter (Kh F.slot_dict_iter a F.entry_dict_iter ?_ (F.args_dict_iter_1 _))
 unfold KH.«dict.__iter__»
 refine cc ?_
 unfold Builtin.Dict.dictSlotNone
 refine cc (wpAny_notOrdered_dict a ?_)
 show HJ _ _ (pure (IY d)) _ _ s
 refine Hz ?_
 show HJ _ _ (Builtin.Dict.showsAll d >>= _) _ _ s
 unfold Builtin.Dict.showsAll
 rw[KP (by rw[e];exact Ib)]
 refine cc (Hz (cc (wpAny_dictEntries g1 c (cc (wpAny_dictEpoch g1 c ?_)))))
 refine cc (IT (Hz #[7,"dict_keyiterator",_,#[_,HG _ rfl,rfl],Jy.lookup,?_]))
 simpa[KD]using q
theorem xc{Q:Option Hu->Hv->Prop}(b:s.heap.IsKeyIter it d i es.size ep)(g:kr s.heap d es ep)(h:i<es.size)
 (j:∀h':pq,h'.IsKeyIter it d (i+1) es.size ep->JI it s.heap h'->Q (KJ es[i].key) { s with heap:=h' }):HJ (HP prog w) A (pyNext (.ref it)) Q E s:=by
 let[o,c,k,hd]:=id b
 let[od,g1,l,e]:=g
 have a:=b.typeIs
 unfold pyNext
 refine cc (wpAny_attempt (K5 (name:=Ja "__next__") a Jy (Kh Jy a F.entry_dict_keyiterator_next ?_ (F.args_dict_keyiterator_next_1 _))))
 refine cc (Hz (cc (cc ?_)))
 first|refine cc (K4 a (Hz ?_))|refine cc (wpAny_typeNameOf_keyiter a (Hz ?_))
 refine cc (wpAny_fieldsOf c hd ?_)
 simp only[show Builtin.Dict_items.ownsTuple "dict_keyiterator"=KO by decide,J1,if_false]
 show HJ _ _ (if(IY d==JB)=KN then _ else _) _ _ s
 rw[KP (show ¬((IY d==JB)=KN)from Ib)]
 refine cc (Hz (cc (wpAny_dictEntries g1 e ?_)))
 rw[KP (by simp)]
 refine cc (Hz (cc (wpAny_dictEpoch g1 e ?_)))
 rw[KP (by simp)]
 refine Hz ?_
 simp only[show ¬((i:Int)<0)from by omega,if_false,Ju,Array.getElem?_eq_getElem h]
 refine cc ?_
 first|refine cc (K4 a (Hz ?_))|refine cc (wpAny_typeNameOf_keyiter a (Hz ?_))
 refine cc (wpAny_isOneOf_keyiter a ?_)
 show HJ _ _ (setField (.ref it) 1 (KD ((i:Int)+1)) >>= _) _ _ s
 refine cc (wpAny_setField c hd (by simp) ?_)
 have f:(s.heap.update it (Obj.mapFields (·.setIfInBounds 1 (KD ((i:Int)+1))))).IsKeyIter it d (i+1) es.size ep:=
  #[_,JS _ c (Obj.isFreed_of_fields (Obj.data_mapFields hd _)),(Obj.cls_mapFields ..).trans k,by rw[Obj.data_mapFields hd];simp[KD]]
 refine cc (Jg (cc (wpAny_isOneOf_keyiter (s:={ s with heap:=s.heap.update it (Obj.mapFields (·.setIfInBounds 1 (KD ((i:Int)+1)))) }) f.typeIs ?_)))
 show HJ _ _ (pure es[i].key) _ _ _
 exact Hz (Hz #[7,Hz (j _ f (J4 ..))])
theorem Ap{Q:Option Hu->Hv->Prop}(h:A.handled=KL)(e:s.heap.IsKeyIter it d es.size es.size ep)(j:kr s.heap d es ep)
 (k:∀h',Heap.ExtBut it s.heap h'->Q KL { s with heap:=h' }):HJ (HP prog w) A (pyNext (.ref it)) Q E s:=by
 let[o,f,l,hd]:=id e
 let[od,g1,n,g]:=j
 have c:=e.typeIs
 unfold pyNext
 refine cc (wpAny_attempt (K5 (name:=Ja "__next__") c Jy (Kh Jy c F.entry_dict_keyiterator_next ?_ (F.args_dict_keyiterator_next_1 _))))
 refine cc (Hz (cc (cc ?_)))
 first|refine cc (K4 c (Hz ?_))|refine cc (wpAny_typeNameOf_keyiter c (Hz ?_))
 refine cc (wpAny_fieldsOf f hd ?_)
 simp only[show Builtin.Dict_items.ownsTuple "dict_keyiterator"=KO by decide,J1,if_false]
 show HJ _ _ (if(IY d==JB)=KN then _ else _) _ _ s
 rw[KP (show ¬((IY d==JB)=KN)from Ib)]
 refine cc (Hz (cc (wpAny_dictEntries g1 g ?_)))
 rw[KP (by simp)]
 refine cc (Hz (cc (wpAny_dictEpoch g1 g ?_)))
 rw[KP (by simp)]
 refine Hz ?_
 simp only[show ¬((es.size:Int)<0)from by omega,if_false,Ju,Array.getElem?_eq_none (HD es.size)]
 refine cc ?_
 first|refine cc (K4 c (Hz ?_))|refine cc (wpAny_typeNameOf_keyiter c (Hz ?_))
 show HJ _ _ (setField (.ref it) 0 .none >>= _) _ _ s
 refine cc (wpAny_setField f hd (by simp) ?_)
 show HJ _ _ (newExc (.type "StopIteration") [] >>= _) _ _ _
 refine cc ?_
 simp only[newExc,newTuple]
 refine cc (IT ?_ (by size_fits))
 refine cc (m:=firstArgMember _ _) (wpAny_of_eq (a:=JB) (by first|rfl|(simp only[firstArgMember];rfl)) ?_)
 refine IT ?_ (by size_fits)
 simp only[raiseNew]
 refine cc (wpAny_handled ?_)
 rw[show A.in1.handled=KL from h]
 refine cc (Hz (wpAny_throw ?_))
 refine cc (wpAny_isInstance (T:="StopIteration") (b:=KN) #[_,HG _ rfl,rfl] isSubtype_stop ?_)
 exact Hz (k _ (((J4 ..).extBut.push _).push _))
theorem vh(m:A.handled=KL)(I d:pd)(f:d≠I)(es:Array J7)(ep:Nat):Walks prog w A I [I,d] [I] es.size (λi v=>∃e,es[i]?=KJ e/\v=e.key) (λi h=>h.IsKeyIter I d i es.size ep/\kr h d es ep) where
 sub:=λb a=>by simp at a;simp[a]
 frame:=λ_ _ _ st j=>#[st.1.at λo e=>j I (by simp) o e,st.2.kept λo e=>j d (by simp) o e]
 item:=λi s Q E k st c=>xc st.1 st.2 k λg n l=>c _ g s.toks #[es[i],by simp[k],rfl] #[n,st.2.kept λo e=>(l.2 d f).trans e] λb o a e=>l.extBut b o (λh=>a (by simp[h])) e
 done:=λs Q E st c=>Ap m st.1 st.2 λg p=>c g s.toks λb o a e=>p b o (λh=>a (by simp[h])) e
 self:=λ_ _ _ _ st c=>wpAny_pyIter_keyiter st.1 c
theorem Ak(c:(d==JC)=KO):PySem.W.KdlSrc prog w "dict" d d es.size (λi v=>∃e,es[i]?=KJ e/\v=e.key) (λh=>kr h d es ep) where
 type:=λ_ a=>a.ty
 there:=λ_ a=>#[a.lt,a.lt]
 keep:=λ_ _ a f=>a.kept λo e=>f d (.inl rfl) o e
 notList:=⋯
 notTuple:=⋯
 hint:=λ_ _ _ _ a b=>PySem.W.kdl_hint_dict a.ty b
 iter:=λ_ _ g a=>#[_,_,(λ_ _ b=>yF c a b),vh g _ d (Ip a.lt) es ep,#[#[_,HG _ rfl,rfl,rfl],a.kept λo e=>Hx _ e]]
end
section
variable{X:Cx}
theorem wj{P:HW}{w:IA}{xs:List MS}{a:List (Lu×pd×Hu)}(r:KI QA xs a):(a.map (entryOfKey (d7 P w))).map (·.key)=xs.map λx=>IY x.2.1:=by
 induction r with
 |nil=>rfl
 |cons h t b=>simp only[HI,b,h.2.1];rfl
theorem nJ:∀xs:List MS,Vals (xs.map λx=>V.ref x.2.1) (xs.map λx=>IY x.2.1)
 |[]=>.nil
 |x::xs=>.cons rfl (nJ xs)
theorem p8(j:X.calm=KN):b5 X (.type "list") (λvs H Q=>∃p xs,vs=[.ref p]/\H p=KJ (.ext (bZ X.prog X.w p xs))/\∀l,H l=KL->Q (.ref l) (upd H l (.lst (xs.map λx=>V.ref x.2.1)))):=by
 intro KZ s σ H vs us Q I r k;let[p,xs,m,n,q]:=k;subst m;let[u,rfl,t]:=vals1 r;cases t;obtain⟨⟨h1,f,E,F,g,o,es,ep,v,y,z,h⟩,_⟩:=I.hok p _ n;have A:es.size=xs.length:=by rw[<-IW,h,Hw,k7 g]
 refine PySem.W.kdl_call (Ak (es:=es) (ep:=ep) h1) (I.ok.hd j) #[o,v,y,z] (by rw[A];exact f) λB C a c kp D it=>?_
 have ea:a.toList=xs.map λx=>IY x.2.1:=by
  rw[<-wj (P:=X.prog) (w:=X.w) g,<-h];apply List.ext_getElem?;intro i;by_cases d:i<es.size
  .have b:i<a.size:=by rw[it.1];exact d
   let[e,e1,e2]:=it.2 i a[i] (by simp[b]);simp[b,d]at e1 ⊢;rw[e2,<-e1]
  .have b:¬i<a.size:=by rw[it.1];exact d
   simp[d,b]
 refine #[.ref s.z,_,I.laid (t':=C) kp (HD _) (show bJ X.prog X.w _ B _ (.lst _)from #[by rw[Hw];exact f,_,c,nJ xs,?_]),rfl,q _ (I.hok.fresh (HD _))];rw[<-ea,Array.toArray_toList];exact D
def Cn:RC:=λa M Q=>zb a M Q\/∃l kvs,a=[.ref l]/\M l=KJ (MW kvs)/\∀p,M p=KL->Q (.ref p) (au M p (.lst (kvs.map λx=>OL x.1)))
theorem nM{K:Ht}{H:Hp}:∀{kvs:MP} {xs:List MS},xs.map (·.1)=kvs.map (·.1)->(∀x∈xs,dA K H x.2.1 x.1)->aC K H (kvs.map λx=>OL x.1) (xs.map λx=>V.ref x.2.1)
 |[],[],_,_=>by rw[Jm,Jm];exact aC.nil
 |y::kvs,x::xs,h,k=>by
  rw[HI,HI]at h
  injection h with e1 e2
  rw[HI,HI]
  exact aC.cons (by rw[<-e1];exact wy (k x (by simp))) (nM e2 λz a=>k z (by simp[a]))
 |[],_::_,h,_=>by cases h
 |_::_,[],h,_=>by cases h
theorem lj(e:X.calm=KN):d4 X (.type "list") Cn:=by
 intro KZ s σ H vs us Q I c f;let[g,M,R,d,a,q,fin]:=f;rcases q with q|⟨l,kvs,h,i,q⟩
 .exact AZ KZ s σ H vs us Q I c #[g,M,R,d,a,q,fin]
 .subst h;let[v,rfl,r]:=bP d;rw[Rep]at r;subst r;let[xs,h1,j,k,m]:=a.dsp i;exact p8 e KZ s σ H _ us Q I c #[_,xs,rfl,h1 _ _,λz b=>fin (.ref z) _ _ _ (.new b) (by rw[Rep]) (a.mj b (nM j k)) (q z (a.fresh b))]
end
def Lx(t b X Y:Int)(u:Vc):D:=LS (LK t b X 1 u.1) (LK t b Y 1 u.2)
def gk(t b X Y:Int)(u:Vc):Lu:=((LK t b X 1 u.1).num,((LK t b X 1 u.1).den:Int),(LK t b Y 1 u.2).num,((LK t b Y 1 u.2).den:Int))
theorem sJ(t b X Y:Int)(u:Vc):Lx t b X Y u=OL (gk t b X Y u):=rfl
theorem rH{t b X Y:Int}(a:0<t)(c:0<b){p q:Vc}(h:gk t b X Y p=gk t b X Y q):p=q:=by unfold gk at h;injection h with h1 h;injection h with d h;injection h with e f;have e1:LK t b X 1 p.1=LK t b X 1 q.1:=Rat.ext h1 (by exact_mod_cast d);have e2:LK t b Y 1 p.2=LK t b Y 1 q.2:=Rat.ext e (by exact_mod_cast f);have g:=(LQ a c ⋯ ⋯).mp e1;have i:=(LQ a c ⋯ ⋯).mp e2;exact Prod.ext () ()
def MD(u:Vc):Prop:=(0<=u.1/\u.1<=20)/\(0<=u.2/\u.2<=20)
def ea(w:Wl):Vc:=(w.1,w.2.1)
def eb(w:Wl):Vc:=(w.2.2.1,w.2.2.2)
theorem Le.ea{w:Wl}(h:Le w):MD (ea w):=#[h.a,h.b]
theorem Le.eb{w:Wl}(h:Le w):MD (eb w):=#[h.c,h.d]
def gL(us:List Vc)(u:Vc):List Vc:=if u∈us then us else us++[u]
theorem pZ{us:List Vc}{u v:Vc}:v∈gL us u↔v∈us\/v=u:=by
 unfold gL;split
 .constructor
  .exact .inl
  .rintro(h|rfl)
   .exact h
   .assumption
 .simp
theorem ue{us:List Vc}{u:Vc}(h:us.Nodup):(gL us u).Nodup:=by
 unfold gL;split
 .exact h
 .rename_i hn;rw[Kr];refine #[h,by simp,λa c b d e=>?_];have:b=u:=‹d›
  subst this;subst e;exact hn c
theorem lZ(us:List Vc)(u:Vc):(gL us u).length<=us.length+1:=by
 unfold gL;split
 .omega
 .simp
def Mp(ws:r3):Nat->List Vc
 |0=>[]
 |i+1=>match ws[i]? with
  |some w=>gL (gL (Mp ws i) (ea w)) (eb w)
  |none=>Mp ws i
theorem rM(ws:r3):∀i,(Mp ws i).Nodup
 |0=>List.nodup_nil
 |i+1=>by
  unfold Mp
  split
  .exact ue (ue (rM ws i))
  .exact rM ws i
theorem k8(ws:r3):∀i,(Mp ws i).length<=2*i
 |0=>HD _
 |i+1=>by
  have a:=k8 ws i
  unfold Mp
  split
  .have h1:=lZ (gL (Mp ws i) (ea (by assumption:_))) (eb (by assumption:_))
   have b:=lZ (Mp ws i) (ea (by assumption:_))
   omega
  .omega
theorem fM{ws:r3}{u:Vc}:∀i,u∈Mp ws i↔∃j w,j<i/\ws[j]?=KJ w/\(u=ea w\/u=eb w)
 |0=>by simp[Mp]
 |i+1=>by
  have c:=fM (ws:=ws) (u:=u) i
  unfold Mp
  split
  .rename_i w hw
   rw[pZ,pZ,c]
   constructor
   .rintro((⟨j,v,h1,b,a⟩|h)|h)
    .exact #[j,v,(),b,a]
    .exact #[i,w,(),hw,.inl h]
    .exact #[i,w,(),hw,.inr h]
   .rintro⟨j,v,h1,b,a⟩
    by_cases e:j=i
    .subst e
     rw[hw]at b;cases b
     rcases a with a|a
     .exact .inl (.inr a)
     .exact .inr a
    .exact .inl (.inl #[j,v,(),b,a])
  .rename_i hw
   rw[c]
   constructor
   .rintro⟨j,v,h1,b,a⟩
    exact #[j,v,(),b,a]
   .rintro⟨j,v,h1,b,a⟩
    by_cases e:j=i
    .subst e;rw[hw]at b;cases b
    .exact #[j,v,(),b,a]
theorem E9{ws:r3}(a:∀w∈ws,Le w){i:Nat}:∀u∈Mp ws i,MD u:=λu b=>by
 let[j,w,_,c,d]:=(fM i).mp b;have:=a w (HE c);rcases d with rfl|rfl
 .exact this.ea
 .exact this.eb
def OW(t b X Y:Int)(us:List Vc):MP:=us.map λu=>(gk t b X Y u,D.bl KN)
theorem zZ{t b X Y:Int}(a:0<t)(c:0<b)(us:List Vc)(u:Vc):putD (OW t b X Y us) (gk t b X Y u) (.bl KN)=OW t b X Y (gL us u):=by
 have ea:((OW t b X Y us).any λx=>decide (x.1=gk t b X Y u))=decide (u∈us):=by
  rw[Bool.eq_iff_iff,List.any_eq_true,decide_eq_true_eq];constructor
  .rintro⟨x,hx,e⟩;let[v,hv,rfl]:=IZ.mp hx;have:gk t b X Y v=gk t b X Y u:=‹e›
   rw[<-rH a c this];exact hv
  .intro h;exact #[_,IZ.mpr #[u,h,rfl],by simp]
 unfold putD gL;rw[ea];by_cases h:u∈us
 .rw[KQ ‹h›,KQ h];unfold OW;rw[Jb];refine Kb λv hv=>?_;dsimp only[Function.comp];split
  .rfl
  .rfl
 .rw[KP ‹h›,KP h];unfold OW;rw[Iu];rfl
theorem zD(u:Vc):¬MV u u:=λh=>by unfold MV at h;omega
theorem D1{ps:List Vc}{u:Vc}{j:Nat}(h:ps.Pairwise MV)(g:j<=ps.length)(h1:∀i,i<j->MV (p0 ps i) u)(d:∀i,j<=i->i<ps.length->MV u (p0 ps i)):(gi ps j u).Pairwise MV/\(gi ps j u).Perm (u::ps):=by
 constructor
 .unfold gi;rw[List.pairwise_append]
  have lt:∀x∈ps.take j,MV x u:=λx hx=>by
   let[i,b,rfl]:=List.getElem_of_mem hx
   have a:i<j/\i<ps.length:=by rw[JE]at b;omega
   have:=h1 i a.1
   unfold p0 at this
   simpa[a.2]using this
  have c:∀x∈ps.drop j,MV u x:=λx hx=>by
   let[i,b,rfl]:=List.getElem_of_mem hx
   have a:j+i<ps.length:=by rw[List.length_drop]at b;omega
   have:=d (j+i) () a
   unfold p0 at this
   simpa[a]using this
  refine #[h.sublist (List.take_sublist _ _),List.pairwise_cons.mpr #[c,h.sublist (List.drop_sublist _ _)],λx hx y hy=>?_];rcases II.mp hy with rfl|hy
  .exact lt x hx
  .have e:=lt x hx;have f:=c y hy;unfold MV at e f ⊢;omega
 .unfold gi;have:(ps.take j++u::ps.drop j).Perm (u::(ps.take j++ps.drop j)):=List.perm_middle
  rwa [List.take_append_drop]at this
theorem Ed{t b X Y:Int}(a:0<t)(c:0<b){u v:Vc}(d:MD u)(hv:MD v):LM (LK t b X 1 u.1) (LK t b Y 1 u.2) (LK t b X 1 v.1) (LK t b Y 1 v.2)↔MV u v:=oF a c d.2 hv.2
theorem MD.bx{t b X Y:Int}(S:MK t b X Y){u:Vc}(h:MD u):LL 200 (LK t b X 1 u.1):=S.bx ⋯ (by have:=h.1;omega)
theorem MD.by'{t b X Y:Int}(S:MK t b X Y){u:Vc}(h:MD u):LL 200 (LK t b Y 1 u.2):=S.by' ⋯ (by have:=h.2;omega)
theorem Al{u v:Vc}(a:MD u)(hv:MD v)(ne:u≠v)(h:¬MV u v):MV v u:=by
 have h1:=a.2;have b:=hv.2;unfold MV at h ⊢;by_cases e:100*u.1+u.2=100*v.1+v.2
 .exact absurd (Prod.ext () ()) ne
 .omega
section
variable{X:Cx}{KZ:p4}{σ:L2.St}{H:Hp}{s:Hv}{a b:pd}{k:Lu}
theorem wa{A:Iv}{E:Hu->Hv->Prop}{Q:Unit->Hv->Prop}{xs:List MS}{v:V}{u:Hu}(F:A.units+8<J9)(I:L2.Inv X KZ σ H s)(e:H a=KJ (.ext (bZ X.prog X.w a xs)))(i:∀x∈xs,dA X.K H x.2.1 x.1)(j:dA X.K H b k)(f:RelV v u)(G:xs.length<HR)
 (h:∀g,L2.Inv X KZ σ (upd H a (.ext (bZ X.prog X.w a (fW xs k b v)))) g->Q .unit g):HJ (HP X.prog X.w) A (dictSet a (.ref b) u) Q E s:=by
 let[hd,l,J,r,m]:=nO I e i
 refine wpAny_dictSet_heap (knd:=d7 X.prog X.w) (hsz:=by rw[<-k7 r];exact l) (():A.units+4<J9) (qd I j) m λL c n=>h _ ?_
 let[q,o,p,d,t,z,B,_,C]:=c
 refine iU I (by rw[e];exact JV) n #[q,d] #[#[hd,?_,?_,_,gW r k b f,q,o,p,d,t,z,B],#[q,d],λh1 D x y=>kJ h1 D x y]
 .have:=l9 xs k b v;omega
 .rw[<-jj (gW r k b f)];exact C
end
theorem rE{prog:HW}{w:IA}{A:Iv}{R:Result->Hv->Prop}{s:Hv}{kx g a b:pv}{d:ro}{scope:JH}{pos:Pos}{it:Hu}{D:pd}{env:Env}(J:Nat->Hv->Prop)
 (step:∀n s,J n s->HJ (HP prog w) A (pyNext it) (λr i=>match r with
  |none=>R (.ok .next) i
  |some v=>HJ (HP prog w) A (JP a it v) (λ_ k=>HJ (HP prog w) A (Kw a env v) (λ_ l=>
   HJ (HP prog w) A (forIn d KN λc r=>if r=KN then do let ok <-isTrue c env (eval c env);pure (K9 ok)else pure (K9 r)) (λok j=>
    if ok=KN then HJ (HP prog w) A (eval kx env) (λo p=>HJ (HP prog w) A (eval g env) (λq t=>HJ (HP prog w) A (dictSet D o q) (λ_ u=>∃m,m<n/\J m u) MJ t) MJ p) MJ j
    else ∃m,m<n/\J m j) MJ l) MJ k) MJ i) MJ s)
 (n:Nat) (h:J n s):JK (HP prog w) A (.compLoop (.DictComp kx g [#[a,b,d,0]] scope pos) 0 it (.ref D) env) R s:=by
 have f:∀{E:Hu->Hv->Prop} e y,MJ e y->E e y:=λ_ _ z=>z.elim
 refine codeAny_loop rfl J (λn s C=>?_) n h
 show HJ _ _ (Sem.onRaise (compTurn (.DictComp kx g [#[a,b,d,0]] scope pos) 0 it (.ref D) env) (λx=>do noteFrame x env;theTreesLotGoes x)) _ _ s
 refine wpAny_noted ?_
 rw[compTurn_dict]
 refine cc (Jv (cc (HQ (step n s C) (λr i h1=>?_) f)))
 cases r with
 |none=>exact Hz h1
 |some v=>
  refine cc (HQ h1 (λ_ k F=>cc (HQ F (λ_ l G=>cc (HQ G (λok j B=>?_) f)) f)) f)
  cases ok with
  |false=>exact Hz #[rfl,B]
  |true=>exact cc (cc (HQ B (λo p H=>cc (Jg (HQ H (λq t I=>cc (Jv (Jg (HQ I (λ_ u K=>Hz #[rfl,K]) f)))) f))) f))
def xF(X:Cx)(js:q7)(own:Own)(tc:TT)(tk te:TE)(σ:L2.St)(J:It)(H1:Hp)(Q:VK):Prop:=∀D,H1 D=KL->∃W:Nat->Nat->Hp->Prop,(∃m,W 0 m (upd H1 D (.ext (bZ X.prog X.w D []))))/\∀i m H,W i m H->
 (J.stop i H/\Q (.ref D) H)\/(J.go i H/\∀y d,J.yld i H y d->∃os,own y d os/\tc (cσ os js σ) d λb e=>if b=KN then
  tk (cσ os js σ) e λf g=>te (cσ os js σ) g λv c=>∃b k xs,f=.ref b/\c D=KJ (.ext (bZ X.prog X.w D xs))/\(∀x∈xs,dA X.K c x.2.1 x.1)/\dA X.K c b k/\xs.length<HR/\∃a,a<m/\W (i+1) a (upd c D (.ext (bZ X.prog X.w D (fW xs k b v))))else ∃a,a<m/\W (i+1) a e)
def oV(X:Cx)(js:q7)(own:Own)(a:TI)(tc:TT)(tk te:TE):TE:=λσ H Q=>a σ H λJ H1=>xF X js own tc tk te σ J H1 Q
section
variable{X:Cx}{xs:rx}{tg:pv}{pos:Pos}{js:q7}{scope:JH}{kx vx iter:pv}{ifs:ro}{tk te:TE}{tc:TT}{g:TG}{own:Own}{wi:TI}{KZ:p4}{σ:L2.St}{H:Hp}{s:Hv}{fp:rq}{it:pd}{tn:Nat->pq->Prop}{J:It}
theorem nK(c:L4 X xs js scope)(hc:X.calm=KN)(hG:Mx xs.length g own)(hg:∀C s H fp,PG (Lg X xs js scope C s H fp) tg g)(ht:∀C s H fp,QI (Lg X xs js scope C s H fp) ifs tc)(hk:∀C s H fp,PE (Lg X xs js scope C s H fp) kx tk)(he:∀C s H fp,PE (Lg X xs js scope C s H fp) vx te)(hu:X.A.units+8<J9)
 {R:Hu->pd->Result->Hv->Prop} {E:Hu->Hv->Prop} {Q:VK}
 (I:Inv X KZ σ H s) (T:Turn X.prog X.w X.K tg J fp it tn) (st:tn 0 s.heap) (hf:∀b∈fp,cH X KZ H b) (wc:xF X js own tc tk te σ J H Q)
 (hR:∀D C h G,Inv X KZ σ h G->cH X KZ h C->(∃m,G.heap.Ns C m)->Q (.ref D) h->R (.ref D) C (.ok .next) G) :
 HJ (HP X.prog X.w) X.A newDict (λd0 e0=>HJ (HP X.prog X.w) X.A (newFunctionEnv scope X.env.globals (eG scope.names X.env) [] X.env.qual KL .none (KJ X.env)) (λN f0=>
  JK (HP X.prog X.w) X.A (.compStart (.DictComp kx vx [#[tg,iter,ifs,0]] scope pos) 0 (.ref it) d0 { N with scope:=relabel scope X.env }) (R d0 N.locals) f0) E e0) E s:=by
 have g0:∀b∈fp,b<s.z:=λb a=>let⟨o,e,_⟩:=T.obj 0 _ st b a;HN e
 have hD:H s.z=KL:=I.hok.fresh (HD _)
 refine IT (nR ?_)
 generalize hh:s.heap.push { cls:=.type "dict",data:=.dict #[] }=f
 generalize h0:pushCells (({ s with heap:=f }:Hv).heap.push { cls:=.type "dict",data:=.dict #[] }) scope.names=j
 have k3:∀b o,s.heap.get? b=KJ o->f.get? b=KJ o:=λb o e=>by rw[<-hh];exact Hx _ e
 have I3:Inv X KZ σ (upd H s.z (.ext (bZ X.prog X.w s.z []))) { s with heap:=f }:=by
  rw[<-hh];exact uc I
 have l:∀b∈fp,cH X KZ (upd H s.z (.ext (bZ X.prog X.w s.z []))) b:=λb a=>#[by rw[aD (Ip (g0 b a))];exact(hf b a).1,(hf b a).2]
 have t0:f.objs.size=s.z+1:=by rw[<-hh,Jf]
 have i0:∀b∈fp,b<f.objs.size:=λb a=>by rw[t0];exact Nat.lt_succ_of_lt (g0 b a)
 have k4:∀b o,f.get? b=KJ o->j.get? b=KJ o:=λb o e=>by rw[<-h0];exact pushCells_keeps _ _ b o (Hx _ e)
 have I4:=lI c I3 l i0 (h':=j) h0.symm k4
 obtain⟨W,⟨m0,w0⟩,k0⟩:=wc _ hD
 have PH:tn 0 j:=T.keep 0 _ _ st λb a o e=>k4 b o (k3 b o e)
 generalize hX:Lg X xs js scope f.objs.size { s with heap:=f } (upd H s.z (.ext (bZ X.prog X.w s.z []))) fp=X' at I4
 have S:∀{pins':p4} {h:Hp} {L:L2.St} {G:Hv},Inv X' [] L h G->(∀b∈fp,h b=KL)->∀b∈fp,cH X' [] h b:=λ{pins' h L G} J' hn b a=>by
  subst hX
  let[a1,a2]:=J'.ok.exf b a
  exact #[hn b a,a1,J'.ok.exfs b a,.inl a,a2,λp hp=>absurd (show p∈([]:p4)from hp) (by simp)]
 have O:JK (HP X.prog X.w) X.A (.compLoop (.DictComp kx vx [#[tg,iter,ifs,0]] scope pos) 0 (.ref it) (.ref s.z) (ko scope f.objs.size X.env)) (R (.ref s.z) f.objs.size)
  { s with heap:=j }:=by
  refine rE (λn G=>∃i os h,os.length=xs.length/\Inv X' [] (cσ os js σ) h G/\tn i G.heap/\(∀b∈fp,h b=KL)/\W i n h) ?_ m0 #[0,_,_,by simp,I4,PH,λb a=>(l b a).1,w0]
  rintro n s5 ⟨i,os,H5,u0,I5,N1,n0,w5⟩
  rcases k0 i n H5 w5 with⟨stop,q⟩|⟨go,step⟩
  .subst hX
   refine HQ (T.done (Lg X xs js scope f.objs.size { s with heap:=f } (upd H s.z (.ext (bZ X.prog X.w s.z []))) fp) rfl rfl rfl hc i [] s5 _ H5 MJ I5 (S (pins':=[]) I5 n0) N1 stop) (λr s6 U=>?_) λ_ _ z=>z
   let[hr,I6]:=U
   subst hr
   refine hR _ _ H5 s6 (I3.xR I6.os I6.base I6.hok I6.bare λb a=>#[(l b a).2.2.2.1,(l b a).2.1,(l b a).2.2.2.2.1,(l b a).2.2.2.2.2]) (I3.pH (HD _) I6.free) (let⟨m,hm,_⟩:=I6.loc;#[m,hm]) q
  .subst hX
   refine HQ (T.item (Lg X xs js scope f.objs.size { s with heap:=f } (upd H s.z (.ext (bZ X.prog X.w s.z []))) fp) rfl rfl rfl hc i [] s5 _ H5 MJ I5 (S (pins':=[]) I5 n0) N1 go) (λr s6 V=>?_) λ_ _ z=>z
   let[u,hr,h6]:=V
   subst hr
   refine HQ h6 (λ_ s7 Y=>?_) λ_ _ z=>z
   let[y,H7,I7,r7,y7,Mv,v0]:=Y
   have x0:=I7.pinned (S (pins':=[]) I7 v0) (T.obj _ _ Mv)
   let[M,o0,q8]:=step y H7 y7
   have l8:=hG.len _ _ _ o0
   refine HQ (hg _ _ _ _ _ s7 _ H7 y u (λL h=>L=cσ M js σ/\h=H7) x0 r7 (hG.run y H7 os _ M _ u0 o0 #[rfl,rfl])) (λ_ s8 Z=>?_) λ_ _ z=>z
   let[j1,H8,I8,e8,y0]:=Z
   subst e8 y0
   refine HQ (ht _ _ _ _ _ s8 _ _ _ I8 q8) (λok s9 a0=>?_) λ_ _ z=>z
   let[H9,I9,q9]:=a0
   have P:∀{m':Nat} {x:Hp} {t:Hv},Inv (Lg X xs js scope f.objs.size { s with heap:=f } (upd H s.z (.ext (bZ X.prog X.w s.z []))) fp) ([]++gF fp s7.heap) (cσ M js σ) x t->m'<n->W (i+1) m' x->
    ∃m,m<n/\∃i os h,os.length=xs.length/\Inv (Lg X xs js scope f.objs.size { s with heap:=f } (upd H s.z (.ext (bZ X.prog X.w s.z []))) fp) [] (cσ os js σ) h t/\tn i t.heap/\(∀b∈fp,h b=KL)/\W i m h:=λ{m' x t} B F z0=>by
    refine #[m',F,i+1,M,x,l8,B.eD,T.keep _ _ _ Mv λb a o e=>(B.pin (b,o) (Ia _ (Ia _ (bH a e)))).1,λb a=>?_,z0]
    let[o',e,d]:=T.obj _ _ Mv b a
    exact(B.pin (b,o') (Ia _ (Ia _ (bH a e)))).2.1
   cases ok with
   |false=>
    rw[KP Ib]at q9 ⊢
    let[m',F,w9]:=q9
    exact P I9 F w9
   |true=>
    rw[KQ rfl]at q9 ⊢
    refine HQ (hk _ _ _ _ _ s9 _ _ _ I9 q9) (λkv t b0=>?_) λ_ _ z=>z
    let[kk,x,B,b1,c1]:=b0
    refine HQ (he _ _ _ _ _ t _ _ _ B c1) (λv k1 c0=>?_) λ_ _ z=>z
    let[vv,m1,d1,e1,b,k,ys,ek,q0,f1,g1,s0,m',F,h1]:=c0
    subst ek
    cases b1
    exact wa (X:=Lg X xs js scope f.objs.size { s with heap:=f } (upd H s.z (.ext (bZ X.prog X.w s.z []))) fp) hu d1 q0 f1 g1 e1 s0 λn1 i1=>P i1 F h1
 exact codeAny_compStart_dict O (T.self X.A 0 _ _ _ PH O)
theorem xt(c:L4 X xs js scope)(k:X.calm=KN)(l:PI X tg iter wi)(n:Mx xs.length g own)(p:∀C s H fp,PG (Lg X xs js scope C s H fp) tg g)(r:∀C s H fp,QI (Lg X xs js scope C s H fp) ifs tc)(t:∀C s H fp,PE (Lg X xs js scope C s H fp) kx tk)(u:∀C s H fp,PE (Lg X xs js scope C s H fp) vx te)(y:X.A.units+8<J9)(z:∀x,Ik iter X.env x=pure x:=by intro _;rfl) : PE X (.DictComp kx vx [#[tg,iter,ifs,0]] scope pos) (oV X js own wi tc tk te):=by intro KZ s σ H Q I h;rw[arm_eval_DictComp];refine JZ (use:=KL) rfl z (c.wB I.ok) c.kind c.names (Lc (l KZ s σ H _ I h) λv N h1=>Lc h1 λB O a=>?_);let[it,fp,tn,J,P,e,E,T,st,F,w]:=a;subst e;refine nK (R:=λi C=>compPost (HP X.prog X.w) X.A X.xe KL (EP X KZ σ Q) i C) c k n p r t u y E T st F w λD C G K L f d q=>?_;let[m,M]:=d;exact #[m,M,λS j=>#[.ref D,G,L.turned (t':=K.toks) (λb o ne e=>j.extBut b o ne e) f.1 f.2.1 f.2.2.2.1 f.2.2.2.2.1 f.2.2.2.2.2,rfl,q]]
theorem yp{i:Nat}{y:Str}{l j:Pos}(c:L4 X xs js scope)(F:X.calm=KN)(G:X.N.Nodup)(K:PI X tg iter wi)(L:Mx xs.length g own)(M:∀C s H fp,PG (Lg X xs js scope C s H fp) tg g)(O:∀C s H fp,QI (Lg X xs js scope C s H fp) ifs tc)(P:∀C s H fp,PE (Lg X xs js scope C s H fp) kx tk)(S:∀C s H fp,PE (Lg X xs js scope C s H fp) vx te)(U:X.A.units+8<J9)(hy:X.N[i]?=KJ y)(E:X.env.scope.names.lookup y=KJ .local)
 (p:JU (.DictComp kx vx [#[tg,iter,ifs,0]] scope pos) (KJ (.Name y l)) j.line X.env=pure KN) (V:∀x,Ik iter X.env x=pure x:=by intro _;rfl) :
 PS X (.Assign [.Name y l] (.DictComp kx vx [#[tg,iter,ifs,0]] scope pos) j) (AY (oV X js own wi tc tk te) (f6 i)):=by
 intro KZ s σ H B I h
 rw[exec_Assign_Name_used _ _ _ _ p]
 refine cc (Jv (cc ?_))
 show HJ _ X.A (do let _ <-comprehension (.DictComp kx vx [⟨tg,iter,ifs,0⟩] scope pos) scope X.env _ newDict KO (eval iter X.env) (KJ (Kw (.Name y l) X.env))) _ _ s
 refine cc (HQ (JZ (use:=KJ (Kw (.Name y l) X.env)) (Q:=λ_ n=>SP X KZ B .next n) rfl V (c.wB I.ok) c.kind c.names
  (Lc (K KZ s σ H _ I h) λv s1 h1=>Lc h1 λW s2 Y=>?_)) (λ_ n Z=>Hz (Hz Z)) λ_ _ e=>e)
 let[it,fp,tn,J,H2,e,I2,T,st,f2,w]:=Y
 subst e
 refine nK (R:=λr C=>compPost (HP X.prog X.w) X.A X.xe (KJ (Kw (.Name y l) X.env)) (λ_ n=>SP X KZ B .next n) r C) c F L M O P S U I2 T st f2 w λD C H' n I' k d q=>?_
 let[m,hm]:=d
 show HJ _ X.A (Kw (.Name y l) X.env (.ref D)) _ _ _
 refine wpAny_assign_Name (jW I' G hy (.inl E) (v:=.ref D) rfl (λs9 I9 f=>?_) (.inr E))
 let[a,sb,ha]:=f
 have t:C≠a:=by
  rcases ha with z|z
  .rw[z];exact k.2.1
  .exact λe=>k.2.2.2.2.1 y a z e.symm
 refine #[m,hm.sameBut sb t,λh' u=>?_]
 exact #[_,H',I9.turned (t':=s9.toks) (λb o ne e=>u.extBut b o ne e) k.1 k.2.1 k.2.2.2.1 k.2.2.2.2.1 k.2.2.2.2.2,q]
end
def Dy(I:OY)(tk:OO)(js:q7)(tc:MI)(g te:TD)(δ:DS)(a:MH)(Q:DK):Prop:=I.n<=900000/\∀p,a p=KL->∃W:Nat->MP->MH->Prop,W 0 [] (au a p (MW []))/\(∀i kvs M,i<=I.n->W i kvs M->I.C M)/\
 (∀i kvs d M,i<I.n->I.item i=KJ d->W i kvs M->∃os,vy tk d os/\tc (cδ os js δ) M λb c=>if b=KN then g (cδ os js δ) c λy h=>te (cδ os js δ) h λe f=>∃k,y=OL k/\f p=KJ (MW kvs)/\kvs.length<=i/\W (i+1) (putD kvs k e) (au f p (MW (putD kvs k e)))else W (i+1) kvs c)/\∀kvs M,W I.n kvs M->Q (.ref p) M
def kQ(a:My)(tk:OO)(js:q7)(tc:MI)(b te:TD):TD:=λδ M Q=>a δ M λI c=>Dy I tk js tc b te δ c Q
section
variable{X:Cx}
theorem mh{E:My}{tk:OO}{js:q7}{tc:MI}{F te:TD}{σ:L2.St}{H:Hp}{Q:VK}(h:lift X.K (kQ E tk js tc F te) σ H Q):oV X js (qe X.K tk) (lL X.K E) (liftT X.K tc) (lift X.K F) (lift X.K te) σ H Q:=by
 let[δ,M,R,G,hM,q,fin]:=h;refine #[δ,M,_,G,hM,q,λI M1 H1 J g1 L x z p A=>?_];let[hn,x]:=x;let[W,w0,hC,l,done]:=x p (L.fresh A);refine #[λi m g=>m=I.n-i/\i<=I.n/\L5 X.K H1 g/\∃kvs M,Lb X.K g M/\W i kvs M,#[I.n,by simp,J3 _,.new A,[],_,L.Bs _ _ A,w0],?_];rintro i m g ⟨rfl,B,f,kvs,j,r,o⟩;by_cases a:i<I.n
 .refine .inr #[z.go i g j a f r (hC _ _ _ B o),λv H3 hy=>?_];let[C,a3,d,ed,rd]:=z.yld i g j v H3 a f r (hC _ _ _ B o) hy;let[os,ow,q3]:=l i kvs d j a ed o;let[us,uv,su]:=pY rd ow;have D:=kW (js:=js) (G.mono ((g1.trans f).trans C)) su;refine #[us,uv,cδ os js δ,j,_,D,a3,q3,λb N H4 s O t=>?_];cases b with
  |false=>
   rw[KP Ib]at t ⊢
   exact #[I.n-(i+1),(),rfl,a,(f.trans C).trans s,kvs,N,O,t]
  |true=>
   rw[KQ rfl]at t ⊢
   refine #[cδ os js δ,N,_,D.mono s,O,t,λy M5 u H5 P r5 a5 q5=>#[cδ os js δ,M5,_,(D.mono s).mono P,a5,q5,λe M6 u6 S T r6 U c=>?_]]
   let[k,ey,e6,a0,w6]:=c
   subst ey
   let[b,rfl,sp]:=pP (r5.mono T)
   let[xs,h1,V,Y,h4]:=U.dsp e6
   have Z:xs.length=kvs.length:=by have:=congrArg List.length V;simpa using this
   have sz:1000000<=HR:=L8 rfl
   have g7:L5 X.K S (upd S p (.ext (bZ X.prog X.w p (fW xs k b u6)))):=.ext (h1 X.prog X.w)
   exact #[b,k,xs,rfl,h1 _ _,Y,sp,(),I.n-(i+1),(),rfl,a,((((f.trans C).trans s).trans P).trans T).trans g7,putD kvs k e,_,U.xv _ _ h1 V h4 Y sp r6,w6]
 .obtain rfl:i=I.n:=()
  exact .inl #[z.stop g j f r (hC _ _ _ B o),fin _ _ _ _ (g1.trans f) (by rw[Rep]) r (done kvs j o)]
variable{xs:rx}{tg:pv}{pos:Pos}{js:q7}{scope:JH}{kx vx iter:pv}{ifs:ro}{tx te:TD}{tc:MI}{g:TG}{tk:OO}{wd:My}
theorem yX(i:Nat){y:Str}{j e:Pos}(k:X.N.Nodup)(F:X.A.units+66<J9)(c:L4 X xs js scope)(l:X.calm=KN)(m:DI X tg iter wd)(n:Mx xs.length g (qe X.K tk))(o:∀C s H fp,PG (Lg X xs js scope C s H fp) tg g)(p:∀C s H fp,DTs (Lg X xs js scope C s H fp) ifs tc)(r:∀C s H fp,DE (Lg X xs js scope C s H fp) kx tx)(t:∀C s H fp,DE (Lg X xs js scope C s H fp) vx te) (hy:X.N[i]?=KJ y:=by rfl) (u:X.env.scope.names.lookup y=KJ .local:=by rfl) (h:JU (.DictComp kx vx [#[tg,iter,ifs,0]] scope pos) (KJ (.Name y j)) e.line X.env=pure KN:=by rfl) (f:∀x,Ik iter X.env x=pure x:=by intro _;rfl) : DSt X (.Assign [.Name y j] (.DictComp kx vx [#[tg,iter,ifs,0]] scope pos) e) (dw (kQ wd tk js tc tx te) (aW i)):=cA (yp (tk:=lift X.K tx) (te:=lift X.K te) (tc:=liftT X.K tc) c l k m n o p r t () hy u h f) λE σ H b=>by let[δ,M,f,a,B,ok,q]:=b;exact(mh #[δ,M,_,f,a,q,λd G v H1 g1 w z D=>ok.nx _ _ _ _ g1 ((f.mono g1).set w i) z D])
theorem vL(i:Nat){x v:Str}{b e a:Pos}(f:X.N.Nodup)(h:X.A.units+66<J9)(c:L4 X [x] js scope)(j:X.calm=KN)(k:DI X (.Name x b) iter wd)(l:∀C s H fp,DTs (Lg X [x] js scope C s H fp) ifs tc)(m:∀C s H fp,DE (Lg X [x] js scope C s H fp) kx tx)(n:∀C s H fp,DE (Lg X [x] js scope C s H fp) vx te) (hy:X.N[i]?=KJ v:=by rfl) (o:X.env.scope.names.lookup v=KJ .local:=by rfl) (d:JU (.DictComp kx vx [#[.Name x b,iter,ifs,0]] scope pos) (KJ (.Name v e)) a.line X.env=pure KN:=by rfl) (p:∀x,Ik iter X.env x=pure x:=by intro _;rfl) : DSt X (.Assign [.Name v e] (.DictComp kx vx [#[.Name x b,iter,ifs,0]] scope pos) a) (dw (kQ wd .one js tc tx te) (aW i)):=yX i f h c j k rL (λ_ _ _ _=>iN c 0 rfl) l m n hy o d p
end
section
variable{X:Cx}
def Be:Mh:=λx y M Q=>match x,y with
 |.ref a,.int k=>∃d,M a=KJ (.lst [d])/\0<=k/\k<=1000/\∀z,M z=KL->Q (.ref z) (au M z (.lst (Im k.toNat d)))
 |_,_=>False
theorem pX{K:Ht}{H:Hp}{d:D}{v:V}(r:Rep K H d v):∀n,aC K H (Im n d) (Im n v)
 |0=>by rw[List.replicate_zero,List.replicate_zero];exact .nil
 |n+1=>by rw[Jq,Jq];exact .cons r (pX r n)
theorem qk{a:Type}(v:a):∀n,(Im n [v]).flatten=Im n v
 |0=>rfl
 |n+1=>by rw[Jq,Kp,qk v n];rfl
theorem AN:Mi X (JR .Mult) Be:=ik DR λv u H Q e=>by
 let[x,y,M,R,f,g,a,q,fin]:=e;unfold Be at q;split at q
 .obtain⟨d,hd,h0,h1,q⟩:=q;obtain rfl:v=.ref _:=f;obtain rfl:u=.int _:=g;let[xs,hx,h]:=a _ _ hd;let[w,rfl,b]:=bP h;have sz:1000000<=HR:=L8 rfl;refine #[_,_,7,rfl,hx,(),(),by simp;omega,λz c=>?_];rw[qk];exact fin _ _ _ _ (.new c) (by rw[Rep]) (a.mj c (pX b _)) (q z (a.fresh c))
 .exact q.elim
end
section
theorem ly(a u:Hu):checkTypeCall "enumerate" #[[a],[("start",u)]]=pure .unit:=by kernel_rfl
theorem mI(a u:Hu):checkBuiltinCall "enumerate.__new__" #[[.type "enumerate",a],[("start",u)]]=pure .unit:=by kernel_rfl
theorem qQ(a b u:Hu):argsOk "object.__init__" #[[a,b],[("start",u)]]:=by unfold argsOk;rw[PySem.signature?_of (id:="object.__init__") (n:=['_','_','t','i','n','i','_','_']) (o:=['t','c','e','j','b','o']) (by kernel_rfl) F.owner_object];kernel_rfl
def lM(l it:pd):Obj×Obj:=({ cls:=.type "list_iterator",data:=.fields (List.toArray [.ref l,.int 0 0]) },{ cls:=.type "enumerate",data:=.fields (List.toArray [.none,.bool KO,.ref it,KD 1,.none,.none]) })
variable{prog:HW}{w:IA}{A:Iv}{E:Hu->Hv->Prop}{s:Hv}{l:pd}{items:Array Hu}{n:Nat}{t:Tok}{Q:Hu->Hv->Prop}
theorem vR(a:s.heap.get? l=KJ { cls:=.type "list",dict:=KL,data:=.seq items n,slots:=#[] })
 (h:Q (.ref (s.heap.push (lM l 0).1).objs.size) { s with heap:=(s.heap.push (lM l 0).1).push (lM l s.z).2 }) :
 HJ (HP prog w) A (KH.«enumerate.__new__» #[[.type "enumerate",.ref l],[("start",.int 1 t)]]) (λfin b=>∃v,fin=.done (.ret v)/\Q v b) E s:=by
 let[e,g,d,f,os]:=s
 have e1:=sub_enumerate
 have e2:Heap.IsList (Shared.heap #[e,g,d,f,os]) l items:=#[_,a,rfl,n,rfl]
 wp_walk using AutoSeq1.wpAny_loadPart' a
 refine wpAny_stack_any λst=>Hz ?_
 split
 case h_1 c _ _ _ _ _=>cases (c==KC "enumerate")<;>(wp_walk using AutoSeq1.wpAny_loadPart' a,wpAny_pyIter_list e2;exact #[7,h])
 all_goals (wp_walk using AutoSeq1.wpAny_loadPart' a,wpAny_pyIter_list e2;exact #[7,h])
theorem rT:Meets (KH.«enumerate.__new__» #[[.type "enumerate",.ref l],[("start",.int 1 t)]]) (λ_ R s=>s.heap.get? l=KJ { cls:=.type "list",dict:=KL,data:=.seq items n,slots:=#[] }/\R (.ok (.ret (.ref (s.heap.push (lM l 0).1).objs.size))) { s with heap:=(s.heap.push (lM l 0).1).push (lM l s.z).2 }):=.of_wp λprog w A R s z=>vR (Q:=λv a=>R (.ok (.ret v)) a) z.1 z.2
theorem ql{e:Hu}{u:Hu}:Meets (KH.«object.__init__» #[[e,.ref l],[("start",u)]]) (λ_ R s=>s.TypeIs e "enumerate"/\R (.ok (.ret .none)) s):=
 .of_wp λprog w A R s a=>by
  let[ty,r]:=a
  have e1:=F.called_enumerate.init.lookup
  have e2:=F.called_enumerate.made
  repeat (any_goals (first|assumption|wp_step))
  exact #[7,r]
theorem rY(m:s.heap.get? l=KJ { cls:=.type "list",dict:=KL,data:=.seq items n,slots:=#[] })
 (h:∀h',IsEnum h' (s.z+1) s.z 1 .none->h'.IsListIter s.z l 0->(∀b o,s.heap.get? b=KJ o->h'.get? b=KJ o)->Q (.ref (s.z+1)) { s with heap:=h' }) :
 HJ (HP prog w) A (call (.type "enumerate") [.ref l] [("start",.int 1 t)]) Q E s:=by
 have C:=F.called_enumerate
 let[c,p,u]:=C.mro
 have x:=C.made
 have y:=C.sub
 have B:=C.notType
 have D:=C.canCreate
 have G:=ly (.ref l) (.int 1 t)
 refine wpAny_call (codeAny_of_tree (Hz #[Code.quiet_builtin _ (by decide +kernel),codeAny_builtin F.entry_type_call ?_]))
 rw[Around.under_plain rfl rfl]
 repeat (any_goals (first|assumption|wp_step))
 have j:(s.heap.push (lM l 0).1).objs.size=s.z+1:=Jf ..
 have g1:IsEnum ((s.heap.push (lM l 0).1).push (lM l s.z).2) (s.z+1) s.z 1 .none:=by
  have:=HG (s.heap.push (lM l 0).1) (o:=(lM l s.z).2) rfl
  rw[j]at this;exact this
 have q:=h _ g1 #[_,Hx _ (HG _ rfl),rfl,rfl] λb o z=>Hx _ (Hx _ z)
 refine codeAny_mono (codeAny_call_builtin C.plain F.entry_enumerate_new (wpAny_of_eq (mI _ _) (rT prog w A.in1 (wants (λv k=>v=.ref (s.z+1)/\k.TypeIs v "enumerate"/\Q v k) E) s #[m,by rw[j];exact #[rfl,#[_,g1,rfl],q]]))) λr f i=>?_
 match r,i with
 |.error e,i=>exact i
 |.ok (.ret v),⟨ev,ty,qv⟩=>
  have H:=C.init.lookup
  have I:=C.init.bind v
  repeat (any_goals (first|assumption|wp_step))
  refine codeAny_mono (codeAny_call_builtin C.init.plain F.entry_object_init (C.init.check _ _ _ _ _ _ _ _ ty (qQ _ _ _) (ql prog w A.in1 (wants (λr d=>r=.none/\Q v d) E) f #[ty,rfl,qv]))) λg d a=>?_
  match g,a with
  |.error e,a=>exact a
  |.ok (.ret r),⟨er,q2⟩=>
   subst er
   repeat (any_goals (first|assumption|wp_step))
end
section
variable{X:Cx}{elts:ro}{kt:Nat}{pt:Pos}
theorem my{pos kp:Pos}{T:String}{e k:pv}{name:Str}{env:Env}{M:Model}{A:Iv}{E:Hu->Hv->Prop}{s:Hv}{Q:Hu->Hv->Prop}
 (h:HJ M A (spliced (Jc pos (HM [e] env))) (λvs b=>HJ M A (eval k env) (λu c=>HJ M A (call (.type T) vs [(name,u)]) Q E c) E b) E s)
 (i:Jc pos (HM [e] env)=(KO,eval e env)::Jc pos (HM [] env):=by rfl) (g:(Jc pos (HM [e] env)).any (·.1)=KO:=by rfl) :
 HJ M A (callWith pos (.type T) [] (Jc pos (HM [e] env)) (KG pos (JQ [#[KJ name,k,kp]] env))) Q E s:=by
 have j:HJ M A (evalArgs (.type T) KN (Jc pos (HM [e] env)) (KG pos (JQ [#[KJ name,k,kp]] env))) (λa b=>HJ M A (call (.type T) a.pos a.kw) Q E b) E s:=by
  rw[i]at h ⊢
  refine evalArgs_kwB rfl (HQ h (λvs b d=>?_) λ_ _ z=>z)
  exact kws_cons (HQ d (λu c f=>kws_nil f) λ_ _ z=>z)
 unfold callWith
 refine cc (Jg (HQ j (λa b d=>cc (Jv ?_)) λ_ _ z=>z))
 have l:(KG pos (JQ [#[KJ name,k,kp]] env)).any (·.1.isNone)=KO:=rfl
 simp only[g,l,Bool.or_false]
 exact cc (Hz (cc (HQ d (λr c m=>cc (Jg (wpAny_point (Hz m)))) λ_ _ z=>z)))
def C8(K:Ht)(b:TA):TI:=λσ H R=>b σ H λvs H1=>∃a xs,vs=[.ref a]/\H1 a=KJ (.lst xs)/\R (Yf K 1 a) H1
theorem xa{a k:pv}{j:TA}{p pos kp:Pos}(y:Gl X "enumerate")(B:X.mg "enumerate"=KL)(C:PA X [a] j)(g:∀KZ s σ H (Q:VK),Inv X KZ σ H s->Q (.int 1) H->HJ (HP X.prog X.w) X.A (eval k X.env) (EP X KZ σ Q) X.xe s)
 (m:HM [a] X.env=[(KO,eval a X.env)]:=by rfl):PI X (.Tuple elts kt pt) (.Call (.Name "enumerate" p) [a] [#[KJ "start",k,kp]] pos) (C8 X.K j):=by
 intro KZ s σ H R I h
 refine JW (gM I y B jk (my (Lc (C pos KZ s σ H _ I h) λus D ⟨vs,H1,E,F,G⟩=>?_) (by rw[m];rfl) (by rw[m];rfl)))
 let[l,xs,J,L,q]:=G
 subst J
 let[u,rfl,M]:=F.one
 cases M
 refine Lc (g KZ D σ H1 (λv N=>v=.int 1/\N=H1) E #[rfl,rfl]) λu c ⟨v,o,f,O,e1,e2⟩=>?_
 subst e1 e2
 let[t,rfl]:=O
 let[z,P,n,r,T,e]:=f.pV L
 refine rY e λU x i g=>wpAny_pyIter_enum x ?_
 have fp:∀b∈[c.z+1,c.z],cH X KZ o b:=λb S=>by
  have d:c.z<=b:=by
   rcases(show b=c.z+1\/b=c.z by simpa using S)with rfl|rfl
   .exact Nat.le_succ _
   .exact HD _
  exact f.pH d (f.hok.fresh d)
 exact #[_,[c.z+1,c.z],_,_,o,rfl,f.kept (t':=c.toks) g,vE 1 l _ _ (Nat.succ_ne_self _),#[#[_,x],i],fp,q]
def Dj(c:Ly):My:=λδ M R=>c δ M λe b=>∃l a,e=[.ref l]/\b l=KJ (.lst a)/\R #[a.length,λi=>(a[i]?).map λd=>.tup [.int ((i+1:Nat):Int),d],λM=>M l=KJ (.lst a)] b
theorem xg{a:pv}{c:Ly}{p pos kp f:Pos}{kc}(g:Gl X "enumerate")(h:X.mg "enumerate"=KL)(i:DA X [a] c)(b:HM [a] X.env=[(KO,eval a X.env)]:=by rfl):DI X (.Tuple elts kt pt) (.Call (.Name "enumerate" p) [a] [#[KJ "start",.Constant (.int 1) kc f,kp]] pos) (Dj c):=
 mi (xa g h i (λKZ s σ H Q I q=>yL KZ s σ H Q I q) b) λσ H R j=>by
  let[δ,M,u,b,k,q,fin]:=j
  exact #[δ,M,_,b,k,q,λw m vs H1 g1 n d ⟨l,x,e,o,t⟩=>by
   subst e
   let[v,rfl,r]:=bP n
   rw[Rep]at r;subst r
   let[xs,hx,y]:=d _ _ o
   exact #[l,xs,rfl,hx,fin _ m H1 _ g1 d t (zj 1)]]
end
section
variable{X:Cx}{KZ:p4}{σ:L2.St}{H:Hp}{s:Hv}
theorem j3{h':pq}{t':Nat}{ch:rq}(I:Inv X KZ σ H s)(k:∀b o,b∉ch->s.heap.get? b=KJ o->h'.get? b=KJ o)(f:∀b∈ch,cH X KZ H b):Inv X KZ σ H { s with heap:=h',toks:=t' }:=by
 have ne:∀b u,H b=KJ u->b∉ch:=λb u q d=>by rw[(f b d).1]at q;cases q
 refine I.step (g':=s.gens) (d':=s.drawn) (ch:=ch) (λb d=>?_) (λb o _ _ a q _=>k b o a q) (λb o _ _ a q _=>#[o.slots,k b o a q]) (λ_ _ _ _ n=>n) (λb o a q=>#[o,k b o a q]) (λ_ _ q=>q) (λ_ _ _ q=>q) (λb ps q=>#[#[],by rw[q];simp]) (λm e=>?_) (λb u q=>?_) I.bare
 .obtain⟨l,e1,_,e3,e4,g⟩:=f b d;exact #[e3,e1,e4,g]
 .obtain⟨o,h,i,j,r⟩:=e;exact #[o,h,i,k _ o (λd=>(f _ d).2.1 rfl) j,r]
 .refine(I.hok b u q).ff (λc v a z=>?_) (λ_ z=>z) λ_ _ z=>z;rcases a with y|y
  .subst y;exact k _ v (ne _ u q) z
  .exact k c v (ne c _ y) z
end
def Yz(K:Ht)(a b:pd):It:=
 #[λi H=>∃xs c x y,Ln K H a xs/\Ln K H b c/\xs[i]?=KJ x/\c[i]?=KJ y,λi H x d=>∃T y z,x=.ref T/\H T=KL/\d=upd H T (.tup [y,z])/\(∀xs,Ln K H a xs->xs[i]?=KJ y)/\∀c,Ln K H b c->c[i]?=KJ z,λi H=>∃xs c,Ln K H a xs/\Ln K H b c/\(xs.length<=i\/c.length<=i)]
theorem yr{P:HW}{w:IA}{K:Ht}{M:ro}{kt}{pt:Pos}(a b z TI TO j l:pd)(D:ZipApart z TI TO j l a b):Turn P w K (.Tuple M kt pt) (Yz K a b) [z,TI,TO,j,l] z (λi h=>IsZip h z TI TO .none/\IsPair h TI (.ref j) (.ref l)/\(∃p q,IsPair h TO p q)/\h.IsListIter j a i/\h.IsListIter l b i) where
 mem:=by simp
 obj:=λi h st c f=>by
  obtain⟨h1,m,⟨p,q,u⟩,A,B⟩:=st
  rcases(show c=z\/c=TI\/c=TO\/c=j\/c=l by simpa using f)with rfl|rfl|rfl|rfl|rfl
  .exact #[_,h1,λv y=>by cases (show Data.fields _=Data.cell v from y)]
  .exact #[_,m,λv y=>by cases (show Data.seq _ _=Data.cell v from y)]
  .exact #[_,u,λv y=>by cases (show Data.seq _ _=Data.cell v from y)]
  .obtain⟨o,C,_,d⟩:=A
   exact #[o,C,λv y=>by rw[d]at y;cases y]
  .obtain⟨o,C,_,d⟩:=B
   exact #[o,C,λv y=>by rw[d]at y;cases y]
 keep:=λi h N st k=>by
  obtain⟨h1,m,⟨p,q,u⟩,A,B⟩:=st
  exact #[k z (by simp) _ h1,k TI (by simp) _ m,#[p,q,k TO (by simp) _ u],A.at λo y=>k j (by simp) o y,B.at λo y=>k l (by simp) o y]
 item:=by
  intro X W Y Z f i KZ s σ H E I T st hg
  subst W Y Z
  let[xs,ys,x,y,r,t,hx,hy]:=hg
  obtain⟨h1,m,⟨p,q,u⟩,A,B⟩:=st
  let[O,F,p1,a0]:=I.list r
  let[Q,G,p2,b0]:=I.list t
  let[R,c0,d0]:=F.get hx
  let[S,e0,f0]:=G.get hy
  refine wpAny_pyNext_zip_item D h1 m u A B p1.isList p2.isList (x:=R) (y:=S) ‹c0› ‹e0› λN a1 a2 a3 a4 a5 a6 a7=>#[7,wpAny_letOwnedTupleGo_zip (s:={ s with heap:=N }) a1 λJ b1 U=>?_]
  have U:JI z N J:=U
  have fr:=I.fresh
  have lt:∀c∈[z,TI,TO,j,l],c<s.z:=λc f=>by
   rcases(show c=z\/c=TI\/c=TO\/c=j\/c=l by simpa using f)with rfl|rfl|rfl|rfl|rfl
   .exact HN h1
   .exact HN m
   .exact HN u
   .obtain⟨o,C,_⟩:=A;exact HN C
   .obtain⟨o,C,_⟩:=B;exact HN C
  have I1:Inv X KZ σ (upd H s.z (.tup [x,y])) { s with heap:=s.heap.push { cls:=.type "tuple",data:=.seq (List.toArray [R,S]) },toks:=s.toks }:=
   I.laid (λb v q=>Hx _ q) (HD _) #[L8 rfl,[R,S],.cons d0 (.cons f0 .nil),#[_,HG _ rfl,rfl,7],#[_,HG _ rfl,rfl]]
  have fk:∀c∈[z,TI,TO,j,l],cH X KZ (upd H s.z (.tup [x,y])) c:=λc f=>#[by rw[aD (Ip (lt c f))];exact(T c f).1,(T c f).2]
  have I2:Inv X KZ σ (upd H s.z (.tup [x,y])) { s with heap:=J,toks:=s.toks }:=by
   refine j3 (ch:=[z,TO,j,l]) (s:={ s with heap:=s.heap.push { cls:=.type "tuple",data:=.seq (List.toArray [R,S]) },toks:=s.toks }) I1 (λc o g q=>?_) λc f=>fk c (by simp at f ⊢;rcases f with rfl|rfl|rfl|rfl<;>simp)
   have q:(s.heap.push { cls:=.type "tuple",data:=.seq (List.toArray [R,S]) }).get? c=KJ o:=q
   simp at g
   refine(U.2 c g.1).trans ?_
   rcases Heap.get?_push_cases q with⟨rfl,rfl⟩|q
   .exact a5
   .exact a7 c o g.1 g.2.1 g.2.2.1 g.2.2.2 q
  have V:∀c o,c≠z->N.get? c=KJ o->J.get? c=KJ o:=λc o n e=>(U.2 c n).trans e
  refine #[.ref s.z,_,I2,rfl,#[_,x,y,rfl,fr,rfl,λzs L=>by rw[I.ji L r];exact hx,λzs L=>by rw[I.ji L t];exact hy],#[b1,V _ _ D.TIz (a7 _ _ D.TIz D.TITO D.TIi1 D.TIi2 m),#[_,_,V _ _ D.TOz a2],a3.at λo e=>V _ o D.i1z e,a4.at λo e=>V _ o D.i2z e],λc f=>(fk c f).1]
 done:=by
  intro X W Y Z f i KZ s σ H E I T st hg
  subst W Y Z
  let[xs,ys,r,t,he]:=hg
  obtain⟨h1,m,⟨p,q,u⟩,A,B⟩:=st
  let[O,F,p1,a0]:=I.list r
  let[Q,G,p2,b0]:=I.list t
  have l1:=F.length
  have l2:=G.length
  refine wpAny_pyNext_zip_end (I.ok.hd f) D h1 m u A B p1.isList p2.isList (he.imp (λe=>by simp;omega) λe=>by simp;omega) λN k=>#[rfl,?_]
  exact j3 (t':=s.toks) (ch:=[z,TO,j,l]) I (λc o g q=>by simp at g;exact k c o g.1 g.2.1 g.2.2.1 g.2.2.2 q) λc f=>T c (by simp at f ⊢;rcases f with rfl|rfl|rfl|rfl<;>simp)
 self:=λ_ _ _ _ _ st h=>wpAny_pyIter_zip st.1 h
theorem CI{n l1 l2:Nat}(a:l1<n)(b:l2<n):ZipApart (n+4) (n+2) (n+3) n (n+1) l1 l2:=by constructor<;>exact λe=>absurd (id e:@Eq Nat _ _) ()
theorem Dl:J5 "zip"=KJ (.type "zip"):=by decide +kernel
section
variable{X:Cx}{elts:ro}{kt:Nat}{pt:Pos}
def Gf(K:Ht)(c:TA):TI:=λσ H R=>c σ H λvs H1=>∃a b xs d,vs=[.ref a,.ref b]/\H1 a=KJ (.lst xs)/\H1 b=KJ (.lst d)/\R (Yz K a b) H1
theorem BW{a b:pv}{x:TA}{p pos:Pos}(A:Gl X "zip")(B:X.mg "zip"=KL)(C:PA X [a,b] x)(E:HM [a,b] X.env=(KO,eval a X.env)::HM [b] X.env:=by rfl)(j:(Jc pos (HM [b] X.env)).any (·.1)=KO:=by rfl):PI X (.Tuple elts kt pt) (.Call (.Name "zip" p) [a,b] [] pos) (Gf X.K x):=by
 intro KZ s σ H R I h;refine Call_ (gM I A B Dl (JG (Lc (C pos KZ s σ H _ I h) λus c d=>?_) E j));let[vs,H1,e,F,G]:=d;let[l1,l2,xs,V,J,k,l,q]:=G;subst J;let[W,Y,rfl,m,n]:=vals2 F;cases m;cases n;let[Z,f,L,M,N,e1]:=e.pV k;let[z2,g,O,P,Q,e2]:=e.pV l;have S:c.heap.IsList l1 f.toArray:=#[_,e1,rfl,L,rfl];have L2:c.heap.IsList l2 g.toArray:=#[_,e2,rfl,O,rfl];have o:=HN e1;have r:=HN e2;refine call_zip_2 S L2 λh' y t u v w T U=>wpAny_pyIter_zip y ?_
 have fp:∀b∈[c.z+4,c.z+2,c.z+3,c.z,c.z+1],cH X KZ H1 b:=λb z=>by
  have i:c.z<=b:=by simp at z;rcases z with rfl|rfl|rfl|rfl|rfl<;>first|exact Nat.le_add_right _ _|exact HD _
  exact e.pH i (e.hok.fresh i)
 have D:ZipApart (c.z+4) (c.z+2) (c.z+3) c.z (c.z+1) l1 l2:=by exact CI o r
 exact #[_,_,_,_,H1,rfl,e.kept (t':=c.toks) U,yr l1 l2 _ _ _ _ _ D,#[y,t,#[_,_,u],v,w],fp,q]
def FV(g:Ly):My:=λδ M R=>g δ M λh f=>∃a b c fs,h=[.ref a,.ref b]/\f a=KJ (.lst c)/\f b=KJ (.lst fs)/\R #[min c.length fs.length,λi=>(c[i]?).bind λd=>(fs[i]?).map λe=>.tup [d,e],λM=>M a=KJ (.lst c)/\M b=KJ (.lst fs)] f
theorem xZ{K:Ht}{B:Ly}:∀(σ:L2.St) (H:Hp) R,lL K (FV B) σ H R->Gf K (xB K B) σ H R:=
 λσ H R J=>by
  let[δ,M,Y,L,N,q,fin]:=J
  exact #[δ,M,_,L,N,q,λZ O vs H1 g1 P s Q=>by
   let[l1,l2,c,fs,e,t,u,S]:=Q
   subst e
   let[v1,v2,rfl,r,C]:=gc P
   rw[Rep]at r C;subst r C
   let[xs,hx,rs]:=s _ _ t
   let[U,hy,rt]:=s _ _ u
   refine #[l1,l2,xs,U,rfl,hx,hy,fin _ O H1 _ g1 s S #[λD k E j l=>?_,λi D k m E j l=>?_,?_]]
   .obtain⟨n,o⟩:=(show k l1=KJ (.lst c)/\k l2=KJ (.lst fs)from l)
    let[a,d,f]:=j _ _ n
    let[b,g,h]:=j _ _ o
    exists a,b,Ln.of d,Ln.of g
    show a.length<=min c.length fs.length\/b.length<=min c.length fs.length
    rw[<-f.length,<-h.length];omega
   .obtain⟨n,o⟩:=(show k l1=KJ (.lst c)/\k l2=KJ (.lst fs)from l)
    let[a,d,f]:=j _ _ n
    let[b,g,h]:=j _ _ o
    have m:i<min c.length fs.length:=m
    have h1:i<a.length:=by rw[<-f.length];omega
    have V:i<b.length:=by rw[<-h.length];omega
    exact #[a,b,a[i],b[i],Ln.of d,Ln.of g,by simp[h1],by simp[V]]
   .rintro i D k v H3 m E j l ⟨T,y,z,rfl,p,rfl,hy,W⟩
    let[n,o]:=(show k l1=KJ (.lst c)/\k l2=KJ (.lst fs)from l)
    have m:i<min c.length fs.length:=m
    have F:i<c.length:=()
    have G:i<fs.length:=()
    let[a,d,f]:=j _ _ n
    let[b,g,h]:=j _ _ o
    let[x,e1,e2]:=f.get (show c[i]?=KJ c[i] by simp[F])
    let[x',w,A]:=h.get (show fs[i]?=KJ fs[i] by simp[G])
    have t1:=hy a (Ln.of d)
    have I:=W b (Ln.of g)
    rw[e1]at t1;cases t1
    rw[w]at I;cases I
    exact #[.new p,j.new p,.tup [c[i],fs[i]],by simp[F,G],by rw[Rep];exact #[T,7,Lm.of aF,.cons (e2.mono (.new p)) (.cons (A.mono (.new p)) .nil)]]]
theorem wo{a b:pv}{d:Ly}{p pos:Pos}(e:Gl X "zip")(f:X.mg "zip"=KL)(g:DA X [a,b] d)(h:HM [a,b] X.env=(KO,eval a X.env)::HM [b] X.env:=by rfl)(c:(Jc pos (HM [b] X.env)).any (·.1)=KO:=by rfl):DI X (.Tuple elts kt pt) (.Call (.Name "zip" p) [a,b] [] pos) (FV d):=mi (BW e f g h c) xZ
end
structure Gs(g h:Int):Prop where
 g0:0<g
 g1:g<=12
 h0:0<=h
 h1:h<=24
def gp(g h:Int)(u:Vc):D:=.tup [.int (g*u.1-h),.int (g*u.2-h)]
def L9(g h:Int)(w:Wl):D:=.tup [gp g h (ea w),gp g h (eb w)]
theorem vD{g h a c:Int}(b:0<g):g*a-h<g*c-h↔a<c:=by
 constructor
 .intro e;exact Int.lt_of_mul_lt_mul_left (():g*a<g*c) ()
 .intro e;have:=Int.mul_lt_mul_of_pos_left e b;omega
theorem mf{g h a c:Int}(b:0<g):g*a-h=g*c-h↔a=c:=by have h1:=vD (h:=h) (a:=a) (c:=c) b;have d:=vD (h:=h) (a:=c) (c:=a) b;omega
theorem GZ{g h a c:Int}(b:0<g):g*a-h<=g*c-h↔a<=c:=by have d:=vD (h:=h) (a:=c) (c:=a) b;omega
theorem kR{g h a b c d:Int}(e:0<g):LX [g*a-h,g*b-h] [g*c-h,g*d-h]=LX [a,b] [c,d]:=by simp only[LX,vD e,mf e]
theorem sY{g h a b c d:Int}(e:0<g):LY [g*a-h,g*b-h] [g*c-h,g*d-h]=LY [a,b] [c,d]:=by simp only[LY,vD e,mf e,gt_iff_lt]
theorem tR{g h a b c d:Int}(e:0<g):LZ [g*a-h,g*b-h] [g*c-h,g*d-h]=LZ [a,b] [c,d]:=by simp only[LZ,vD e,mf e,GZ e]
theorem Eh(g h a b c d e f:Int):Mg (g*c-h-(g*a-h)) (g*d-h-(g*b-h)) (g*e-h-(g*a-h)) (g*f-h-(g*b-h))=(g*g)*Mg (c-a) (d-b) (e-a) (f-b):=by unfold Mg;grind
theorem FY{g:Int}(a:0<g)(z:Int):Ie (g*g*z)=Ie z:=by have b:=Ij a a;rw[Int.sign_mul,IE b,Int.one_mul]
theorem g8{g h x:Int}(G:Gs g h)(hx:0<=x/\x<=20):Bd 12 (g*x-h):=by have h1:=G.g0;have c:=G.g1;have d:=G.h0;have e:=G.h1;have a:g*x<=12*20:=Kz c hx.2 hx.1 ⋯;have b:0<=g*x:=Kj () hx.1;show(g*x-h).natAbs<2^12;omega
theorem rZ{g h:Int}(a:0<g)(u v:Vc):J0 (.tuple [.int (g*u.1-h),.int (g*u.2-h)]) (.tuple [.int (g*v.1-h),.int (g*v.2-h)])=decide (u=v):=by rw[zm,KU,mf a,mf a];exact #[λe=>Prod.ext e.1 e.2,λe=>by rw[e];exact #[rfl,rfl]]
def Lq(M:MH)(r:pd)(n:Nat):Prop:=∃a b c:Int,M r=KJ (.lst [.int a,.int b,.int c])/\0<=a/\0<=b/\b<2147483647/\0<=c/\c<=n
theorem Lq.le{M:MH}{r:pd}{n m:Nat}(h:Lq M r n)(l:n<=m):Lq M r m:=let⟨a,b,c,h1,d,e,f,g,i⟩:=h;#[a,b,c,h1,d,e,f,g,()]
theorem Lq.ne{M:MH}{r p:pd}{n:Nat}(h:Lq M r n)(a:M p=KL):r≠p:=let⟨_,_,_,h1,_⟩:=h;av h1 a
theorem Lq.new{M:MH}{r p:pd}{n:Nat}{o:MO}(h:Lq M r n)(d:M p=KL):Lq (au M p o) r n:=let⟨a,b,c,h1,e⟩:=h;#[a,b,c,by rw[ak (av h1 d)];exact h1,e]
theorem Lq.upd{M:MH}{r p:pd}{n:Nat}{o:MO}(h:Lq M r n)(ne:r≠p):Lq (au M p o) r n:=let⟨a,b,c,h1,d⟩:=h;#[a,b,c,by rw[ak ne];exact h1,d]
def Kx(xs:rq)(M b:MH):Prop:=∀a o,a∉xs->M a=KJ o->b a=KJ o
theorem Kx.refl{xs:rq}{M:MH}:Kx xs M M:=λ_ _ _ h=>h
theorem Kx.trans{xs:rq}{M c M2:MH}(a:Kx xs M c)(b:Kx xs c M2):Kx xs M M2:=λx o n h=>b x o n (a x o n h)
theorem Kx.upd{xs:rq}{M b:MH}{p:pd}{o:MO}(a:Kx xs M b)(c:p∈xs):Kx xs M (au b p o):=λx u n h=>by have ne:x≠p:=λe=>n (by rw[e];exact c);rw[ak ne];exact a x u n h
theorem Kx.new{xs:rq}{M b:MH}{p:pd}{o:MO}(a:Kx xs M b)(c:b p=KL):Kx xs M (au b p o):=λx u n h=>by rw[ak (av (a x u n h) c)];exact a x u n h
def WH(g h:Int)(w:Wl):K8:=.tuple [.tuple [.int (g*w.1-h),.int (g*w.2.1-h)],.tuple [.int (g*w.2.2.1-h),.int (g*w.2.2.2-h)]]
theorem wu{M:MH}(g h:Int):∀ws:r3,OF M (ws.map (L9 g h)) (ws.map (WH g h))
 |[]=>.nil
 |w::ws=>.cons (Pd.of rfl) (wu g h ws)
theorem wQ(g h:Int):∀ws:r3,JL (ws.map (WH g h))=KN
 |[]=>rfl
 |w::ws=>by rw[HI,JL,wQ g h ws];rfl
theorem xr(g h:Int):∀ws:r3,Jx (ws.map (WH g h))<=10
 |[]=>L8 rfl
 |w::ws=>by
  rw[HI,Jx]
  exact Nat.max_le.mpr #[L8 rfl,xr g h ws]
theorem uN(g h:Int)(ws:r3):JY (.list (ws.map (WH g h)))=KN:=by unfold JY;have h1:=wQ g h ws;have a:=xr g h ws;rw[Ji];refine #[by rw[PyData.canLay0];exact h1,KS ?_];rw[PyData.depth];omega
theorem rV(g h:Int):∀ws:r3,J0 (.list (ws.map (WH g h))) (.list [])=ws.isEmpty
 |[]=>by simp[J0,Jl]
 |w::ws=>by simp[J0,Jl]
theorem Ar{g h:Int}{ws:r3}{v:Int}(h0:0<=v)(h1:v<ws.length):∃w,w∈ws/\atI (ws.map (L9 g h)) v=KJ (L9 g h w):=by
 obtain⟨j,rfl⟩:∃j:Nat,v=(j:Int):=#[v.toNat,()];have a:j<ws.length:=()
 exact #[ws[j],IU a,bz (by simp[a])]
theorem Au{g h:Int}{w:Wl}(W:Le w){v:Int}(h0:0<=v)(h1:v<2):∃p,MD p/\atI [gp g h (ea w),gp g h (eb w)] v=KJ (gp g h p):=by
 rcases(():v=0\/v=1)with rfl|rfl
 .exact #[_,W.ea,rfl]
 .exact #[_,W.eb,rfl]
theorem ya{ws:r3}:PF ws↔ws.Pairwise Lv:=by
 rw[IQ];constructor
 .intro h i j b c a;exact h i j _ _ () (Hy b) (Hy c)
 .intro h i j U V a d e;let[b,rfl]:=HC.mp d;let[c,rfl]:=HC.mp e;rcases Nat.lt_or_gt_of_ne a with z|z
  .exact h i j b c z
  .exact(h j i c b z).swap
theorem ug{a b:r3}(p:b.Perm a)(h:PF a):PF b:=ya.mpr ((p.pairwise_iff λ{x y} z=>Lv.swap z).mpr (ya.mp h))
theorem B3{ws:r3}{w:Wl}{j:Nat}(h:PF ws)(hw:∀(t:Nat) (v:Wl),ws[t]?=KJ v->Lv w v):PF (gi ws j w):=ug (gT ws j w) (ug (List.perm_append_singleton w ws).symm (vK h hw))
theorem Ad{g h:Int}(d:0<g){u v:Vc}(i:MD u)(hv:MD v)(ne:u≠v):∃w:Wl,Le w/\(if LX [g*v.1-h,g*v.2-h] [g*u.1-h,g*u.2-h]=KN then[g*v.1-h,g*v.2-h]else[g*u.1-h,g*u.2-h])=[g*w.1-h,g*w.2.1-h]/\
 (if LY [g*v.1-h,g*v.2-h] [g*u.1-h,g*u.2-h]=KN then[g*v.1-h,g*v.2-h]else[g*u.1-h,g*u.2-h])=[g*w.2.2.1-h,g*w.2.2.2-h]:=by
 let[w,e1,e2,W]:=vF (p:=u.1) (q:=u.2) (e:=v.1) (f:=v.2) i.1 i.2 hv.1 hv.2 (λz=>ne (Prod.ext z.1 z.2))
 exists w,W,?_
 .rw[kR d]
  by_cases c:LX [v.1,v.2] [u.1,u.2]=KN
  .rw[KQ c]at e1 ⊢
   injection e1 with b a;injection a with a _
   rw[b,a]
  .rw[KP c]at e1 ⊢
   injection e1 with b a;injection a with a _
   rw[b,a]
 .rw[sY d]
  by_cases c:LY [v.1,v.2] [u.1,u.2]=KN
  .rw[KQ c]at e2 ⊢
   injection e2 with b a;injection a with a _
   rw[b,a]
  .rw[KP c]at e2 ⊢
   injection e2 with b a;injection a with a _
   rw[b,a]
theorem mS{b:Type}(f:b->D)(l:List b):cutD (l.map f) (KJ 1) KL=(l.drop 1).map f:=by
 unfold cutD;rw[show(KJ 1:rf)=KJ ((1:Nat):Int)from rfl,HT.Ac,HT.yD];cases l with
 |nil=>rfl
 |cons a l=>
  have:min 1 ((a::l).map f).length=1:=by simp
  rw[this]
  simp
  exact JN (by simp)
theorem wK{M:MH}:∀bs:List Bool,OF M (bs.map D.bl) (bs.map PyData.bool)
 |[]=>.nil
 |b::bs=>.cons (.bl b) (wK bs)
theorem yx:∀bs:List Bool,JL (bs.map PyData.bool)=KN
 |[]=>rfl
 |b::bs=>by rw[HI,JL,yx bs];rfl
theorem B5(c:Bool)(bs:List Bool):(bs.map PyData.bool).any (λq=>J0 q (.bool c))=bs.any (λb=>b==c):=by
 rw[List.any_map]
 congr 1
def Mr(m:Nat):Nat->r3
 |0=>(Kg 0 (m+1)).map λk:Nat=>Lw (k:Int)
 |i+1=>Mr m i++[Lp (i:Int) 0,Lp (i:Int) 1]
theorem oR(m:Nat):∀i,(Mr m i).length=m+1+2*i
 |0=>by simp[Mr]
 |i+1=>by rw[Mr,IJ,oR m i];simp;omega
theorem qt(m:Nat):∀i k,i+k=m->(Mr m i).Perm (OP (m:Int) i++(Kg i k).map λk:Nat=>Lw (k:Int))
 |0,k,e=>by
  obtain rfl:k=m:=()
  rw[Mr,OP,List.range'_concat,Iu]
  simpa using(List.perm_append_comm (l₁:=(Kg 0 k).map λk:Nat=>Lw (k:Int)) (l₂:=[Lw (k:Int)]))
 |i+1,k,e=>by
  have b:=qt m i (k+1) ()
  rw[List.range'_succ,HI]at b
  rw[Mr,OP]
  refine(b.append_right _).trans ?_
  rw[Kq,Kq]
  refine List.Perm.append_left _ ?_
  generalize (Kg (i+1) k).map (λk:Nat=>Lw (k:Int))=R
  have a:(Lw (i:Int)::R++[Lp (i:Int) 0,Lp (i:Int) 1]).Perm ([Lp (i:Int) 0,Lp (i:Int) 1]++(Lw (i:Int)::R)):=List.perm_append_comm
  exact a
theorem ua(m:Nat):(Mr m m).Perm (OP (m:Int) m):=by have:=qt m m 0 ();simpa using this
theorem GW(k:Int):L9 12 0 (Lw k)=.tup [.tup [.int (12*k),.int 0],.tup [.int (12*k),.int 12]]:=by simp[L9,gp,Lw,ea,eb]
theorem GN(k:Int):L9 12 0 (Lp k 0)=.tup [.tup [.int (12*k),.int 0],.tup [.int (12*k+12),.int 0]]/\L9 12 0 (Lp k 1)=.tup [.tup [.int (12*k),.int 12],.tup [.int (12*k+12),.int 12]]:=by
 have e:12*(k+1)=12*k+12:=()
 simp[L9,gp,Lp,ea,eb,e]
def raw(g h:Int)(w:Wl):Wl:=(g*w.1-h,g*w.2.1-h,g*w.2.2.1-h,g*w.2.2.2-h)
theorem xp(g h:Int):∀ws:r3,(ws.map (raw g h)).map uw=ws.map (L9 g h)
 |[]=>rfl
 |w::ws=>by rw[HI,HI,HI,xp g h ws];rfl
theorem DP{g h:Int}(G:Gs g h){w:Wl}(W:Le w):Yt (10^3) (raw g h w):=by
 have k:∀{x:Int},(0<=x/\x<=20)->-(10^3)<=g*x-h/\g*x-h<=10^3:=λ{x} hx=>by
  have h1:=G.g0
  have e:=G.g1
  have f:=G.h0
  have i:=G.h1
  have a:g*x<=12*20:=Kz e hx.2 hx.1 ⋯
  have b:0<=g*x:=Kj () hx.1
  omega
 exact #[k W.a,k W.b,k W.c,k W.d]
section
variable{X:Cx}
def yA:K8->Bool
 |.list _=>KN
 |.tuple _=>KN
 |_=>KO
structure Yd(P:K8):Prop where
 s:P.showable=KN
 d:P.hasDict=KO
 n:P.depth<=40
 l:P.shown.length<=HR
def Bb:RC:=λa M Q=>match a with
 |[d]=>∃P,Pd M d P/\yA P=KN/\Yd P/\Q (.str P.shown) M
 |_=>False
theorem tu(f:X.A.guards=KJ [])(w:X.A.units+64<J9):d4 X (.builtin "repr") Bb:=by
 intro KZ s σ H vs us Q I r ⟨x,M,R,i,a,q,fin⟩;unfold Bb at q;split at q
 .obtain⟨P,j,di,S,q⟩:=q;let[v,rfl,k]:=bP i;let[u,rfl,m]:=vals1 r;let[y,c]:=cm I a j k m;obtain⟨b,rfl⟩:∃b,u=.ref b:=by cases c<;>first|exact #[_,rfl]|cases di
  let[h,g,d,t,os]:=s;refine repr_of_reads' (h₀:=h) c S.s (λz=>by rw[S.d]at z;cases z) f (by have:=S.n;omega) (λ_ _ e=>e) (λh' u o p=>?_) S.l;have It:=I.kept (h':=h') (t':=o) p;exact #[.str P.shown,H,It,#[u,rfl],fin _ _ _ _ .refl (by rw[Rep]) a q]
 .exact q.elim
def EH:Mh:=λx y M Q=>match x,y with
 |.str a,.str b=>a=b/\Q (.bl KN) M
 |_,_=>False
theorem D7:Mi X (IM .Eq) EH:=by
 intro KZ s σ H v u f g Q I d e h;let[x,y,M,R,b,c,a,q,fin]:=h;unfold EH at q;split at q
 .obtain⟨rfl,q⟩:=q;rw[Rep]at b c;subst b c;let[t1,rfl]:=d;let[i,rfl]:=e;refine PySem.P.eq_str ?_;rw[beq_self_eq_true];exact #[.bl KN,H,I,rfl,fin _ _ _ _ .refl (by rw[Rep]) a q]
 .exact q.elim
theorem tj:J5 "repr"=KJ (.builtin "repr"):=boot_repr
end
theorem ux{ws:r3}:∀{i:Nat} {rs:p_},WY ws i rs->rs.length<=i
 |0,rs,h=>by rw[show rs=[]from h];simp
 |i+1,rs,⟨qs,h1,h2⟩=>by
  have:=ux h1
  rcases h2 with⟨_,rfl⟩|⟨_,r,_,rfl⟩
  .omega
  .simp;omega
structure Wk(ws:r3)(r:q7):Prop where
 rng:Zw ws r
 len:r.length<=2*ws.length
 lt:∀g∈r,g<2*ws.length
 pos:0<r.length
theorem oz{ws:r3}(a:∀w∈ws,Le w)(hF:PF ws):∀{i:Nat} {rs:p_},i<=2*ws.length->WY ws i rs->∀r∈rs,Wk ws r
 |0,rs,_,h,r,hr=>by rw[show rs=[]from h]at hr;cases hr
 |i+1,rs,hi,⟨qs,h1,h2⟩,r,hr=>by
  rcases h2 with⟨_,rfl⟩|⟨_,f,⟨b,n,e,rfl⟩,rfl⟩
  .exact oz a hF () h1 r hr
  .rcases HX.mp hr with z|z
   .exact oz a hF () h1 r z
   .have:r=rn ws i b:=‹z›
    subst this
    have d:=sX a hF (():i<2*ws.length) n
    refine #[#[i,b,(),d,rfl,e],by rw[jN];omega,λg c=>?_,by rw[jN];omega]
    unfold rn at c
    let[j,_,rfl]:=IZ.mp c
    exact jy a hF () j
theorem RL.get{M:MH}{ps:rq}{rs:p_}(h:RL M ps rs){i:Nat}(b:i<ps.length):∃r,rs[i]?=KJ r/\M ps[i]=KJ (.lst (r.map sg)):=by
 unfold RL at h
 induction h generalizing i with
 |nil=>simp at b
 |@cons p r ps rs a _ ih=>
  cases i with
  |zero=>exact #[r,rfl,a]
  |succ i=>simpa using ih ‹b›
theorem yz{ws:r3}(e:∀w∈ws,Le w){g:Nat}(i:g<2*ws.length):MD (fa ws g):=by
 let[_,_,f]:=aQ (ws:=ws) (k:=((g/2:Nat):Int)) () ();have W:=e _ f;unfold fa fw;by_cases h:g%2=0
 .rw[KQ h];exact #[W.a,W.b]
 .rw[KP h];exact #[W.c,W.d]
theorem uf{n j:Nat}(h:j<n):L2.ixN n (j:Int)=KJ j:=by unfold L2.ixN;rw[KQ (),KQ ()];rfl
def Ld(v:Int):Prop:=0<=v/\v<=80
theorem jf(k:Lu)(d:D)(c:Lu):∀kvs:MP,((kvs.map λx=>if x.1=k then(x.1,d)else x).find? λx=>decide (x.1=c)).map (·.2)=if c=k/\(kvs.any λx=>decide (x.1=k))=KN then KJ d else(kvs.find? λx=>decide (x.1=c)).map (·.2)
 |[]=>by simp
 |x::kvs=>by
  have f:=jf k d c kvs
  rw[HI,Iq,Iq,Ke]
  by_cases a:x.1=k
  .rw[KQ a]
   by_cases b:x.1=c
   .have e:c=k:=b.symm.trans a
    simp[a,e]
   .have ne:¬c=k:=λz=>b (a.trans z.symm)
    rw[KP (λz=>ne z.1)]
    rw[KP (λz=>ne z.1)]at f
    simp only[KR b]
    exact f
  .rw[KP a]
   by_cases b:x.1=c
   .have ne:¬c=k:=λz=>a (b.trans z)
    rw[KP (λz=>ne z.1)]
    simp[b]
   .simp only[KR b,KR a,Bool.false_or]
    exact f
theorem qj(kvs:MP)(k:Lu)(d:D)(a:Lu):dz (putD kvs k d) a=if a=k then KJ d else dz kvs a:=by
 unfold putD dz;by_cases h:(kvs.any λx=>decide (x.1=k))=KN
 .rw[KQ h,jf];by_cases e:a=k
  .rw[KQ #[e,h],KQ e]
  .rw[KP (λz=>e z.1),KP e]
 .rw[KP h,List.find?_append];by_cases e:a=k
  .subst e;have:(kvs.find? λx=>decide (x.1=a))=KL:=by rw[List.find?_eq_none];intro x hx b;exact h (List.any_eq_true.mpr #[x,hx,b])
   rw[this,KQ rfl];simp
  .rw[KP e];have:([(k,d)]:MP).find? (λx=>decide (x.1=a))=KL:=by simp;exact λz=>e z.symm
   rw[this];simp
theorem pj(kvs:MP)(k:Lu)(d:D):(putD kvs k d).map (·.1)=if k∈kvs.map (·.1)then kvs.map (·.1)else kvs.map (·.1)++[k]:=by
 unfold putD;have e:((kvs.any λx=>decide (x.1=k))=KN)↔k∈kvs.map (·.1):=by rw[List.any_eq_true,IZ];exact #[λc=>by let[x,a,b]:=c;exact(#[x,a,‹b›]),λf=>by let[x,a,b]:=f;exact(#[x,a,‹b›])]
 by_cases h:k∈kvs.map (·.1)
 .rw[KQ (e.mpr h),KQ h,Jb];apply Kb;intro x _;show(if x.1=k then(x.1,d)else x).1=x.1;split<;>rfl
 .rw[KP (λz=>h (e.mp z)),KP h,Iu];rfl
section
variable{X:Cx}{x y:Str}{px py pt pos:Pos}{kt:Nat}{js:q7}{scope:JH}{kx vx iter:pv}{ifs:ro}{tx te:TD}{tc:MI}{wd:My}
theorem uS(i:X.A.units+66<J9)(c:L4 X [x,y] js scope)(a:X.calm=KN)(b:DI X (.Tuple [.Name x px,.Name y py] kt pt) iter wd)(d:∀C s H fp,DTs (Lg X [x,y] js scope C s H fp) ifs tc)(e:∀C s H fp,DE (Lg X [x,y] js scope C s H fp) kx tx)(f:∀C s H fp,DE (Lg X [x,y] js scope C s H fp) vx te) (g:∀x,Ik iter X.env x=pure x:=by intro _;rfl):DE X (.DictComp kx vx [#[.Tuple [.Name x px,.Name y py] kt pt,iter,ifs,0]] scope pos) (kQ wd (.many 2) js tc tx te):=aY (xt (tk:=lift X.K tx) (te:=lift X.K te) (tc:=liftT X.K tc) c a b xH (λ_ _ _ _=>tZ c a) d e f () g) λ_ _ _ h=>mh h
end
section
variable{X:Cx}
theorem uY(g:X.calm=KN):b5 X (.builtin "any") (λxs H Q=>∃(p:pd) (bs:List Bool),xs=[.ref p]/\Ln X.K H p (bs.map V.bl)/\Q (.bl (bs.any id)) H):=by
 intro KZ s σ H xs us Q I r h;let[l,bs,e,j,k]:=h;subst e;let[u,rfl,m]:=vals1 r;cases m;let[c,n,o,_]:=I.list j;have hv:=lR n;have d:=o.isList;have lt:l≠s.z:=Ip (let⟨_,e,_⟩:=d;HN e);refine call_any_walk (x:=.ref l) (wpAny_pyIter_list d #[s.z,[s.z,l],[s.z],c.toArray.size,_,_,λi=>(bs[i]?).getD KO,rfl,Walks.list (A:=X.A.in1) (I.ok.hd g) _ l lt c.toArray,#[#[_,HG _ rfl,rfl,rfl],d.push _],λi v q t B w y=>?_,λC D z=>?_])
 .have a:c[i]?=KJ v:=‹w›
  rw[hv,HF]at a;cases eb:bs[i]? with
  |none=>rw[eb]at a;cases a
  |some b=>
   rw[eb]at a
   cases a
   have f:t b q:=by simpa[eb]using y
   exact JJ f
 .rw[show((HK c.toArray.size).any λi=>(bs[i]?).getD KO)=bs.any id by rw[HL,hv,Hw];exact LSm.range_any bs];exact #[.bl (bs.any id),H,I.kept (LSm.kept_iter z),rfl,k]
def Fl:RC:=λa M Q=>match a with
 |[.ref l]=>∃bs:List Bool,M l=KJ (.lst (Jp D.bl bs))/\Q (.bl (bs.any id)) M
 |_=>False
theorem C0(b:X.calm=KN):d4 X (.builtin "any") Fl:=cj (uY b) λvs H Q c=>by
 let[g,M,R,d,a,q,fin]:=c;unfold Fl at q;split at q
 .obtain⟨bs,e,q⟩:=q;let[v,rfl,r]:=bP d;rw[Rep]at r;subst r;let[xs,hx,f]:=a _ _ e;rw[pU f]at hx;exact #[_,bs,rfl,Ln.of hx,fin _ _ _ _ .refl (by rw[Rep]) a q]
 .exact q.elim
theorem Eb:J5 "any"=KJ (.builtin "any"):=by decide +kernel
end
def QE(f:Str)(d:D):List (Str×D)->List (Str×D)
 |[]=>[(f,d)]
 |(g,x)::r=>if g=f then(g,d)::r else(g,x)::QE f d r
def gG(K:Ht)(H:Hp):List (Str×D)->List (Str×V)->Prop
 |[],[]=>True
 |p::ps,q::qs=>p.1=q.1/\Rep K H p.2 q.2/\gG K H ps qs
 |_,_=>False
section
variable{K:Ht}{H H':Hp}
theorem gG.mono(g:L5 K H H'):∀{fs:List (Str×D)} {vs:List (Str×V)},gG K H fs vs->gG K H' fs vs
 |[],[],_=>trivial
 |_::_,_::_,h=>#[h.1,h.2.1.mono g,gG.mono g h.2.2]
 |[],_::_,h=>h.elim
 |_::_,[],h=>h.elim
theorem gG.len:∀{fs:List (Str×D)} {vs:List (Str×V)},gG K H fs vs->vs.length=fs.length
 |[],[],_=>rfl
 |_::_,_::_,h=>by rw[Io,Io,gG.len h.2.2]
 |[],_::_,h=>h.elim
 |_::_,[],h=>h.elim
theorem gG.get{f:Str}:∀{fs:List (Str×D)} {vs:List (Str×V)},gG K H fs vs->(∀d,fs.lookup f=KJ d->∃v,vs.lookup f=KJ v/\Rep K H d v)/\(fs.lookup f=KL->vs.lookup f=KL)
 |[],[],_=>#[λ_ e=>(by cases e),λ_=>rfl]
 |(g,x)::r,(g',y)::r',h=>by
  let[e,h1,a]:=h
  have e:g=g':=e
  subst e
  have b:=gG.get (f:=f) a
  simp only[List.lookup]
  cases f==g with
  |true=>exact #[λd e=>(by cases e;exact #[y,rfl,h1]),λe=>(by cases e)]
  |false=>exact b
 |[],_::_,h=>h.elim
 |_::_,[],h=>h.elim
theorem gG.put{f:Str}{d:D}{v:V}(r:Rep K H d v):∀{fs:List (Str×D)} {vs:List (Str×V)},gG K H fs vs->gG K H (QE f d fs) (fJ f v vs)
 |[],[],_=>#[rfl,r,trivial]
 |(g,x)::q,(g',y)::q',h=>by
  let[e,h1,a]:=h
  have e:g=g':=e
  subst e
  unfold QE fJ
  by_cases z:g=f
  .rw[KQ z,KQ z];exact #[rfl,r,a]
  .rw[KP z,KP z];exact #[rfl,h1,gG.put r a]
 |[],_::_,h=>h.elim
 |_::_,[],h=>h.elim
end
def dU(C:pd)(fs:List (Str×D)):MO:=.gen λK H a=>∃b vs,H a=KJ (.ins C b vs)/\gG K H fs vs
theorem Eo{K:Ht}{H:Hp}{a C b:pd}{fs:List (Str×D)}{vs:List (Str×V)}(h:H a=KJ (.ins C b vs))(r:gG K H fs vs):mO K H a (dU C fs):=#[#[b,vs,h,r],by rw[h];simp,λc g e=>#[b,vs,e.trans h,r.mono g]]
theorem Lb.GJ{K:Ht}{H:Hp}{M:MH}{p:pd}{o:HO}{m:MO}(h:Lb K H M)(g:L5 K H (upd H p o))(q:mO K (upd H p o) p m):Lb K (upd H p o) (au M p m):=λa u e=>by
 by_cases ne:a=p
 .subst ne;rw[ag]at e;cases e;exact q
 .rw[ak ne]at e;exact(h a u e).ff g (aD ne)
def FX(K:Ht)(c:TD)(f:Str):TD:=λδ M Q=>c δ M λx b=>∃a C fs d,x=.ref a/\b a=KJ (dU C fs)/\Cls K C/\bS K C f/\fs.lookup f=KJ d/\Q d b
def E7(K:Ht)(c d:TD)(f:Str):MN:=λB δ M=>d δ M λy e=>c δ e λx b=>∃a C fs,x=.ref a/\b a=KJ (dU C fs)/\Cls K C/\bS K C f/\fs.length<1000/\B.nx δ (au b a (dU C (QE f y fs)))
def vC(P:HW)(w:IA)(K:Ht)(mg:Str->Option Hu)(base:pq)(k:Nat)(C:pd)(m:Str)(sp:Lz):Prop:=
 ∃f fd ps,MA P w K mg base Mt k f fd ps (dJ K sp)/\Meth K C m f/\Binds K fd ps []
def va(P:HW)(w:IA)(K:Ht)(mg:Str->Option Hu)(base:pq)(k:Nat)(c:Str)(C:pd)(sp:Lz):Prop:=
 ∃f fd ps,MA P w K mg base Mt k f fd ps (dJ K sp)/\L2.Mk K C f/\Binds K fd ps []/\mg c=KJ (.ref C)
def vb(P:HW)(w:IA)(K:Ht)(mg:Str->Option Hu)(base:pq)(k:Nat)(c m:Str)(sp:Lz):Prop:=
 ∃S f fd ps,MA P w K mg base Mt k f fd ps (dJ K sp)/\Je K (.ref f)=KN/\Binds K fd ps []/\mg c=KJ (.ref S)/\
  PySem.W.specialIn K (.ref S) "__getattribute__"=KJ (KJ (.builtin "type.__getattribute__"))/\PySem.W.readsIn K S (.type "type")=KN/\PySem.W.findCls K (.ref S) (.type "type") m=KJ (.val (.ref f))
section
variable{P:HW}{w:IA}{K:Ht}{mg:Str->Option Hu}{base:pq}{j k:Nat}{C:pd}{c m:Str}{sp:Lz}
theorem vC.mono(h:vC P w K mg base j C m sp)(l:j<=k):vC P w K mg base k C m sp:=let⟨f,fd,ps,F,r⟩:=h;#[f,fd,ps,F.mono l,r]
theorem va.mono(h:va P w K mg base j c C sp)(l:j<=k):va P w K mg base k c C sp:=let⟨f,fd,ps,F,r⟩:=h;#[f,fd,ps,F.mono l,r]
theorem vb.mono(h:vb P w K mg base j c m sp)(l:j<=k):vb P w K mg base k c m sp:=let⟨S,f,fd,ps,F,r⟩:=h;#[S,f,fd,ps,F.mono l,r]
end
def D4(C:pd)(m:Str)(sp:Lz)(c:TD)(t:Ly):TD:=λδ M Q=>c δ M λx b=>∃a fs,x=.ref a/\b a=KJ (dU C fs)/\fs.lookup m=KL/\t δ b λd e=>sp (x::d) e Q
def C6(C:pd)(sp:Lz)(t:Ly):TD:=λδ M Q=>t δ M λb a=>∀x,a x=KL->sp (.ref x::b) (au a x (dU C [])) λv c=>v=.non/\Q (.ref x) c
section
variable{X:Cx}{k:Nat}{C:pd}{x c m f:Str}{sp:Lz}{p np pos pos' apos:Pos}{o e value:pv}{es:ro}{ta tv:TD}{t:Ly}
theorem dW(i:DE X o ta)(j:JX o f X.env (eval o X.env)=eval o X.env:=by rfl):DE X (.Attribute o f pos) (FX X.K ta f):=
 aY (DC i j) λσ H Q b=>by let[δ,M,R,r,s,q,fin]:=b;exact(#[δ,M,_,r,s,q,λx F v H1 g1 g h z=>by
  let[a,C,fs,d,ex,h1,c,n,l,w]:=z
  subst ex
  rw[Rep]at g;subst g
  obtain⟨⟨y,vs,A,B⟩,_⟩:=h _ _ h1
  let[u,D,E]:=B.get.1 d l
  exact #[a,C,y,vs,u,rfl,A,c,n,D,fin _ _ _ _ g1 E h w]])
theorem eJ(hv:DE X value tv)(D:DE X o ta)(d:JU value (KJ (.Attribute o f pos')) pos.line X.env=pure KO:=by rfl):DSt X (.Assign [.Attribute o f pos'] value pos) (E7 X.K ta tv f):=
 cA (Ec D hv d) λE σ H b=>by let[δ,M,d,F,B,ok,q]:=b;exact(#[δ,M,_,d,F,q,λy G v H1 g1 I J L=>#[δ,G,_,d.mono g1,J,L,λx O u j h r s z=>by
  let[a,C,fs,ex,h1,c,n,l,N]:=z
  subst ex
  rw[Rep]at r;subst r
  obtain⟨⟨w,vs,i,A⟩,_⟩:=s _ _ h1
  have g:L5 X.K j (upd j a (.ins C w (fJ f v vs))):=.put (λxs z=>by rw[i]at z;cases z) (λu xs z=>by rw[i]at z;cases z)
  exact #[a,C,w,vs,rfl,i,c,n,by rw[A.len];exact l,ok.nx _ _ _ _ ((g1.trans h).trans g) (d.mono ((g1.trans h).trans g)) (s.GJ g (Eo aF ((A.mono g).put (I.mono (h.trans g))))) N]]])
theorem pW{pl:Sem Bool}(cl:Cls X.K C)(F:vC X.prog X.w X.K X.mg X.base k C m sp)(g:La k X.A)(h:DE X o ta)
 (i:eval (.Call (.Attribute o m apos) [] [] pos) X.env=(do
  let ov <-eval o X.env
  standAt apos.atName
  let(f,first) <-holding [ov] (getMethod ov m pl)
  callWith pos f first (Jc pos (HM [] X.env)) (KG pos (JQ [] X.env))):=by rfl):DE X (.Call (.Attribute o m apos) [] [] pos) (D4 C m sp ta xN):=by
 let[f,fd,ps,F,j,n]:=F
 refine aY (wO h cl j F g n .nil tP i) λσ H Q ⟨δ,M,R,r,s,q,fin⟩=>#[δ,M,_,r,s,q,λx u v H1 g1 b d z=>?_]
 let[a,fs,ex,h1,l,y]:=z
 subst ex
 rw[Rep]at b;subst b
 obtain⟨⟨B,vs,D,E⟩,_⟩:=d _ _ h1
 exists a,B,vs,rfl,D,E.get.2 l
 show dJ X.K sp [.ref a] H1 Q E0
 exact #[_,u,R,.cons (by rw[Rep]) .nil,d,y,fin.go g1]
theorem uE(F:va X.prog X.w X.K X.mg X.base k x C sp)(r:La (k+1) X.A)(s:DA X (e::es) t)(B:Gl X x:=by rfl)(h:(x==("__debug__":Str))=KO:=by decide)
 (D:HM (e::es) X.env=(KO,eval e X.env)::HM es X.env:=by rfl) (i:(Jc pos (HM es X.env)).any (·.1)=KO:=by rfl):DE X (.Call (.Name x p) (e::es) [] pos) (C6 C sp t):=by
 let[f,fd,ps,F,E,G,I]:=F
 refine aY (zW E F r B I G .nil tP s h D i) λσ H Q ⟨δ,M,R,J,L,q,fin⟩=>#[δ,M,_,J,L,q,λY N us H1 g1 O j z=>λy a hy hd ne=>?_]
 have g:L5 X.K H1 (upd (upd H1 a (.own y)) y (.ins C a [])):=(L5.new hd).trans (.new (by rw[aD ne.symm];exact hy))
 have P:Lb X.K (upd (upd H1 a (.own y)) y (.ins C a [])) (au N y (dU C [])):=λb u e=>by
  by_cases l:b=y
  .subst l
   rw[ag]at e;cases e
   exact Eo aF trivial
  .rw[ak l]at e
   have nd:b≠a:=λz=>by
    subst z
    have:=j.fresh hd
    rw[e]at this;cases this
   exact(j b u e).ff g (by rw[aD l,aD nd])
 show dJ X.K sp (.ref y::(us++[])) _ _ E0
 rw[K7]
 exact #[_,_,_,.cons (by rw[Rep]) (O.mono g),P,z y (j.fresh hy),λd Z v H' S n T U=>by
  let[V,W]:=U
  subst V
  rw[Rep]at n
  exact #[n,fin _ _ _ _ ((g1.trans g).trans S) (by rw[Rep]) T W]]
theorem z5{pl:Sem Bool}(F:vb X.prog X.w X.K X.mg X.base k c m sp)(u:La k X.A)(v:DA X (e::es) t)(y:Gl X c:=by rfl)(d:(c==("__debug__":Str))=KO:=by decide)
 (g:HM (e::es) X.env=(KO,eval e X.env)::HM es X.env:=by rfl) (i:(Jc pos (HM es X.env)).any (·.1)=KO:=by rfl)
 (B:eval (.Call (.Attribute (.Name c np) m apos) (e::es) [] pos) X.env=(do
  let ov <-eval (.Name c np) X.env
  standAt apos.atName
  let(f,first) <-holding [ov] (getMethod ov m pl)
  callWith pos f first (Jc pos (HM (e::es) X.env)) (KG pos (JQ [] X.env))):=by rfl):DE X (.Call (.Attribute (.Name c np) m apos) (e::es) [] pos) (sM sp t):=by
 let[S,f,fd,ps,F,D,E,G,J,L,N]:=F
 intro KZ s σ H Q I h
 let[δ,M,R,O,P,q,fin]:=h
 refine PySem.W.methodCall_KW (pl:=pl) (oA I y G ?_ d) B
 refine PySem.W.method_cls I.kIn J (PySem.W.cls_value I.kIn L N rfl ?_)
 have T:=I.tok (s.toks+1)
 refine PySem.W.callWith_K (h₀:=X.base) I.ok.mod.kin D (Lc (v pos KZ _ σ H _ T #[δ,M,_,O,P,q,λa b vs H1 g1 j l z=>(show ∃a b,L5 X.K H H1/\aC X.K H1 a vs/\Lb X.K H1 b/\sp a b R from #[a,b,g1,j,l,z])]) λus U ⟨vs,H1,n,r,z⟩=>#[n.kIn,?_]) g i
 let[a,b,g1,j,l,z]:=z
 refine rO F u E .nil tP n r ?_
 rw[K7]
 exact #[a,b,R,j,l,z,fin.go g1]
end
def ve(K:Ht)(C:pd)(x qual:Str)(st:pe):Prop:=∃f fd,QB K x qual st f fd/\Meth K C x f
def vQ(K:Ht)(mg:Str->Option Hu)(c x qual:Str)(st:pe):Prop:=∃S f fd,QB K x qual st f fd/\mg c=KJ (.ref S)/\
 PySem.W.specialIn K (.ref S) "__getattribute__"=KJ (KJ (.builtin "type.__getattribute__"))/\PySem.W.readsIn K S (.type "type")=KN/\PySem.W.findCls K (.ref S) (.type "type") x=KJ (.val (.ref f))
def mU(K:Ht)(mg:Str->Option Hu)(c:Str)(C:pd)(qual:Str)(st:pe):Prop:=∃f fd,QB K "__init__" qual st f fd/\L2.Mk K C f/\mg c=KJ (.ref C)
section
variable{P:HW}{w:IA}{K:Ht}{mg:Str->Option Hu}{base:pq}{C:pd}{c x qual:Str}{st:pe}{N ps:rx}{k:Nat}{sp:Lz}
theorem GU(T:ve K C x qual st)(S:L0 N ps (ao st))
 (d:∀(kV b e:Hu) (an:Option pd) (cdv ct:Hu) (us:List Hu),us.length=ps.length->Ko (IX x qual (aX st) (aJ st) (ao st) .none kV b e an cdv ct) #[us,[]]=pure (ps.zip us))
 (len:∀a M Q,sp a M Q->a.length=ps.length)
 (body:∀(f:pd) (cdv:Hu) (A:Iv) (outer:List Env) (s:Hv) (H:Hp) (E:XK),La k (A.deeper (Kv qual (ao st) s.z f cdv))->
  ∃t,DSs (gP Mt P w K mg base N qual (ao st) f cdv A outer s H E).nox (aJ st) t/\∀a M Q,sp a M Q->t (jV Q) (cZ N a) M):vC P w K mg base (k+1) C x sp:=by
 let[f,fd,F,g]:=T
 exact #[f,fd,ps,WI F S len (λ_ _=>trivial) (body f),g,F.binds d]
theorem Hb(T:vQ K mg c x qual st)(S:L0 N ps (ao st))
 (d:∀(kV b e:Hu) (an:Option pd) (cdv ct:Hu) (us:List Hu),us.length=ps.length->Ko (IX x qual (aX st) (aJ st) (ao st) .none kV b e an cdv ct) #[us,[]]=pure (ps.zip us))
 (len:∀a M Q,sp a M Q->a.length=ps.length)
 (body:∀(f:pd) (cdv:Hu) (A:Iv) (outer:List Env) (s:Hv) (H:Hp) (E:XK),La k (A.deeper (Kv qual (ao st) s.z f cdv))->
  ∃t,DSs (gP Mt P w K mg base N qual (ao st) f cdv A outer s H E).nox (aJ st) t/\∀a M Q,sp a M Q->t (jV Q) (cZ N a) M):vb P w K mg base (k+1) c x sp:=by
 let[g,f,fd,F,r]:=T
 exact #[g,f,fd,ps,WI F S len (λ_ _=>trivial) (body f),F.kp,F.binds d,r]
theorem EU(T:mU K mg c C qual st)(S:L0 N ps (ao st))
 (d:∀(kV b e:Hu) (an:Option pd) (cdv ct:Hu) (us:List Hu),us.length=ps.length->Ko (IX "__init__" qual (aX st) (aJ st) (ao st) .none kV b e an cdv ct) #[us,[]]=pure (ps.zip us))
 (len:∀a M Q,sp a M Q->a.length=ps.length)
 (body:∀(f:pd) (cdv:Hu) (A:Iv) (outer:List Env) (s:Hv) (H:Hp) (E:XK),La k (A.deeper (Kv qual (ao st) s.z f cdv))->
  ∃t,DSs (gP Mt P w K mg base N qual (ao st) f cdv A outer s H E).nox (aJ st) t/\∀a M Q,sp a M Q->t (jV Q) (cZ N a) M):va P w K mg base (k+1) c C sp:=by
 let[f,fd,F,g,h]:=T
 exact #[f,fd,ps,WI F S len (λ_ _=>trivial) (body f),g,F.binds d,h]
end
section
variable{K:Ht}{mg:Str->Option Hu}{c x qual:Str}{st:pe}{C f:pd}{oc:Hu}{od an:Option pd}{osl:Array (Option Hu)}{kV doc pm cdv ct:Hu}
theorem ve.mk(a:Kc K IS c=KJ (KJ (.ref C)))(b:Jh K (.ref C) x=KJ (KJ (.ref f)))(e:PySem.W.isFn K (.ref f)=KN) (l:K.lookup f=KJ #[oc,od,.func (IX x qual (aX st) (aJ st) (ao st) .none kV doc pm an cdv ct),osl]) (d:K3 K cdv qual=KN) (k:Je K (.ref f)=KN):ve K (cl K c) x qual st:=by rw[tM a];exact #[f,_,oe l d k,b,e,k]
theorem vQ.mk{h:pq}(X:K.In h)(G:h.Ns IS mg)(a:Kc K IS c=KJ (KJ (.ref C)))(b:PySem.W.findCls K (.ref C) (.type "type") x=KJ (.val (.ref f)))(e:PySem.W.specialIn K (.ref C) "__getattribute__"=KJ (KJ (.builtin "type.__getattribute__")))(r:PySem.W.readsIn K C (.type "type")=KN) (l:K.lookup f=KJ #[oc,od,.func (IX x qual (aX st) (aJ st) (ao st) .none kV doc pm an cdv ct),osl]) (d:K3 K cdv qual=KN) (k:Je K (.ref f)=KN):vQ K mg c x qual st:=#[C,f,_,oe l d k,PySem.W.mg_of X G a,e,r,b]
theorem mU.mk{h:pq}(X:K.In h)(G:h.Ns IS mg)(a:Kc K IS c=KJ (KJ (.ref C)))(m:PySem.W.makesIn K C=KN)(b:Jh K (.ref C) "__init__"=KJ (KJ (.ref f)))(e:PySem.W.isFn K (.ref f)=KN)(kc:Je K (.ref C)=KN) (l:K.lookup f=KJ #[oc,od,.func (IX "__init__" qual (aX st) (aJ st) (ao st) .none kV doc pm an cdv ct),osl]) (d:K3 K cdv qual=KN) (k:Je K (.ref f)=KN):mU K mg c (cl K c) qual st:=by rw[tM a];exact #[f,_,oe l d k,#[m,b,e,kc],PySem.W.mg_of X G a]
theorem DZ(a:Kc K IS c=KJ (KJ (.ref C)))(pg:PySem.W.plainGet K C Str.empty=KN)(hd:PySem.W.hasDictIn K C=KN)(po:PySem.W.plainOver K C=KN)(sa:Jh K (.ref C) "__setattr__"=KJ (KJ (.builtin "object.__setattr__"))):Cls K (cl K c):=by rw[tM a];exact #[pg,hd,po,sa]
theorem qB(a:Kc K IS c=KJ (KJ (.ref C)))(h:Jh K (.ref C) x=KJ KL):bS K (cl K c) x:=by rw[tM a];exact h
end
structure Yi(P:HW)(w:IA)(K:Ht)(mg:Str->Option Hu)(base:pq)(k:Nat)(g:pd)(sp:Lz)(Mc:MH->Prop):Prop where
 ex:∃Pg:pq->Prop,(∀(M:Model) h,Pg h->∃k,(k=Keeper.frame\/k=Keeper.machine\/k=Keeper.boundFrame)/\PySem.W.Looks M h (keeperOf (.ref g)) k)/\
  ∀(A:Iv) (outer:List Env) (s:Hv) (H:Hp) (M:MH),La k A->Mz P w K mg base A outer s H->Lb K H M->Mc M->Pg s.heap/\
   ∀(us:List Hu) (vs:ry) (Q:VK),Vals vs us->dJ K sp vs H Q E0->JK (HP P w) A (.call (.ref g) #[us,[]]) (CR Mt outer P w H s Q E0) s
abbrev l6(scope:JH)(L:pd)(cl:List (Str×pd))(qual:Str)(g:pd)(cd:Hu):Env:=newEnv scope L IS cl (qual++".<locals>.") (KJ g) cd KL builtinsNs
def qo(P:HW)(w:IA)(K:Ht)(mg:Str->Option Hu)(base:pq)(N:rx)(qual:Str)(scope:JH)(cl:List (Str×pd))(g:pd)(cd:Hu)(A:Iv)(outer:List Env)(s:Hv)(H:Hp):Cx where
 prog:=P
 w:=w
 K:=K
 mg:=mg
 base:=base
 A:=A.deeper (l6 scope s.z cl qual g cd)
 N:=N
 s₀:=s
 H₀:=H
 env:=l6 scope s.z cl qual g cd
 outer:=outer
 stack:=l6 scope s.z cl qual g cd::outer
 ex:=[]
 calm:=KN
 fn:=λ_=>KO
 pn:=[]
 xe:=λ_ _=>False
structure MX(x y:Str)(sc:JH):Prop where
 kind:sc.kind=.function
 co:sc.isCoroutine=KO
 gen:sc.isGenerator=KO
 ne:x≠y
 hx:sc.names.lookup x=KJ .local
 hy:sc.names.lookup y=KJ .free
 only:∀z∈sc.names,z.2=.free->z.1=y
 nocell:∀z∈sc.names,z.2≠.cell
section
variable{P:HW}{w:IA}{K:Ht}{mg:Str->Option Hu}{base:pq}{qual:Str}{scope:JH}{g c:pd}{cd:Hu}{A:Iv}{outer:List Env}{s:Hv}{H:Hp}{x y:Str}
theorem zU{h':pq}{tk:Nat}{oc:Obj}{m r:Hu}{t v2:V}(S:MX x y scope)(hd:A.handled=KL)(f:Mz P w K mg base A outer s H)(D:base.get? c=KJ oc)(u:oc.data=.cell (KJ r))(E:RelV t m)(F:RelV v2 r)
 (B:h'.Ns s.z λz=>[(x,m)].reverse.lookup z) (C:∀b o,s.heap.get? b=KJ o->h'.get? b=KJ o) :
 Inv (qo P w K mg base [x,y] qual scope [(y,c)] g cd A outer s H) [] [KJ t,KJ v2] H { s with heap:=h',toks:=tk }:=by
 have j:∀b:pd,b∉(qo P w K mg base [x,y] qual scope [(y,c)] g cd A outer s H).ex:=λb z=>absurd (show b∈([]:rq)from z) (by simp)
 have one:∀{z:Str} {d:pd},([(y,c)]:List (Str×pd)).lookup z=KJ d->z=y/\d=c:=λ{z d} e=>by
  have:=Iy e
  simpa using this
 have q:h'.IsCell c (KJ r):=#[oc,C _ _ (f.bs c oc D).1,u]
 refine #[#[f.mod,S.kind,rfl,rfl,HD _,λa b d h1 k=>?_,λz l=>?_,λz d h _=>Bool.noConfusion h,λ_=>hd,Around.frames_deeper f.frames,.inr #[rfl,rfl],λb z=>absurd z (j b),f.bs,f.bsz,λb _ _=>j b,λb z=>absurd z (j b),f.gD,f.frf],
  rfl,f.bare,Un.kept C,#[_,B,λi z v h1 k I=>?_],λz d h=>?_,f.hok.fresh (HD _),λz d h=>?_,λp G=>absurd (show p∈([]:p4)from G) (by simp),f.hok.kept C,rfl]
 .rw[(one h1).1,(one k).1]
 .have l:scope.names.lookup z=KJ .cell\/scope.names.lookup z=KJ .free:=l
  rcases l with l|l
  .exact absurd rfl (S.nocell _ (Iy l))
  .have:=S.only _ (Iy l) rfl
   subst this
   exact #[c,by show([(z,c)]:List (Str×pd)).lookup z=KJ c;simp]
 .match i,h1,k with
  |0,h1,k=>
   cases (show KJ x=KJ z from h1)
   cases (show KJ (KJ t)=KJ (KJ v)from k)
   exact #[m,E,.inl #[S.hx,by show([(x,m)]:List (Str×Hu)).reverse.lookup x=KJ m;simp]]
  |1,h1,k=>
   cases (show KJ y=KJ z from h1)
   cases (show KJ (KJ v2)=KJ (KJ v)from k)
   exact #[r,F,.inr #[.inr S.hy,c,by show([(y,c)]:List (Str×pd)).lookup y=KJ c;simp,q]]
  |n+2,h1,_=>exact absurd (show([]:rx)[n]?=KJ z from h1) (by simp)
 .obtain⟨rfl,rfl⟩:=one h
  exact #[_,q]
 .obtain⟨rfl,rfl⟩:=one h
  exact(f.bs _ _ D).2
theorem AA{k:Nat}{name:Str}{params:Arguments}{body:pv}{p d:Hu}{f:pd}{oc:Obj}{a r:Hu}{B v2:V}{t:TE}{Q:VK}(S:MX x y scope)(C:La (k+1) A)(i:Mz P w K mg base A outer s H)(E:base.get? c=KJ oc)(j:oc.data=.cell (KJ r))(F:RelV B a)(G:RelV v2 r)
 (L:s.heap.get? g=KJ (Jz name qual params body scope [(y,c)] p f d)) (h:s.heap.CodeRec (.ref f) qual)
 (M:Ko (PySem.W.kla_fn name qual params body scope [(y,c)] p (.ref f) d) #[[a],[]]=pure [(x,a)])
 (N:PE (qo P w K mg base [x,y] qual scope [(y,c)] g (.ref f) A outer s H) body t) (O:t [KJ B,KJ v2] H Q) :
 JK (HP P w) A (.call (.ref g) #[[a],[]]) (CR Mt outer P w H s Q E0) s:=by
 refine PySem.W.kla_callFunE C.depth L rfl S.co S.gen rfl h ?_
 rw[M]
 have l:s.heap.NoLimit:=i.mod.nolimit.keeps λb o e=>(i.bs b o e).1
 refine Hz (wpAny_newFunctionEnv S.nocell (λz R=>?_) (λT m n=>?_) S.kind)
 .have:z=(x,a):=‹R›
  rw[this];exact S.hx
 have D:∀b o,s.heap.get? b=KJ o->T.get? b=KJ o:=λb o e=>n.extBut b o (Ip (HN e)) (Hx _ e)
 refine #[l.keeps D,PySem.W.kla_codeExpr ?_]
 have I:=zU (qual:=qual) (g:=g) (cd:=.ref f) (tk:=s.toks+[(x,a)].length) S C.hd i E j F G m D
 refine HQ (N [] _ _ _ _ I O) (λu U z=>?_) (λe U z=>Ic z)
 let[v,X,J,Y,q]:=z
 exact #[v,X,J.os,J.bare,J.base,J.hok,Y,q]
end
def bY(a:pd)(o:Obj):pq->Prop:=λh=>h.get? a=KJ o
def ot(a:pd)(q:Str):pq->Prop:=λh=>h.CodeRec (.ref a) q
def Ge(o:Obj)(d:D)(v:V):MO:=.gen λK H a=>H a=KJ (.ext (bY a o))/\Rep K H d v
def sv(q:Str):MO:=.gen λ_ H a=>H a=KJ (.ext (ot a q))
def rN(ps:Array Hu):MO:=.gen λ_ H a=>H a=KJ (.tbl ps)
section
variable{P:HW}{w:IA}{K:Ht}{mg:Str->Option Hu}{base:pq}{qual:Str}{scope:JH}{g c:pd}{x y:Str}
theorem zV{k:Nat}{name:Str}{params:Arguments}{body:pv}{m b:Hu}{f:pd}{oc:Obj}{G:Hu}{v2:V}{d2:D}{sp:Lz}(S:MX x y scope)(O:base.get? c=KJ oc)(o:oc.data=.cell (KJ G))(T:RelV v2 G)
 (U:∀l,Ko (PySem.W.kla_fn name qual params body scope [(y,c)] m (.ref f) b) #[[l],[]]=pure [(x,l)]) (len:∀j M Q,sp j M Q->j.length=1)
 (X:∀(A:Iv) (outer:List Env) (s:Hv) (H:Hp),La k (A.deeper (l6 scope s.z [(y,c)] qual g (.ref f)))->∃t,DE (qo P w K mg base [x,y] qual scope [(y,c)] g (.ref f) A outer s H) body t/\∀a M Q,sp [a] M Q->t [KJ a,KJ d2] M Q) :
 Yi P w K mg base (k+1) g sp (λM=>M g=KJ (Ge (Jz name qual params body scope [(y,c)] m f b) d2 v2)/\M f=KJ (sv qual)):=by
 refine #[bY g (Jz name qual params body scope [(y,c)] m f b),λM h z=>#[.frame,.inl rfl,(PySem.W.Looks.ld (part:=KL) z).andThen .now],λA outer s H M I p J u=>?_]
 let[Y,v]:=u
 obtain⟨⟨B,Z⟩,_⟩:=J _ _ Y
 let[C,_]:=J _ _ v
 let[L,_]:=p.hok _ _ B
 let[f2,_]:=p.hok _ _ C
 refine #[L,λus vs Q r z=>?_]
 let[j,N,R,rs,a1,q,fin]:=z
 obtain⟨a,rfl⟩:∃a,j=[a]:=by
  have:=len _ _ _ q
  match j,this with
  |[a],_=>exact #[a,rfl]
 let[v1,rfl,E]:=bP rs
 let[l,rfl,F]:=vals1 r
 let[t,h1,h2]:=X A outer s H (I.deeper _)
 refine AA (t:=lift K t) (v2:=v2) S I p O o F T L f2 (U l) h1 #[[KJ a,KJ d2],N,R,#[rfl,λi d e=>?_],a1,h2 a N R q,fin]
 match i,e with
 |0,e=>cases (show KJ (KJ a)=KJ (KJ d)from e);exact #[v1,rfl,E]
 |1,e=>cases (show KJ (KJ d2)=KJ (KJ d)from e);exact #[v2,rfl,Z]
 |n+2,e=>exact absurd (show([]:r4)[n]?=KJ (KJ d)from e) (by simp)
end
def pF(b:pq)(c:pd):Hp:=λa=>if(b.get? a).isSome=KN\/a=c then KL else KJ (.tbl #[])
theorem xW{b:pq}{c a:pd}(h:(b.get? a).isSome=KN\/a=c):pF b c a=KL:=KQ h
theorem yU{b:pq}{c a:pd}(h:pF b c a=KL):(b.get? a).isSome=KN\/a=c:=by
 by_cases z:(b.get? a).isSome=KN\/a=c
 .exact z
 .unfold pF at h;rw[KP z]at h;cases h
theorem m7{h base a:pq}:∀{l:List Env},h.FunFrames base l->(∀b∈OA l,a.get? b=KL)->h.FunFrames a l
 |[],_,_=>trivial
 |env::r,z,n=>by
  obtain⟨d,⟨L,o,c,j,f,hd⟩,g⟩:=z
  have e:OA (env::r)=L::OA r:=by unfold OA;rw[JO,c]
  rw[e]at n
  exact #[d,#[L,o,c,n L Ki,f,hd],m7 g λb i=>n b (J6 _ i)]
section
variable{X:Cx}{KZ:p4}{σ:L2.St}{H:Hp}{s:Hv}{y:Str}{c:pd}
theorem zw(I:Inv X KZ σ H s)(g:X.fn y=KN)(h:X.env.cells.lookup y=KJ c):Mz X.prog X.w X.K X.mg (jB s.heap (pF X.base c)) X.A X.stack s H:=by
 have a:=I.CZ;have f:∀b o,X.base.get? b=KJ o->(jB s.heap (pF X.base c)).get? b=KJ o:=λb o e=>iV (I.bk b o e) (xW (.inl (by rw[e];rfl)))
 have k:∀b∈OA X.stack,(jB s.heap (pF X.base c)).get? b=KL:=λb i=>by
  cases e:(jB s.heap (pF X.base c)).get? b with
  |none=>rfl
  |some o=>
   exfalso
   let[e1,e2]:=oO e
   rcases yU e2 with z|z
   .have:=(a.gD.mem (show b∈X.stack.filterMap (·.frame)from i)).1;rw[this]at z;cases z
   .subst z;rcases II.mp (I.n4 b i)with q|q
    .exact I.cne y b h q
    .obtain⟨_,j,d,_⟩:=I.ok.gD.mem (show b∈X.outer.filterMap (·.frame)from q);exact absurd (Ig (HN d) (I.ok.cab y b g h)) (Ks _)
 let[l,h1,m]:=a.mod.blt;refine #[a.frames,#[a.mod.kin.keeps f,a.mod.glob.keeps f,#[l,h1.keeps f,m],a.mod.nolimit.keeps f],λb o e=>?_,Nat.le_of_eq (nF _ _),m7 a.gD k,a.frf,a.hok,a.bare];let[e1,e2]:=oO e;exists e1;rcases yU e2 with z|z
 .obtain⟨j,d⟩:=Option.isSome_iff_exists.mp z;exact(I.bs b j d).2
 .subst z;exact I.freeC y b h
end
structure Mk(K:Ht)(mg:Str->Option Hu)(c0 Pt:pd):Prop where
 hd:PySem.W.codeHdIn K c0 Pt=KN
 bm:∃bm o,mg "__builtins__"=KJ (.ref bm)/\bm≠builtinsNs/\bm≠IS/\K.lookup bm=KJ o/\o.cls=.type "module"/\o.dict=KJ builtinsNs/\o.data=.plain
def AI(pos:Pos)(a:pd):Array Hu:=(List.toArray [KD pos.line,KD pos.col,.ref a])
def bW(q:Str)(Pt:pd)(pos:Pos)(M:MH):Prop:=M Pt=KJ (rN #[])\/∃a,M Pt=KJ (rN (AI pos a))/\M a=KJ (sv q)/\a≠Pt
def dg(Pt:pd)(M b:MH):Prop:=∀a o,a≠Pt->M a=KJ o->b a=KJ o
section
variable{X:Cx}{KZ:p4}{σ:L2.St}{H:Hp}{s:Hv}{c0 Pt:pd}
theorem yd(I:Inv X KZ σ H s)(m:Mk X.K X.mg c0 Pt)(b:H Pt≠KL):s.heap.BuiltinsAt X.mg Pt:=by let[bm,o,h1,c,d,a,e]:=m.bm;refine #[bm,o,h1,c,d,λz=>?_,I.kIn _ _ a,e];subst z;exact b (I.bs _ _ (I.mod.kin _ _ a)).2
theorem Ex(I:Inv X KZ σ H s)(a:H Pt≠KL):IS≠Pt:=λz=>by let[o,b,c,e,_]:=I.mod.glob;rw[z]at e;exact a (I.bs _ _ e).2
theorem iB{P:HW}{w:IA}{b:Hp}{h:pq}{a:pd}{o:Obj}(e:h.get? a=KJ o):bJ P w b h a (.ext (bY a o)):=#[e,#[o,e],λh1 c z k=>k o z]
theorem D5{P:HW}{w:IA}{g:Hp}{h:pq}{a:pd}{q:Str}(e:h.CodeRec (.ref a) q):bJ P w g h a (.ext (ot a q)):=by
 refine #[e,?_,λh1 i z k=>?_]
 .obtain⟨c,oc,vs,f,b,d,_⟩:=e;cases b;exact #[oc,d]
 .obtain⟨c,oc,vs,f,b,d,r⟩:=z;cases b;exact #[a,oc,vs,f,rfl,k oc d,r]
theorem AF{h':pq}{tk:Nat}{o:Obj}(a:o.isFreed=KO)(I:Inv X KZ σ H s)(k:∀b u,s.heap.get? b=KJ u->h'.get? b=KJ u)(hsz:s.z<=h'.objs.size):H h'.objs.size=KL/\Inv X KZ σ (upd H h'.objs.size (.ext (bY h'.objs.size o))) { s with heap:=h'.push o,toks:=tk }:=by have c:H h'.objs.size=KL:=I.hok.fresh hsz;exact #[c,I.laid (t':=tk) (h':=h'.push o) (λb u e=>Hx _ (k b u e)) hsz (iB (HG _ a))]
theorem yQ{h':pq}{tk:Nat}{o:Obj}{q:Str}{a:pd}{ps more:Array Hu}(m:o.isFreed=KO)(I:Inv X KZ σ H s)(f:H Pt=KJ (.tbl ps))(hx:Heap.ExtBut Pt s.heap h')(h1:s.z<=a)(p:a<h'.objs.size)(B:h'.CodeRec (.ref a) q)
 (x:h'.get? Pt=KJ (PySem.W.tabObj (ps++more))):H a=KL/\H h'.objs.size=KL/\Inv X KZ σ (upd (upd (upd H Pt (.tbl (ps++more))) a (.ext (ot a q))) h'.objs.size (.ext (bY h'.objs.size o))) { s with heap:=h'.push o,toks:=tk }:=by
 have C:Pt<s.z:=(I.hok _ _ f).lt
 have j:H a=KL:=I.hok.fresh h1
 have k:H h'.objs.size=KL:=I.hok.fresh (ID h1 (Kn p))
 have D:a≠Pt:=λz=>by rw[z,f]at j;cases j
 have E:h'.objs.size≠Pt:=λz=>by rw[z,f]at k;cases k
 have L:a≠h'.objs.size:=Ip p
 have h:∀{b:pd} {u:HO},H b=KJ u->b≠Pt->upd (upd (upd H Pt (.tbl (ps++more))) a (.ext (ot a q))) h'.objs.size (.ext (bY h'.objs.size o)) b=KJ u:=λ{b u} e n=>by
  rw[aD (λz=>by rw[z,k]at e;cases e),aD (λz=>by rw[z,j]at e;cases e),aD n];exact e
 have i:∀{b:pd},H b=KL->b<s.z->upd (upd (upd H Pt (.tbl (ps++more))) a (.ext (ot a q))) h'.objs.size (.ext (bY h'.objs.size o)) b=KL:=λ{b} e l=>by
  have y1:b≠h'.objs.size:=λz=>by rw[z]at l;exact absurd l (Nat.not_lt.mpr (ID h1 (Kn p)))
  have F:b≠a:=λz=>by rw[z]at l;exact absurd l (Nat.not_lt.mpr h1)
  have G:b≠Pt:=λz=>by rw[z,f]at e;cases e
  rw[aD y1,aD F,aD G];exact e
 refine #[j,k,I.un (t':=tk) #[λb u e n _ _=>?_,λb u e n _ _=>#[u.slots,?_],λb u e n _=>i n (HN e),λb u e _=>?_,λb xs e=>h e (λz=>by rw[z,f]at e;cases e),λb u xs e=>h e (λz=>by rw[z,f]at e;cases e),λb qs e=>?_] λb u e=>?_]
 .exact Hx _ (hx b u (λz=>by rw[z,f]at n;cases n) e)
 .exact Hx _ (hx b u (λz=>by rw[z,f]at n;cases n) e)
 .by_cases z:b=Pt
  .subst z;exact #[_,Hx _ x]
  .exact #[u,Hx _ (hx b u z e)]
 .by_cases z:b=Pt
  .subst z
   rw[f]at e;cases e
   exact #[more,by rw[aD E.symm,aD D.symm,aF]]
  .exact #[#[],by rw[h e z];simp]
 .by_cases y:b=h'.objs.size
  .subst y
   rw[aF]at e;cases e
   exact iB (HG _ m)
  .rw[aD y]at e
   by_cases A:b=a
   .subst A
    rw[aF]at e;cases e
    let[c,oc,vs,J,t,K,r]:=B
    cases t
    exact D5 #[b,oc,vs,J,rfl,Hx _ K,r]
   .rw[aD A]at e
    by_cases w:b=Pt
    .subst w
     rw[aF]at e;cases e
     exact Hx _ x
    .rw[aD w]at e
     refine(I.hok b u e).ff (λd v hd g=>Hx _ (hx d v ?_ g)) (λd g=>h g (λz=>by rw[z,f]at g;cases g)) λd xs g=>h g (λz=>by rw[z,f]at g;cases g)
     rcases hd with hd|hd
     .rw[hd];exact w
     .intro z;rw[z,f]at hd;cases hd
end
theorem Lb.qK{K:Ht}{H:Hp}{M:MH}{a:pd}{o:HO}{A:Ht->Hp->pd->Prop}(h:Lb K H M)(g:L5 K H (upd H a o))(z:A K (upd H a o) a)(st:∀c,L5 K (upd H a o) c->c a=KJ o->A K c a):Lb K (upd H a o) (au M a (.gen A)):=λb u e=>by
 by_cases ne:b=a
 .subst ne;rw[ag]at e;cases e;exact #[z,by rw[aF];simp,λc d f=>st c d (by rw[f,aF])]
 .rw[ak ne]at e;exact(h b u e).ff g (aD ne)
theorem wH{names:List (Str×K1)}{env:Env}{y:Str}{c:pd}(a:(names.filter λz=>z.2==.free)=[(y,.free)])(b:env.cells.lookup y=KJ c):eG names env=[(y,c)]:=by unfold eG;rw[a];simp[b]
section
variable{X:Cx}{x y lx:Str}{j k kk:Nat}{params:Arguments}{body:pv}{LG:JH}{LH p pos:Pos}{e1:pv}{te:TD}{c0 Pt:pd}{spg:D->Lz}{LI:pd->D->(MH->Prop)->Lz}
theorem v7{KZ:p4}{σ:L2.St}{H:Hp}{s:Hv}{M:MH}{c:pd}{d2:D}{v2:V}{Q:Hu->Hv->Prop}(f:X.env.code=.ref c0)(m:Mk X.K X.mg c0 Pt)(N:(LG.names.filter λz=>z.2==.free)=[(y,.free)])(O:∀z∈LG.names,z.2=.free->z.1=y)
 (P:defaultsOf params X.env=([],[])) (I:Inv X KZ σ H s) (r:Lb X.K H M) (hc:X.env.cells.lookup y=KJ c) (t:bW (X.env.qual++"<lambda>") Pt LH M) (Y:Rep X.K H d2 v2)
 (h:∀g d b pm v R s',Inv X KZ σ v s'->L5 X.K H v->Lb X.K v R->R g=KJ (Ge (Jz "<lambda>" (X.env.qual++"<lambda>") params body LG [(y,c)] pm d b) d2 v2)->R d=KJ (sv (X.env.qual++"<lambda>"))->
  bW (X.env.qual++"<lambda>") Pt LH R->dg Pt M R->Q (.ref g) s') :
 HJ (HP X.prog X.w) X.A (eval (.Lambda params body LG LH) X.env) Q X.xe s:=by
 refine PySem.W.kla_eval P ?_
 have S:closureFor LG X.env=pure [(y,c)]:=by
  rw[ml (λz hz hk=>#[c,by rw[O z hz hk];exact hc]),wH N hc]
 have T:s.heap.Ns IS X.mg:=I.mod.glob.keeps I.bk
 have C:=PySem.W.codeHd_of_K I.kIn m.hd
 rcases t with t|⟨n,t,B,a0⟩
 .obtain⟨i,_⟩:=r _ _ t
  have E:s.heap.get? Pt=KJ (PySem.W.tabObj #[]):=I.hok _ _ i
  have l:H Pt≠KL:=by rw[i];simp
  refine PySem.W.kla_makeFunction (mg:=X.mg) S I.ok.glob T f C E trivial rfl (Ex I l) (yd I m l) λd b q tk hx h1 h2 U b0=>?_
  let[Z,F,I2]:=yQ (o:=Jz "<lambda>" (X.env.qual++"<lambda>") params body LG [(y,c)] ((X.mg "__name__").getD .none) d b) (tk:=tk) rfl I i hx h1 h2 U b0
  have nc:d≠Pt:=λz=>by rw[z,i]at Z;cases Z
  have ng:q.objs.size≠Pt:=λz=>by rw[z,i]at F;cases F
  have G:q.objs.size≠d:=(Ip h2).symm
  have g1:L5 X.K H (upd H Pt (.tbl (#[]++(List.toArray [KD LH.line,KD LH.col,.ref d])))):=.put (λxs e=>by rw[i]at e;cases e) (λu xs e=>by rw[i]at e;cases e)
  have g2:=L5.new (K:=X.K) (o:=.ext (ot d (X.env.qual++"<lambda>"))) (show(upd H Pt (.tbl (#[]++(List.toArray [KD LH.line,KD LH.col,.ref d])))) d=KL by rw[aD nc];exact Z)
  have J:=L5.new (K:=X.K) (o:=.ext (bY q.objs.size (Jz "<lambda>" (X.env.qual++"<lambda>") params body LG [(y,c)] ((X.mg "__name__").getD .none) d b))) (show(upd (upd H Pt (.tbl (#[]++(List.toArray [KD LH.line,KD LH.col,.ref d])))) d (.ext (ot d (X.env.qual++"<lambda>")))) q.objs.size=KL by rw[aD G,aD ng];exact F)
  have gg:=(g1.trans g2).trans J
  have a1:=r.qK (A:=λ_ H a=>H a=KJ (.tbl (AI LH d))) g1 aF (λv _ e=>e)
  have a2:=a1.qK (A:=λ_ H a=>H a=KJ (.ext (ot a (X.env.qual++"<lambda>")))) g2 aF (λv _ e=>e)
  have a3:=a2.qK (A:=λK H a=>H a=KJ (.ext (bY a (Jz "<lambda>" (X.env.qual++"<lambda>") params body LG [(y,c)] ((X.mg "__name__").getD .none) d b)))/\Rep K H d2 v2) J #[aF,Y.mono gg] (λv g' e=>#[e,(Y.mono gg).mono g'])
  have m1:=r.fresh Z
  have L:=r.fresh F
  refine h _ d b _ _ _ _ I2 gg a3 ag (by rw[ak G.symm,ag];rfl) (.inr #[d,by rw[ak ng.symm,ak nc.symm,ag];rfl,by rw[ak G.symm,ag];rfl,nc]) λa o na e=>?_
  rw[ak (λz=>by rw[z,L]at e;cases e),ak (λz=>by rw[z,m1]at e;cases e),ak na];exact e
 .obtain⟨i,_⟩:=r _ _ t
  have E:s.heap.get? Pt=KJ (PySem.W.tabObj (AI LH n)):=I.hok _ _ i
  have l:H Pt≠KL:=by rw[i];simp
  refine PySem.W.kla_makeFunctionHit (mg:=X.mg) (cv:=.ref n) S I.ok.glob T f C E trivial (by unfold AI KD codeAmong;simp) (yd I m l) λb q tk hk d0=>?_
  let[F,I2]:=AF (o:=Jz "<lambda>" (X.env.qual++"<lambda>") params body LG [(y,c)] ((X.mg "__name__").getD .none) n b) (tk:=tk) rfl I hk d0
  have J:=L5.new (K:=X.K) (o:=.ext (bY q.objs.size (Jz "<lambda>" (X.env.qual++"<lambda>") params body LG [(y,c)] ((X.mg "__name__").getD .none) n b))) F
  have a3:=r.qK (A:=λK H a=>H a=KJ (.ext (bY a (Jz "<lambda>" (X.env.qual++"<lambda>") params body LG [(y,c)] ((X.mg "__name__").getD .none) n b)))/\Rep K H d2 v2) J #[aF,Y.mono J] (λv g' e=>#[e,(Y.mono J).mono g'])
  have L:=r.fresh F
  have k1:Pt≠q.objs.size:=λz=>by rw[<-z,t]at L;cases L
  have k2:n≠q.objs.size:=λz=>by rw[<-z,B]at L;cases L
  refine h _ n b _ _ _ _ I2 J a3 ag (by rw[ak k2];exact B) (.inr #[n,by rw[ak k1];exact t,by rw[ak k2];exact B,a0]) λa o na e=>?_
  rw[ak (λz=>by rw[z,L]at e;cases e)];exact e
end
def oW(K:Ht)(mg:Str->Option Hu)(x:Str)(st:pe)(c0:pd):Prop:=
 ∃(f:pd) (oc:Hu) (od:Option pd) (kV a b:Hu) (an:Option pd) (ct:Hu) (osl:Array (Option Hu)),K.lookup f=KJ #[oc,od,.func (IX x x (aX st) (aJ st) (ao st) .none kV a b an (.ref c0) ct),osl]/\K3 K (.ref c0) x=KN/\Je K (.ref f)=KN/\mg x=KJ (.ref f)
section
variable{P:HW}{w:IA}{K:Ht}{mg:Str->Option Hu}{base:pq}
theorem oW.mk{h:pq}{x:Str}{st:pe}{f c0:pd}{oc:Hu}{od an:Option pd}{osl:Array (Option Hu)}{kV b d ct:Hu}(X:K.In h)(G:h.Ns IS mg)(a:Kc K IS x=KJ (KJ (.ref f))) (l:K.lookup f=KJ #[oc,od,.func (IX x x (aX st) (aJ st) (ao st) .none kV b d an (.ref c0) ct),osl]) (c:K3 K (.ref c0) x=KN) (k:Je K (.ref f)=KN):oW K mg x st c0:=#[f,oc,od,kV,b,d,an,ct,osl,l,c,k,PySem.W.mg_of X G a]
theorem E1{x:Str}{st:pe}{N ps:rx}{k:Nat}{sp:Lz}{c0:pd}(T:oW K mg x st c0)(S:L0 N ps (ao st))
 (u:∀(kV c i:Hu) (an:Option pd) (cdv ct:Hu) (us:List Hu),us.length=ps.length->Ko (IX x x (aX st) (aJ st) (ao st) .none kV c i an cdv ct) #[us,[]]=pure (ps.zip us))
 (len:∀b M Q,sp b M Q->b.length=ps.length)
 (body:∀(f:pd) (A:Iv) (outer:List Env) (s:Hv) (H:Hp) (E:XK),La k (A.deeper (Kv x (ao st) s.z f (.ref c0)))->
  ∃t,DSs (gP Mt P w K mg base N x (ao st) f (.ref c0) A outer s H E).nox (aJ st) t/\∀b M Q,sp b M Q->t (jV Q) (cZ N b) M):Cal P w K mg base (k+1) x sp:=by
 let[f,oc,od,kV,c,i,an,ct,osl,y,j,kp,B]:=T
 refine #[f,_,ps,Bu y j S (λvs H Q E z=>?_) (λA outer s H vs Q E C z=>?_),B,kp,.all λus D=>u kV c i an (.ref c0) ct us D]
 .obtain⟨b,M,R,l,_,q,_⟩:=z
  rw[<-l.length];exact len _ _ _ q
 .obtain⟨b,M,R,l,a,q,fin⟩:=z
  let[t,h,F]:=body f A outer s H E C
  refine #[_,h.nox,cZ N b,M,j5 l,a,(jV R),#[λG I J o g L m e=>?_,λd I v o g r m e=>?_,λ_ _ _ _ _ _ _ z=>z,λ_ _ _ _ _ _ _ z=>z],F b M R q]
  .obtain⟨p,n,e⟩:=e
   exact fin .non p .non o g (by rw[Rep]) (m.sub n) e
  .obtain⟨p,n,e⟩:=e
   exact fin _ _ _ _ g r (m.sub n) e
theorem BA{h:pq}{c0 Pt bm:pd}{o:Obj}(X:K.In h)(G:h.Ns IS mg)(hd:PySem.W.codeHdIn K c0 Pt=KN)(a:Kc K IS "__builtins__"=KJ (KJ (.ref bm)))(l:K.lookup bm=KJ o)(h1:bm≠builtinsNs)(b:bm≠IS)(c:o.cls=.type "module")(d:o.dict=KJ builtinsNs)(e:o.data=.plain):Mk K mg c0 Pt:=#[hd,bm,o,PySem.W.mg_of X G a,h1,b,l,c,d,e]
end
theorem dg.trans{Pt:pd}{M c M2:MH}(a:dg Pt M c)(b:dg Pt c M2):dg Pt M M2:=λx o n h=>b x o n (a x o n h)
theorem Sub.yK{Pt:pd}{M b:MH}(a:Sub M b):dg Pt M b:=λx o _ h=>a x o h
theorem bW.new{q:Str}{Pt:pd}{pos:Pos}{M:MH}{p:pd}{o:MO}(h:bW q Pt pos M)(a:M p=KL):bW q Pt pos (au M p o):=by
 rcases h with h|⟨c,h1,b,d⟩
 .exact .inl (by rw[ak (λz=>by rw[z,a]at h;cases h)];exact h)
 .exact .inr #[c,by rw[ak (λz=>by rw[z,a]at h1;cases h1)];exact h1,by rw[ak (λz=>by rw[z,a]at b;cases b)];exact b,d]
theorem bW.kx{q:Str}{Pt:pd}{pos:Pos}{M b:MH}{xs:rq}(h:bW q Pt pos M)(k:∀a o,a∉xs->M a=KJ o->b a=KJ o)(hx:∀a∈xs,∀A,M a≠KJ (.gen A)):bW q Pt pos b:=by
 rcases h with h|⟨c,h1,d,e⟩
 .exact .inl (k _ _ (λz=>hx _ z _ h) h)
 .exact .inr #[c,k _ _ (λz=>hx _ z _ h1) h1,k _ _ (λz=>hx _ z _ d) d,e]
theorem bW.sub{q:Str}{Pt:pd}{pos:Pos}{M b:MH}(h:bW q Pt pos M)(k:Sub M b):bW q Pt pos b:=h.kx (xs:=[]) (λa o _ e=>k a o e) (λ_ z=>nomatch z)
theorem bW.upd{q:Str}{Pt:pd}{pos:Pos}{M:MH}{p:pd}{o:MO}{b:r8}(h:bW q Pt pos M)(c:M p=KJ (.lst b)):bW q Pt pos (au M p o):=h.kx (xs:=[p]) (λa u n e=>by rw[ak ‹n›];exact e) (λa d A e=>by rw[show a=p by simpa using d,c]at e;cases e)
def Pp(us:List (Int×Int))(i:Nat):Int:=1000*(p0 us i).1+(p0 us i).2
def WZ(us:List (Int×Int)):Prop:=us.length<64/\us.Nodup/\∀u∈us,-500<=u.2/\u.2<500
theorem WZ.inj{us:List (Int×Int)}(h:WZ us):Inj us.length (Pp us):=λi j a b e=>by
 have b1:=h.2.2 _ (iE a);have d:=h.2.2 _ (iE b);unfold Pp at e;have e1:p0 us i=p0 us j:=Prod.ext () ();unfold p0 at e1;rw[Jk,Jk,Hy a,Hy b]at e1;have c:=IQ.mp h.2.1;rcases Nat.lt_trichotomy i j with q|q|q
 .exact absurd e1 (c i j _ _ q)
 .exact q
 .exact absurd e1.symm (c j i _ _ q)
section
variable{prog:HW}{w:IA}{A:Iv}{E:Hu->Hv->Prop}{s:Hv}
theorem xS{x y:pd}{a b c d:Int}{t1 f g i:Tok}{C:Bool->Hv->Prop}(hx:IsTup s.heap x (List.toArray [.int a t1,.int b f]))(hy:IsTup s.heap y (List.toArray [.int c g,.int d i]))(p:-500<=b/\b<500)(hd:-500<=d/\d<500) (h:C (decide (1000*a+b<1000*c+d)) s):HJ (HP prog w) A (keyLt' (tuples' KN) (.ref x) (.ref y)) C E s:=by
 let[q,j,_,n,k]:=hx;let[r,l,_,m,o]:=hy;refine PySem.W.kat_lt j k l o ?_;refine PySem.W.kat_cons (wpAny_eqBool_int ?_);by_cases e:a=c
 .subst e;rw[show(a==a)=KN by simp];refine PySem.W.kat_yes (PySem.W.kat_cons (wpAny_eqBool_int ?_));by_cases e2:b=d
  .subst e2;rw[show(b==b)=KN by simp];refine PySem.W.kat_yes (PySem.W.kat_nil ?_);rw[show decide (1000*a+b<1000*a+b)=KO by simp]at h;exact h
  .rw[show(b==d)=KO by simpa using e2];refine PySem.W.kat_no ?_;rw[show(KN&&(0+1==0))=KO by rfl];refine PySem.W.kat_one _ _ ?_;rw[show decide (1000*a+b<1000*a+d)=decide (b<d) by exact decide_eq_decide.mpr ()]at h;exact lt_int h
 .rw[show(a==c)=KO by simpa using e];refine PySem.W.kat_no ?_;show HJ _ _ (oneLt' KN _ _) _ _ _;rw[show decide (1000*a+b<1000*c+d)=decide (a<c) by exact decide_eq_decide.mpr ()]at h;exact oneLt_int h
end
def jY(o:Obj):MO:=.gen λ_ H a=>H a=KJ (.ext (bY a o))
theorem nH{x:V}{u:Hu}(r:RelV x u):∀{xs:ry} {us:List Hu},Vals xs us->Vals (xs++[x]) (us++[u])
 |[],_,.nil=>.cons r .nil
 |_::_,_,.cons a b=>.cons a (nH r b)
section
variable{X:Cx}{KZ:p4}{σ:L2.St}{s:Hv}
theorem xO{l:Hp}{P:MH}{a c:pd}{e1 e:Nat}{f:Array Hu}{ks xs:ry}{us:List (Int×Int)}{its:List Hu}{Q:PySem.Fin->Hv->Prop}{E:Hu->Hv->Prop}{A:Iv}(U:c≠a)(I:Inv X KZ σ l s)(Y:Lb X.K l P)(Z:P a=KJ (jY (IF "list" #[] e1)))(a0:P c=KJ (jY (IF "list" f e)))
 (vk:Vals ks f.toList) (pk:Qd X.K l ks us) (rv:Vals xs its) (hn:us.length=its.length) (B:WZ us)
 (h:∀d H2 M2 s2,Inv X KZ σ H2 s2->L5 X.K l H2->(∀b,b≠a->b≠c->M2 b=P b)->M2 a=KL->M2 c=KL->Lb X.K H2 M2->H2 a=KJ (.lst (d.toList.map λi=>xs.getD i .non))->MT us.length d->Up (Pp us) d us.length->Q (.done (.ret .none)) s2) :
 HJ (HP X.prog X.w) A (ksk_end a KO its.toArray e1 (.ref c) f) Q E s:=by
 have ok:s.heap.get? c=KJ (IF "list" f e):=(I.hok _ _ (Y _ _ a0).1).1
 have oa:s.heap.get? a=KJ (IF "list" #[] e1):=(I.hok _ _ (Y _ _ Z).1).1
 have b0:l c=KJ (.ext (bY c (IF "list" f e))):=(Y _ _ a0).1
 have f0:l a=KJ (.ext (bY a (IF "list" #[] e1))):=(Y _ _ Z).1
 have g0:its.length<64:=by have:=B.1;omega
 have H:f.size=its.length:=by
  have h1:ks.length=f.size:=by rw[<-IW];exact vk.length
  have J:=pk.len
  omega
 have L:f.toList.length=its.length:=by rw[IW];exact H
 have M:f=f.toList.toArray:=(Array.toArray_toList).symm
 have D:∀(d:Array Nat) (st:SortSt),MT us.length d->Up (Pp us) d us.length->arrOf st=d.map (PySem.W.kas_item (f.zip its.toArray))->failedOf st=KL->HJ (HP X.prog X.w) A (ksk_tail a KO e1 (.ref c) st) Q E s:=λd st R hu m hf=>by
  have c0:(arrOf st).map (·.2)=fR its d:=by rw[M]at m;exact PySem.W.kat_snds L m
  have hz:(fR its d).size=its.length:=by unfold fR;rw[HL,Hw,IW,R.size,hn]
  have s1:=J4 s.heap c (IG λ_=>(#[]:Array Hu))
  have N:(s.heap.update c (IG λ_=>(#[]:Array Hu))).get? a=KJ (IF "list" #[] e1):=(s1.2 a U.symm).trans oa
  have s2:=J4 (s.heap.update c (IG λ_=>(#[]:Array Hu))) a (IG λ_=>fR its d)
  obtain⟨c2,d0⟩:∃c2,((s.heap.update c (IG λ_=>(#[]:Array Hu))).update a (IG λ_=>fR its d)).get? a=KJ (IF "list" (fR its d) c2):=#[_,get?_update_seq N λ_=>fR its d]
  obtain⟨O,e0⟩:∃O,(s.heap.update c (IG λ_=>(#[]:Array Hu))).get? c=KJ (IF "list" #[] O):=#[_,get?_update_seq ok λ_=>#[]]
  unfold ksk_tail
  try dsimp only
  rw[c0]
  refine cc (listUpdate_at ok rfl ?_ (by rw[H,Jr];omega) (J3 _))
  refine cc (wpAny_letGo ?_)
  refine cc (seqEpoch_at N rfl ?_)
  refine cc (listUpdate_at N rfl ?_ (J3 _) (by show(fR its d).size<=_;rw[hz,Jr];omega))
  rw[hf]
  simp only[bne_self_eq_false,J1,if_false]
  have I1:=I.write (t':=s.toks) (o:=.ext (bY c (IF "list" #[] O))) (x:=c) (e:=c) (h':=s.heap.update c (IG λ_=>(#[]:Array Hu))) (by rw[b0];exact JV) (.inl rfl) (λb q B z=>(s1.2 b B).trans z) #[_,e0] (iB e0)
  have F:(upd l c (.ext (bY c (IF "list" #[] O)))) a=KJ (.ext (bY a (IF "list" #[] e1))):=by rw[aD U.symm];exact f0
  have vo:Vals (d.toList.map λi=>xs.getD i .non) (d.toList.map λi=>its.getD i .none):=ny rv d.toList
  have I2:=I1.write (t':=s.toks) (o:=.lst (d.toList.map λi=>xs.getD i .non)) (x:=a) (e:=a) (h':=(s.heap.update c (IG λ_=>(#[]:Array Hu))).update a (IG λ_=>fR its d)) (by rw[F];exact JV) (.inl rfl) (λb q B z=>(s2.2 b B).trans z) #[_,d0]
   (show bJ X.prog X.w _ _ _ (.lst _)from #[by rw[Hw,IW,R.size,Jr];omega,_,c2,vo,d0])
  have g1:L5 X.K l (upd l c (.ext (bY c (IF "list" #[] O)))):=.ext b0
  have g2:L5 X.K (upd l c (.ext (bY c (IF "list" #[] O)))) (upd (upd l c (.ext (bY c (IF "list" #[] O)))) a (.lst (d.toList.map λi=>xs.getD i .non))):=.ext F
  refine Hz (h d _ (λb=>if b=a\/b=c then KL else P b) _ I2 (g1.trans g2) (λb n1 n2=>KP (by simp[n1,n2])) (KQ (.inl rfl)) (KQ (.inr rfl)) (λb o z=>?_) aF R hu)
  have z:(if b=a\/b=c then KL else P b)=KJ o:=z
  by_cases u:b=a\/b=c
  .rw[KQ u]at z;cases z
  .rw[KP u]at z
   have n1:b≠a:=λy=>u (.inl y)
   have n2:b≠c:=λy=>u (.inr y)
   exact(Y b o z).ff (g1.trans g2) (by rw[aD n1,aD n2])
 unfold ksk_end
 try dsimp only
 simp only[J1,if_false]
 by_cases J:its.toArray.size<2
 .rw[KQ J,KQ J]
  rw[HL]at J
  refine cc (Hz ?_)
  rw[StateT.run_pure]
  refine cc (Hz ?_)
  try dsimp only
  refine D (HK us.length).toArray _ ⟨Array.Perm.refl _⟩ (λi j h0 hj=>()) ?_ rfl
  have e:=PySem.W.kas_range (f.zip its.toArray)
  rw[show(f.zip its.toArray).size=us.length by rw[Array.size_zip,H,HL,hn,Nat.min_self]]at e
  exact e.symm
 .rw[KP J,KP J]
  rw[HL]at J
  have tp:=yE I pk vk
  let[fs,k1,k2,k3]:=qm (h:=s.heap) (its:=f.toList) (us:=us) (by rw[L,hn]) tp
  have kk:HJ (HP X.prog X.w) A (keyKind' f) (λκ S=>κ=tuples' KN/\S=s) E s:=by
   rw[M]
   refine PySem.W.kat_kind (T:=.type "int") k1 () (λv hv=>?_) ⋯ #[rfl,rfl]
   let[n,t,rfl]:=k3 v hv
   exact PySem.W.Looks.now
  refine cc (HQ kk (λκ S z=>?_) λ_ _ z=>z)
  let[rfl,rfl]:=z
  refine cc (HQ (?run:HJ (HP X.prog X.w) A ((sortRuns').run (SortSt.mk' (tuples' KN) (f.zip its.toArray) #[] 7 KL)) (λr g=>g=S/\∃p,MT its.length p/\Up (Pp us) p its.length/\arrOf r.2=p.map (PySem.W.kas_item (f.zip its.toArray))/\failedOf r.2=KL) E S) ?_ λ_ _ x=>x)
  case run=>
   rw[M]
   refine PySem.W.kat_run (Q:=λst g=>g=S/\∃p,MT its.length p/\Up (Pp us) p its.length/\arrOf st=p.map (PySem.W.kas_item (f.toList.toArray.zip its.toArray))/\failedOf st=KL)
    (G:=λp g=>g=S/\MT its.length p/\Up (Pp us) p its.length) L () g0 (λp st g _ b1 b2 b3=>#[b3.1,p,b3.2.1,b3.2.2,b1,b2])
    (t8 (n:=its.length) (k:=Pp us) (λi j C hi hj hC=>?_) _ (cR (λp q=>#[rfl,q]) _ (xV (by rw[<-hn];exact B.inj) ())))
   let[x,t1,t2,ea,hx]:=tp i ()
   let[y,t3,t4,eb,hy]:=tp j ()
   unfold PySem.W.kas_ask
   rw[ea,eb]
   exact xS hx hy (B.2.2 _ (iE ())) (B.2.2 _ (iE ())) hC
  rintro⟨⟨⟩,st⟩ s1 ⟨q0,p,R,hu,m,hf⟩
  dsimp only at q0 ⊢
  subst q0
  rw[<-hn]at R hu
  exact D p st R hu m hf
end
theorem sV{K:Ht}{H:Hp}{a:r8}{xs:ry}(r:aC K H a xs):∀l:q7,aC K H (l.map λi=>a.getD i .non) (l.map λi=>xs.getD i .non)
 |[]=>by rw[Jm,Jm];exact .nil
 |i::l=>by
  rw[HI,HI]
  refine .cons ?_ (sV r l)
  have c:=r.length
  by_cases h:i<a.length
  .obtain⟨x,e,b⟩:=r.get (show a[i]?=KJ a[i]from Hy h)
   simpa[Jk,h,e]using b
  .have e1:a.getD i .non=.non:=by simp[Jk,List.getElem?_eq_none (Nat.le_of_not_lt h)]
   have e2:xs.getD i .non=.non:=by simp[Jk,List.getElem?_eq_none (by omega:xs.length<=i)]
   rw[e1,e2,Rep]
def Qj(ns ws rs:q_):Prop:=∃ps:List (Int×Int),ps.Perm (ns.zip ws)/\rs=ps.map (·.2)/\ps.Pairwise λp q=>p.1<=q.1
theorem qh:∀{vs:List Hu},(∀v∈vs,∃n t,v=.int n t)->Jt vs (vs.map numOf)
 |[],_=>.nil
 |v::vs,h=>by
  let[n,t,rfl]:=h v (by simp)
  exact .cons n t (qh (vs:=vs) λy hy=>h y (by simp[hy]))
theorem Ct{ns ws:q_}{its out:List Hu}(b:Jt its ws)(h:KskOut KO ns its out):∃rs,Qj ns ws rs/\Jt out rs/\rs.length=out.length:=by
 let[ps,h1,c,d]:=h;have hv:∀v∈out,∃n t,v=.int n t:=λv m=>by rw[c]at m;let[p,f,rfl]:=IZ.mp m;let[x,y]:=p;exact b.all _ (List.of_mem_zip (h1.subset f)).2
 refine #[out.map numOf,#[ps.map λp=>(p.1,numOf p.2),?_,?_,?_],qh hv,by rw[Hw]]
 .have e:(ns.zip its).map (λp:Int×Hu=>(p.1,numOf p.2))=ns.zip ws:=by rw[<-b.nums,List.zip_map_right];exact Kb λa _=>by let[x,y]:=a;exact(rfl)
  rw[<-e];exact h1.map _
 .rw[c,Jb,Jb];rfl
 .rw[List.pairwise_map];exact d
section
variable{X:Cx}{KZ:p4}{σ:L2.St}{s:Hv}
theorem vj{k:Hp}{v:MH}{a c:pd}{e1 e:Nat}{f:Array Hu}{ns ws:q_}{its:List Hu}{Q:PySem.Fin->Hv->Prop}{E:Hu->Hv->Prop}{A:Iv}(C:c≠a)(I:Inv X KZ σ k s)(D:Lb X.K k v)(F:v a=KJ (jY (IF "list" #[] e1)))(G:v c=KJ (jY (IF "list" f e)))
 (O:Jt f.toList ns) (rv:Jt its ws) (hn:ns.length=its.length) (b0:ns.length<64)
 (h:∀rs P M2 R,Inv X KZ σ P R->L5 X.K k P->(∀b,b≠a->b≠c->M2 b=v b)->M2 a=KL->M2 c=KL->Lb X.K P M2->P a=KJ (.lst (rs.map V.int))->Qj ns ws rs->Q (.done (.ret .none)) R) :
 HJ (HP X.prog X.w) A (ksk_end a KO its.toArray e1 (.ref c) f) Q E s:=by
 have ok:s.heap.get? c=KJ (IF "list" f e):=(I.hok _ _ (D _ _ G).1).1
 have oa:s.heap.get? a=KJ (IF "list" #[] e1):=(I.hok _ _ (D _ _ F).1).1
 have H:k c=KJ (.ext (bY c (IF "list" f e))):=(D _ _ G).1
 have S:k a=KJ (.ext (bY a (IF "list" #[] e1))):=(D _ _ F).1
 have r:f.size=its.length:=by
  have h1:=O.length
  rw[IW]at h1
  omega
 have l:(f.zip its.toArray).size=its.length:=by rw[Array.size_zip,r,HL,Nat.min_self]
 have n:∀st:SortSt,(arrOf st).Perm (f.zip its.toArray)->SortedTo (arrOf st) (arrOf st).size->failedOf st=KL->HJ (HP X.prog X.w) A (ksk_tail a KO e1 (.ref c) st) Q E s:=λst J T U=>by
  let[rs,bk,L,il]:=Ct rv (ksk_out (b:=KO) O J T)
  have L:Jt ((arrOf st).map (·.2)).toList rs:=L
  have W:((arrOf st).map (·.2)).size=its.length:=by rw[Array.size_map,J.size_eq,l]
  generalize eo:(arrOf st).map (·.2)=d at L W
  have s1:=J4 s.heap c (IG λ_=>(#[]:Array Hu))
  have t:(s.heap.update c (IG λ_=>(#[]:Array Hu))).get? a=KJ (IF "list" #[] e1):=(s1.2 a C.symm).trans oa
  have R:=J4 (s.heap.update c (IG λ_=>(#[]:Array Hu))) a (IG λ_=>d)
  obtain⟨Y,M⟩:∃Y,((s.heap.update c (IG λ_=>(#[]:Array Hu))).update a (IG λ_=>d)).get? a=KJ (IF "list" d Y):=#[_,get?_update_seq t λ_=>d]
  obtain⟨u,N⟩:∃u,(s.heap.update c (IG λ_=>(#[]:Array Hu))).get? c=KJ (IF "list" #[] u):=#[_,get?_update_seq ok λ_=>#[]]
  unfold ksk_tail
  try dsimp only
  simp only[J1,if_false]
  rw[eo]
  refine cc (listUpdate_at ok rfl ?_ (by rw[r,Jr];omega) (J3 _))
  refine cc (wpAny_letGo ?_)
  refine cc (seqEpoch_at t rfl ?_)
  refine cc (listUpdate_at t rfl ?_ (J3 _) (by show d.size<=_;rw[W,Jr];omega))
  rw[U]
  simp only[bne_self_eq_false,J1,if_false]
  have I1:=I.write (t':=s.toks) (o:=.ext (bY c (IF "list" #[] u))) (x:=c) (e:=c) (h':=s.heap.update c (IG λ_=>(#[]:Array Hu))) (by rw[H];exact JV) (.inl rfl) (λb q Z z=>(s1.2 b Z).trans z) #[_,N] (iB N)
  have p:(upd k c (.ext (bY c (IF "list" #[] u)))) a=KJ (.ext (bY a (IF "list" #[] e1))):=by rw[aD C.symm];exact S
  have ll:rs.length=its.length:=by rw[<-L.length,IW,W]
  have I2:=I1.write (t':=s.toks) (o:=.lst (rs.map V.int)) (x:=a) (e:=a) (h':=(s.heap.update c (IG λ_=>(#[]:Array Hu))).update a (IG λ_=>d)) (by rw[p];exact JV) (.inl rfl) (λb q Z z=>(R.2 b Z).trans z) #[_,M]
   (show bJ X.prog X.w _ _ _ (.lst _)from #[by rw[Hw,ll,Jr];omega,d.toList,Y,jG L,by rw[Array.toArray_toList];exact M])
  have g1:L5 X.K k (upd k c (.ext (bY c (IF "list" #[] u)))):=.ext H
  have g2:L5 X.K (upd k c (.ext (bY c (IF "list" #[] u)))) (upd (upd k c (.ext (bY c (IF "list" #[] u)))) a (.lst (rs.map V.int))):=.ext p
  refine Hz (h rs _ (λb=>if b=a\/b=c then KL else v b) _ I2 (g1.trans g2) (λb n1 n2=>KP (by simp[n1,n2])) (KQ (.inl rfl)) (KQ (.inr rfl)) (λb o z=>?_) aF bk)
  have z:(if b=a\/b=c then KL else v b)=KJ o:=z
  by_cases m:b=a\/b=c
  .rw[KQ m]at z;cases z
  .rw[KP m]at z
   have n1:b≠a:=λy=>m (.inl y)
   have n2:b≠c:=λy=>m (.inr y)
   exact(D b o z).ff (g1.trans g2) (by rw[aD n1,aD n2])
 unfold ksk_end
 try dsimp only
 simp only[J1,if_false]
 by_cases B:its.toArray.size<2
 .rw[KQ B,KQ B]
  rw[HL]at B
  refine cc (Hz ?_)
  rw[StateT.run_pure]
  refine cc (Hz ?_)
  try dsimp only
  refine n _ (Array.Perm.refl _) (λi j c0 hj=>?_) rfl
  have a0:j<(f.zip its.toArray).size:=hj
  rw[l]at a0
  have:i=j:=()
  subst this
  exact Int.le_refl _
 .rw[KP B,KP B]
  rw[HL]at B
  rw[ksk_kind O (by rw[r];omega)]
  refine cc (Hz ?_)
  refine cc (HQ (wpS_sortRuns (a₀:=f.zip its.toArray) (st:=SortSt.mk' oneType' (f.zip its.toArray) #[] 7 KL)
   (Q:=λ_ g=>(arrOf g).Perm (f.zip its.toArray)/\failedOf g=KL/\SortedTo (arrOf g) (f.zip its.toArray).size)
   (ksk_intKeys O) #[Array.Perm.refl _,rfl,rfl,rfl] (by rw[l];omega) (by rw[l];omega) λg a1 a2 a3=>#[a1,a2,a3]) ?_ λ_ _ e=>e)
  rintro⟨⟨⟩,g⟩ s' ⟨rfl,J,U,T⟩
  try dsimp only
  exact n g J (by rw[J.size_eq];exact T) U
end
end SD
namespace SE
open SD PySem PySem.Spec PyProof.Rows L2
end SE
namespace SD
open PySem PySem.Spec PyProof.Rows L2
theorem n8(t b X g h u:Int):LK t b X 1 (g*u-h)=LK (g*t) b (X-h*t) 1 u:=by unfold LK;rw[show(g*u-h)*t+X*1=u*(g*t)+(X-h*t)*1 by grind]
theorem AW(t b X Y g h:Int)(w:Wl):L6 t b X Y (raw g h w)=L6 (g*t) b (X-h*t) (Y-h*t) w:=by unfold L6 raw;dsimp only;rw[n8,n8,n8,n8]
theorem wV(t b X Y g h:Int)(ws:r3):(ws.map (raw g h)).map (L6 t b X Y)=ws.map (L6 (g*t) b (X-h*t) (Y-h*t)):=by rw[Jb];exact Kb λw _=>AW t b X Y g h w
theorem AO{t b X Y g h:Int}(S:MK t b X Y)(G:Gs g h)(a:t<=10^20)(d:b<=10^25)(hx:-(10^27)<=X/\X<=10^27)(hy:-(10^27)<=Y/\Y<=10^27):MK (g*t) b (X-h*t) (Y-h*t):=by have t0:=S.t0;have b0:=S.b0;have g0:=G.g0;have g1:=G.g1;have h0:=G.h0;have h1:=G.h1;have c:0<g*t:=Ij g0 t0;have e:g*t<=12*10^20:=Kz g1 a () ⋯;have f:0<=h*t:=Kj h0 ();have i:h*t<=24*10^20:=Kz h1 a () ⋯;exact #[c,(),b0,(),(),(),(),()]
theorem tK{ws:r3}(f:∀w∈ws,Le w)(hF:PF ws):∀(n:Nat) (fs:q_),fs.length=n->fs≠[]->fs.Nodup->(∀k∈fs,0<=k/\k<ws.length)->∃t∈fs,∀k∈fs,Ll (L7 ws t) (L7 ws k)=KO
 |0,fs,hl,hn,_,_=>absurd (JF.mp hl) hn
 |n+1,fs,hl,hn,nd,hb=>by
  let[t,c,top]:=Ag f hF (n+1) fs hl hn nd hb
  by_cases z:fs.erase t=[]
  .refine #[t,c,λk a=>?_]
   by_cases e:k=t
   .rw[e];exact top t c
   .have:=(Jw nd).mpr #[e,a]
    rw[z]at this;cases this
  .have l1:=List.length_erase_of_mem c
   let[g,b,d]:=tK f hF n (fs.erase t) () z (nd.erase t) λk a=>hb k (JT a)
   refine #[g,JT b,λk a=>?_]
   by_cases e:k=t
   .rw[e];exact top g (JT b)
   .exact d k ((Jw nd).mpr #[e,a])
def Yl(u:D)(cs:r8)(g m:D):List (Str×D):=[("plot",u),("corners",.tup cs),("guide",g),("most_looks",m)]
def QS(u:D)(cs:r8)(g m r:D):List (Str×D):=[("plot",u),("corners",.tup cs),("guide",g),("most_looks",m),("layer_rows",r)]
structure Qg(t b X Y:Int)(ps:List Vc)(i:Nat)(kvs:MP):Prop where
 len:kvs.length<=i
 vs:∀j v,j<i->ps[j]?=KJ v->dz kvs (gk t b X Y v)=KJ (.int (j:Int))
theorem Qg.nil(t b X Y:Int)(ps:List Vc):Qg t b X Y ps 0 []:=#[HD _,λj v h=>absurd h (Nat.not_lt_zero _)]
theorem Qg.put{t b X Y:Int}{ps:List Vc}{i:Nat}{kvs:MP}{v:Vc}(c:0<t)(d:0<b)(h:Qg t b X Y ps i kvs)(nd:ps.Nodup)(e:ps[i]?=KJ v):Qg t b X Y ps (i+1) (putD kvs (gk t b X Y v) (.int (i:Int))):=by
 refine #[?_,λj u f a=>?_]
 .have:=h.len;unfold putD;split<;>simp<;>omega
 .rw[qj];by_cases z:j=i
  .subst z;rw[e]at a;cases a;rw[KQ rfl]
  .rw[KP,h.vs j u () a];intro q;have:=rH c d q;subst this;let[l1,e1]:=HC.mp a;let[l2,e2]:=HC.mp e;exact z ((List.getElem_inj nd).mp (e1.trans e2.symm))
def Mw(ps:List Vc)(c:Vc):Nat:=ps.idxOf c
theorem oT{ps:List Vc}{c:Vc}(h:c∈ps):ps[Mw ps c]?=KJ c/\Mw ps c<ps.length:=by have l:=List.idxOf_lt_length_iff.mpr h;exact #[by unfold Mw;rw[Hy l,List.getElem_idxOf],l]
def ON(ps:List Vc)(w:Wl):D:=.tup [.int (Mw ps (ea w):Int),.int (Mw ps (eb w):Int)]
theorem Qj.perm{ns ws rs:q_}(h:Qj ns ws rs)(e:ns.length=ws.length):rs.Perm ws:=by let[ps,h1,rfl,_]:=h;have:=h1.map (·.2);rw[List.map_snd_zip ()]at this;exact this
def NI(M:MH)(b:rq)(rs:List (q_)):Prop:=b.length=rs.length/\∀(i:Nat) a r,b[i]?=KJ a->rs[i]?=KJ r->M a=KJ (.lst (r.map D.int))
theorem NI.nil{M:MH}:NI M [] []:=#[rfl,λi a r h=>by simp at h]
theorem NI.to{M c:MH}{b:rq}{rs:List (q_)}(h:NI M b rs)(k:∀a l,a∈b->M a=KJ (.lst l)->c a=KJ (.lst l)):NI c b rs:=#[h.1,λi a r d e=>k a _ (HE d) (h.2 i a r d e)]
theorem NI.more{M:MH}{d:rq}{rs:List (q_)}{q:pd}{r:q_}(h:NI M d rs)(f:M q=KJ (.lst (r.map D.int))):NI M (d++[q]) (rs++[r]):=by
 refine #[by rw[IJ,IJ,h.1];rfl,λi a g b c=>?_];rcases Nat.lt_or_ge i d.length with l|l
 .rw[IB l]at b;rw[IB (by rw[<-h.1];exact l)]at c;exact h.2 i a g b c
 .rw[Iz l]at b;rw[Iz (by rw[<-h.1];exact l),<-h.1]at c;cases e:i-d.length with
  |zero=>rw[e]at b c;cases b;cases c;exact f
  |succ m=>rw[e]at b;cases b
theorem bW.neL{q:Str}{Pt:pd}{pos:Pos}{M:MH}(h:bW q Pt pos M){l:pd}{b:r8}(a:M l=KJ (.lst b)):l≠Pt:=λe=>by subst e;rcases h with h|⟨_,h,_⟩<;>rw[h]at a<;>cases a
theorem bW.neN{q:Str}{Pt:pd}{pos:Pos}{M:MH}(h:bW q Pt pos M){p:pd}(a:M p=KL):p≠Pt:=λe=>by subst e;rcases h with h|⟨_,h,_⟩<;>rw[h]at a<;>cases a
def aS(ws:r3)(fs:q_)(k:Int):Bool:=fs.all λo=>!Ll (L7 ws k) (L7 ws o)
theorem kZ{fs:q_}{p:Int->Bool}(h:∃k∈fs,p k=KN):(fs.filter λk=>!p k).length<fs.length:=by let[k,a,e]:=h;have:=(List.filter_append_perm p fs).length_eq;rw[IJ]at this;have:0<(fs.filter p).length:=List.length_pos_of_mem (Iw.mpr #[a,e]);omega
theorem oH(fs:q_)(p:Int->Bool):(HK (fs.map D.int).length).filterMap (λj=>(fs[j]?).bind λa=>if p a=KN then KJ (D.int a)else KL)=(fs.filter p).map D.int:=by rw[Hw,qp,gZ]
theorem jg(K:Ht){C:pd}{fs:List (Str×D)}{ps:Array Hu}(h:dU C fs=rN ps):False:=by injection h with h;have:=(congrFun (congrFun (congrFun h K) (λ_=>KJ (.tbl ps))) 0).mpr rfl;let[a,vs,e,_]:=this;cases e
theorem sU(K:Ht){C:pd}{fs:List (Str×D)}{q:Str}(h:dU C fs=sv q):False:=by injection h with h;have:=(congrFun (congrFun (congrFun h K) (λ_=>KJ (.ext (ot 0 q)))) 0).mpr rfl;let[a,vs,e,_]:=this;cases e
theorem bW.ins(K:Ht){q:Str}{Pt:pd}{pos:Pos}{M f:MH}{a C:pd}{fs:List (Str×D)}(h:bW q Pt pos M)(i:M a=KJ (dU C fs))(s:dg a M f):bW q Pt pos f:=by
 have t:∀{b:pd} {o:MO},M b=KJ o->(dU C fs=o->False)->b≠a:=λd n e=>by subst e;rw[i]at d;injection d with d;exact n d
 rcases h with h|⟨c,h1,g,j⟩
 .exact .inl (s _ _ (t h (jg K)) h)
 .exact .inr #[c,s _ _ (t h1 (jg K)) h1,s _ _ (t g (sU K)) g,j]
theorem bW.neI(K:Ht){q:Str}{Pt:pd}{pos:Pos}{M:MH}{a C:pd}{fs:List (Str×D)}(h:bW q Pt pos M)(b:M a=KJ (dU C fs)):a≠Pt:=λe=>by subst e;rcases h with h|⟨c,h,_⟩<;>rw[b]at h<;>injection h with h<;>exact jg K h
theorem Aw{M:MH}{a b C:pd}{fs:List (Str×D)}{d:r8}(f:M a=KJ (dU C fs))(c:M b=KJ (.lst d)):b≠a:=λe=>by subst e;rw[f]at c;cases c
theorem zf{r:q_}(h:∀k∈r,0<=k):r.map D.int=(r.map Int.toNat).map λk:Nat=>D.int (k:Int):=by rw[Jb];exact Kb λk a=>by show D.int k=D.int ((k.toNat:Nat):Int);rw[Int.toNat_of_nonneg (h k a)]
theorem bW.pot{q:Str}{Pt r:pd}{pos:Pos}{M b:MH}{n:Nat}(h:bW q Pt pos M)(P:Lq M r n)(k:Kx [r] M b):bW q Pt pos b:=
 h.kx (xs:=[r]) k λa c A e=>by
  let[_,_,_,d,_]:=P
  rw[show a=r by simpa using c,d]at e;cases e
def MF(w:Wl)(x:Int):Int:=if w.1=w.2.2.1 then w.2.1 else w.2.1*(w.2.2.1-w.1)+(w.2.2.2-w.2.1)*(x-w.1)
def MB(w:Wl):Int:=if w.1=w.2.2.1 then 1 else w.2.2.1-w.1
def Qa(u v:Wl):Bool:=decide ((v.2.2.2-v.2.1)*(u.2.2.1-u.1)<(u.2.2.2-u.2.1)*(v.2.2.1-v.1))
def OV(u v:Wl)(x:Int):Bool:=if MF u x*MB v=MF v x*MB u then Qa u v==decide (u.1=x)else decide (MF v x*MB u<MF u x*MB v)
theorem tE{w:Wl}(W:Le w):0<MB w:=by
 unfold MB;split
 .decide
 .rename_i h;have:=W.lt;have:=W.b;have:=W.d;unfold l1 l2 la at *;omega
theorem k6(w:Wl):MF w w.1=w.2.1*MB w:=by
 unfold MF MB;split
 .omega
 .rw[Int.sub_self,Int.mul_zero,Int.add_zero]
theorem ph{U V:Wl}(f:Le U)(a:Le V)(F:aV V (l1 U) (Lh V U))(h1:l1 V<l1 U)(g:l1 U<l2 V):U.2.1*MB V-MF V U.1=Lh V U/\Lh V U≠0:=by
 have nz:=F.nz h1 g;refine #[?_,nz]
 have c:V.1≠V.2.2.1:=λe=>by
  have b1:=f.b
  have h:=a.b
  have i:=a.d
  have ex:U.1=V.1:=by unfold l1 l2 la at *;omega
  refine nz ?_
  unfold Lh sd Mg
  rw[ex,<-e]
  simp
 unfold MB MF Lh sd Mg;rw[KP c,KP c];grind
theorem CJ{U V:Wl}(c:Le U)(d:Le V)(F:Lv U V)(a:max (l1 U) (l1 V)<min (l2 U) (l2 V)):OV U V (if l1 V<=l1 U then U.1 else V.1)=Ll U V:=by
 let[l,i,j,m]:=fY.mp a;have g:=tE c;have h:=tE d;rcases Ih (l1 V) (l1 U)with y|y|y
 .obtain⟨e,nz⟩:=ph c d F.e3 y i;rw[KQ (IL y),tF a y];have k:MF U U.1*MB V-MF V U.1*MB U=MB U*Lh V U:=by rw[k6,<-e];grind
  unfold OV;by_cases z:0<Lh V U
  .have:=Ij g z;rw[KP (),KS z,KS ()]
  .have:=Ii g (():Lh V U<0);rw[KP (),KR z,KR ()]
 .obtain⟨ex,f⟩:=lH d.b c.b y;rw[KQ (Kd y)];have k:MF U U.1*MB V=MF V U.1*MB U:=by rw[k6,<-ex,k6,f];grind
  unfold OV;rw[KQ k,KS rfl];have e1:∀b:Bool,(b==KN)=b:=λb=>by cases b<;>rfl
  rw[e1];by_cases z:l2 U<l2 V
  .rw[tN a y.symm z];unfold Qa Lj sd Mg;rw[KU,ex,f];have:=Int.mul_comm (V.2.2.1-U.1) (U.2.2.2-U.2.1);omega
  .rw[ui a y.symm z];unfold Qa Lj sd Mg;rw[KU,<-ex,<-f];have:=Int.mul_comm (U.2.2.1-V.1) (V.2.2.2-V.2.1);omega
 .obtain⟨e,nz⟩:=ph d c F.e1 y j;rw[KP (),tI a y];have k:MF U V.1*MB V-MF V V.1*MB U=-(MB V*Lh U V):=by rw[k6 V,<-e];grind
  unfold OV;by_cases z:Lh U V<0
  .have:=Ii h z;rw[KP (),KS z,KS ()]
  .have:=Ij h (():0<Lh U V);rw[KP (),KR z,KR ()]
theorem Df{g h:Int}(c:0<g)(u v:Wl)(x:Int):∃k,0<k/\MF (raw g h u) (g*x-h)*MB (raw g h v)-MF (raw g h v) (g*x-h)*MB (raw g h u)=k*(MF u x*MB v-MF v x*MB u):=by
 have f:=Ij c c;unfold MF MB raw;dsimp only;by_cases a:u.1=u.2.2.1<;>by_cases b:v.1=v.2.2.1
 .rw[KQ (by rw[a]),KQ (by rw[b]),KQ (by rw[b]),KQ (by rw[a]),KQ a,KQ b,KQ b,KQ a];exact #[g,c,by grind]
 .have d:¬g*v.1-h=g*v.2.2.1-h:=λz=>b ((mf c).mp z);rw[KQ (by rw[a]),KP d,KP d,KQ (by rw[a]),KQ a,KP b,KP b,KQ a];exact #[g*g,f,by grind]
 .have e:¬g*u.1-h=g*u.2.2.1-h:=λz=>a ((mf c).mp z);rw[KP e,KQ (by rw[b]),KQ (by rw[b]),KP e,KP a,KQ b,KQ b,KP a];exact #[g*g,f,by grind]
 .have e:¬g*u.1-h=g*u.2.2.1-h:=λz=>a ((mf c).mp z);have d:¬g*v.1-h=g*v.2.2.1-h:=λz=>b ((mf c).mp z);rw[KP e,KP d,KP d,KP e,KP a,KP b,KP b,KP a];exact #[g*g*g,Ij f c,by grind]
theorem DX{g h:Int}(a:0<g)(u v:Wl):Qa (raw g h u) (raw g h v)=Qa u v:=by
 have b:=Ij a a;unfold Qa raw;dsimp only;rw[KU];have e1:(g*v.2.2.2-h-(g*v.2.1-h))*(g*u.2.2.1-h-(g*u.1-h))=g*g*((v.2.2.2-v.2.1)*(u.2.2.1-u.1)):=by grind
 have e2:(g*u.2.2.2-h-(g*u.2.1-h))*(g*v.2.2.1-h-(g*v.1-h))=g*g*((u.2.2.2-u.2.1)*(v.2.2.1-v.1)):=by grind
 rw[e1,e2];exact #[λz=>Int.lt_of_mul_lt_mul_left z (IL b),λz=>Int.mul_lt_mul_of_pos_left z b]
theorem D9{g h:Int}(a:0<g)(u v:Wl)(x:Int):OV (raw g h u) (raw g h v) (g*x-h)=OV u v x:=by
 let[k,b,e]:=Df (h:=h) a u v x;unfold OV;rw[DX a];have e3:decide ((raw g h u).1=g*x-h)=decide (u.1=x):=decide_eq_decide.mpr (mf a);rw[e3];generalize MF (raw g h u) (g*x-h)*MB (raw g h v)=A at e ⊢;generalize MF (raw g h v) (g*x-h)*MB (raw g h u)=B at e ⊢;generalize MF u x*MB v=C at e ⊢;generalize MF v x*MB u=D at e ⊢;rcases Ih C D with y|y|y
 .have:=Ii b (():C-D<0);rw[KP (),KP (),KR (),KR ()]
 .subst y;rw[Int.sub_self,Int.mul_zero]at e;rw[KQ (),KQ rfl]
 .have:=Ij b (():0<C-D);rw[KP (),KP (),KS (),KS ()]
theorem kg:∀(ts:rx) (k:Nat) (a:Str),(textFrom k a ts).length<=a.length+piled ts
 |[],k,a=>Nat.le_add_right _ _
 |t::r,k,a=>by
  have h:=kg r (k+1) (a++(if k>0 then ", " else "":String)++t)
  have e:(a++(if k>0 then ", " else "":String)++t).length<=a.length+2+t.length:=by
   rw[strLen_append,strLen_append]
   have:(((if k>0 then ", " else "":String):Str)).length<=2:=by split<;>decide
   omega
  rw[piled_cons]
  show(textFrom (k+1) _ r).length<=_
  omega
theorem j6(ts:rx):(listText ts).length<=piled ts+2:=by unfold listText;rw[strLen_append];have h:=kg ts 0 "[";have e1:((("[":String):Str)).length=1:=rfl;have e2:((("]":String):Str)).length=1:=rfl;rw[e1]at h;rw[e2];omega
theorem lV{n:Nat}:∀{ts:rx},(∀t∈ts,t.length<=n)->piled ts<=ts.length*(n+2)
 |[],_=>J3 _
 |t::ts,h=>by
  have:=lV (ts:=ts) λx hx=>h x (by simp[hx])
  have:=h t (by simp)
  rw[piled_cons,Io,Nat.succ_mul]
  omega
theorem pL:∀n:_root_.Fin 81,(PyData.shown (.int ((n.val:Nat):Int))).length<=2:=by decide +kernel
theorem wq{i:Int}(h:Ld i):(PyData.shown (.int i)).length<=2:=by have:=pL #[i.toNat,by unfold Ld at h;omega];rw[show(((#[i.toNat,by unfold Ld at h;omega]:_root_.Fin 81).val:Nat):Int)=i by unfold Ld at h;show((i.toNat:Nat):Int)=i;omega]at this;exact this
theorem fU{b:Type}(f:b->K8):∀l:List b,PyData.shownAll (l.map f)=l.map λa=>(f a).shown
 |[]=>rfl
 |a::l=>by rw[HI,PyData.shownAll,fU f l];rfl
theorem sF{ns:q_}(h:∀i∈ns,Ld i):(PyData.shown (.list (ns.map JM))).length<=ns.length*4+2:=by
 show(listText (PyData.shownAll (ns.map JM))).length<=_;rw[fU];refine ID (j6 _) ?_;have:=lV (n:=2) (ts:=ns.map λa=>(JM a).shown) λt b=>by let[i,c,rfl]:=IZ.mp b;exact wq (h i c)
 rw[Hw]at this;omega
theorem Dw{i:Int}(h:Ld i):PyData.showable (.int i)=KN:=by show decide (i.natAbs.log2<1920)=KN;have:=Nat.log2_le_self i.natAbs;unfold Ld at h;exact KS ()
theorem uz:∀{ns:q_},(∀i∈ns,Ld i)->PyData.showableAll (ns.map JM)=KN
 |[],_=>rfl
 |i::ns,h=>by rw[HI,PyData.showableAll,Dw (h i (by simp)),uz λx hx=>h x (by simp[hx])];rfl
theorem uG:∀ns:q_,PyData.hasDictAll (ns.map JM)=KO
 |[]=>rfl
 |i::ns=>by rw[HI,PyData.hasDictAll,uG ns];rfl
theorem uq:∀ns:q_,Jx (ns.map JM)<=1
 |[]=>L8 rfl
 |i::ns=>by
  rw[HI,Jx]
  exact Nat.max_le.mpr #[L8 rfl,uq ns]
inductive Lay(ws:r3):q_->List (q_)->Prop
 |nil:Lay ws [] []
 |row {fs r:q_} {rs:List (q_)} (ne:fs≠[]) (p:r.Perm (fs.filter (aS ws fs))) (up:r.Pairwise λa b=>l1 (L7 ws a)<l1 (L7 ws b)) (h:Lay ws (fs.filter λk=>!aS ws fs k) rs):Lay ws fs (r::rs)
theorem Lay.uniq{ws:r3}{fs:q_}{rs:List (q_)}(h:Lay ws fs rs):∀{a},Lay ws fs a->rs=a:=by
 induction h with
 |nil=>
  intro a b
  cases b with
  |nil=>rfl
  |row ne=>exact absurd rfl ne
 |row ne p up h e=>
  intro a b
  cases b with
  |nil=>exact absurd rfl ne
  |row f g c d=>rw[e d,List.Perm.eq_of_pairwise (λx y _ _ h1 d=>()) up c (p.trans g.symm)]
theorem Lay.step{ws:r3}{c fs r:q_}{rs:List (q_)}(d:∀z,Lay ws fs z->Lay ws c (rs++z))(ne:fs≠[])(p:r.Perm (fs.filter (aS ws fs)))(up:r.Pairwise λa b=>l1 (L7 ws a)<l1 (L7 ws b)):∀z,Lay ws (fs.filter λk=>!aS ws fs k) z->Lay ws c ((rs++[r])++z):=λz h=>by rw[Kq];exact d _ (.row ne p up h)
structure Fs(ws:r3)(fs:q_):Prop where
 nd:fs.Nodup
 b:∀k∈fs,0<=k/\k<ws.length
theorem Fs.filter{ws:r3}{fs:q_}(h:Fs ws fs)(p:Int->Bool):Fs ws (fs.filter p):=#[h.nd.filter _,λk a=>h.b k (Iw.mp a).1]
theorem Fs.perm{ws:r3}{fs a:q_}(h:Fs ws fs)(p:a.Perm fs):Fs ws a:=#[p.nodup_iff.mpr h.nd,λk c=>h.b k (p.mem_iff.mp c)]
theorem Fs.len{ws:r3}{fs:q_}(h:Fs ws fs):fs.length<=ws.length:=by
 have:=(h.nd).length_le_of_subset (l₂:=(HK ws.length).map λk:Nat=>(k:Int)) λk a=>by
  have:=h.b k a
  exact IZ.mpr #[k.toNat,List.mem_range.mpr (),()]
 simpa using this
def Qq(ws:r3)(fs:q_):Prop:=∀a∈fs,∀b∈fs,Ll (L7 ws a) (L7 ws b)=KO
theorem nY{ws:r3}{fs:q_}:Qq ws (fs.filter (aS ws fs)):=λa c b d=>by have:=(Iw.mp c).2;unfold aS at this;have:=Jo.mp this b (Iw.mp d).1;simpa using this
theorem yW{ws:r3}{fs:q_}(hF:PF ws)(F:Fs ws fs){a b:Int}(c:a∈fs)(d:b∈fs)(ne:a≠b):Lv (L7 ws a) (L7 ws b):=by have A:=F.b a c;have B:=F.b b d;exact hF a.toNat b.toNat _ _ () (aQ A.1 A.2).1 (aQ B.1 B.2).1
theorem r9{ws:r3}{fs:q_}(f:∀w∈ws,Le w)(hF:PF ws)(F:Fs ws fs)(L:Qq ws fs){a b:Int}(c:a∈fs)(d:b∈fs)(ne:a≠b)(h:l1 (L7 ws a)<=l1 (L7 ws b)):l2 (L7 ws a)<=l1 (L7 ws b):=by
 have A:=F.b a c;have B:=F.b b d;have g:=f _ (aQ A.1 A.2).2.2;have i:=f _ (aQ B.1 B.2).2.2;have fr:=yW hF F c d ne;by_cases e:max (l1 (L7 ws a)) (l1 (L7 ws b))<min (l2 (L7 ws a)) (l2 (L7 ws b))
 .have:=qN g i fr e;rw[L a c b d,L b d a c]at this;cases this
 .have:=g.lt;have:=i.lt;rw[Int.max_def,Int.min_def]at e;split at e<;>split at e<;>omega
theorem DF{ws:r3}{fs:q_}(c:∀w∈ws,Le w)(hF:PF ws)(F:Fs ws fs)(L:Qq ws fs)(h:fs.Pairwise λa b=>l1 (L7 ws a)<=l1 (L7 ws b)):fs.Pairwise λa b=>l1 (L7 ws a)<l1 (L7 ws b):=by refine K0 (λ{a b} d e z=>?_) (h.and F.nd);have:=r9 c hF F L d e z.2 z.1;have A:=F.b a d;have:=(c _ (aQ A.1 A.2).2.2).lt;omega
theorem Qj.up{f:Int->Int}{ws rs:q_}(h:Qj (ws.map f) ws rs):rs.Pairwise λa b=>f a<=f b:=by
 let[ps,h1,rfl,d]:=h;rw[List.pairwise_map];refine K0 (λ{p q} c g z=>?_) d
 have key:∀p∈ps,p.1=f p.2:=λp c=>by
  have:=h1.mem_iff.mp c
  rw[List.zip_map_left]at this
  obtain⟨⟨x,y⟩,hx,rfl⟩:=IZ.mp this
  have:=List.of_mem_zip hx
  have e:x=y:=by let[i,j,e]:=List.mem_iff_getElem.mp hx;rw[List.getElem_zip]at e;cases e;rfl
  rw[e];rfl
 rw[<-key p c,<-key q g];exact z
theorem D0{ps:List Vc}(up:ps.Pairwise MV){u v:Vc}(d:u∈ps)(hv:v∈ps)(h:(Mw ps u:Int)<=(Mw ps v:Int)):100*u.1+u.2<=100*v.1+v.2:=by
 let[a,b]:=oT d;let[b1,c]:=oT hv;rw[Hy b]at a;rw[Hy c]at b1;rcases Nat.lt_or_ge (Mw ps u) (Mw ps v)with z|z
 .have:=IQ.mp up _ _ b c z;rw[Option.some.inj a,Option.some.inj b1]at this;exact IL this
 .have e:Mw ps u=Mw ps v:=()
  have:u=v:=by
   have e1:=Option.some.inj a
   have e2:=Option.some.inj b1
   rw[<-e1,<-e2];simp only[e]
  rw[this];exact Int.le_refl _
theorem vX{fs:q_}{a:Array Nat}(h:MT fs.length a):(a.toList.map λi=>(fs.map D.int).getD i .non)=(a.toList.map λi=>fs.getD i 0).map D.int/\(a.toList.map λi=>fs.getD i 0).Perm fs:=by
 constructor
 .rw[Jb];refine Kb λi c=>?_
  have b:i<fs.length:=by
   have:i∈a:=‹c›
   have:=h.perm.mem_iff.mp this
   simpa using this
  simp[b]
 .have e1:=(Array.perm_iff_toList_perm.mp h.perm).map λi=>fs.getD i 0
  have e2:(HK fs.length).map (λi=>fs.getD i 0)=fs:=by
   apply List.ext_getElem
   .simp
   .intro i h1 d;simp[d]
  have e3:(HK fs.length).toArray.toList=HK fs.length:=rfl;rw[e3,e2]at e1;exact e1
def QT(g h:Int)(ws:r3)(k:Int):Int×Int:=(g*(L7 ws k).1-h,g*(L7 ws k).2.1-h)
theorem Cm{g h:Int}(c:0<g){u v:Int×Int}(b1:0<=u.2/\u.2<=20)(b:0<=v.2/\v.2<=20)(a:g<=12)(z:1000*(g*u.1-h)+(g*u.2-h)<1000*(g*v.1-h)+(g*v.2-h)):la u.1 u.2<la v.1 v.2:=by
 have d:0<=g*u.2:=Kj () b1.1;have e:0<=g*v.2:=Kj () b.1;have f:g*u.2<=12*20:=Kz a b1.2 b1.1 ⋯;have i:g*v.2<=12*20:=Kz a b.2 b.1 ⋯;unfold la;rcases Ih u.1 v.1 with y|y|y
 .omega
 .rw[y]at z ⊢;have:g*u.2<g*v.2:=()
  have:=Int.lt_of_mul_lt_mul_left this (IL c);omega
 .have:=Int.mul_le_mul_of_nonneg_left (():v.1+1<=u.1) (IL c);rw[Int.mul_add]at this;omega
theorem CN{g h:Int}{ws:r3}{fs:q_}(G:Gs g h)(c:∀w∈ws,Le w)(hF:PF ws)(F:Fs ws fs)(L:Qq ws fs)(f:fs.length<64):WZ (fs.map (QT g h ws)):=by
 refine #[by rw[Hw];exact f,List.pairwise_map.mpr (K0 (λ{a b} d i ne e=>?_) F.nd),λu j=>?_]
 .unfold QT at e;simp only[Prod.mk.injEq,mf G.g0]at e;have h1:l1 (L7 ws a)=l1 (L7 ws b):=by unfold l1;rw[e.1,e.2]
  have:=r9 c hF F L d i ne (Kd h1);have A:=F.b a d;have:=(c _ (aQ A.1 A.2).2.2).lt;omega
 .obtain⟨k,l,rfl⟩:=IZ.mp j;have A:=F.b k l;have W:=c _ (aQ A.1 A.2).2.2;have m:0<=g*(L7 ws k).2.1:=Kj (IL G.g0) W.b.1;have n:g*(L7 ws k).2.1<=12*20:=Kz G.g1 W.b.2 W.b.1 ⋯;have:=G.h0;have:=G.h1;show -500<=g*(L7 ws k).2.1-h/\g*(L7 ws k).2.1-h<500;omega
theorem D2{g h:Int}{ws:r3}{fs:q_}{c:Array Nat}(G:Gs g h)(m:∀w∈ws,Le w)(F:Fs ws fs)(f:MT fs.length c)(u:Up (Pp (fs.map (QT g h ws))) c fs.length):(c.toList.map λi=>fs.getD i 0).Pairwise λa b=>l1 (L7 ws a)<l1 (L7 ws b):=by
 rw[IQ];intro i j n o k;have sz:=f.size;rw[Hw,IW]at n o;have:=u i j k ()
 have d:∀a,a<fs.length->p0 (fs.map (QT g h ws)) a=QT g h ws (fs.getD a 0)/\fs.getD a 0∈fs:=λa l=>by
  have e:fs.getD a 0=fs[a]:=by simp[l]
  unfold p0
  rw[e]
  exact #[by simp[l],IU l]
 have p:∀{i},(h:i<c.size)->c.getD i 0=c.toList[i]'(by rw[IW];exact h):=λh=>by simp[Array.getD,h]
 unfold ky Pp at this;let[q,r]:=d _ (f.lt (i:=i) ());let[b1,s]:=d _ (f.lt (i:=j) ());rw[q,b1]at this;rw[List.getElem_map,List.getElem_map,<-p n,<-p o];generalize fs.getD (c.getD i 0) 0=x at *;generalize fs.getD (c.getD j 0) 0=y at *;have A:=F.b _ r;have B:=F.b _ s;exact Cm (h:=h) (u:=((L7 ws x).1,(L7 ws x).2.1)) (v:=((L7 ws y).1,(L7 ws y).2.1)) G.g0 (m _ (aQ A.1 A.2).2.2).b (m _ (aQ B.1 B.2).2.2).b G.g1 this
def qF(r:q_):K8:=.list (r.map JM)
def sW(rs:List (q_)):K8:=.list (rs.map qF)
theorem tH{M:MH}{z:pd}{b:rq}{rs:List (q_)}(hz:M z=KJ (.lst (b.map D.ref)))(h:NI M b rs):Pd M (.ref z) (sW rs):=by
 have go:∀(b:rq) (rs:List (q_)),NI M b rs->OF M (b.map D.ref) (rs.map qF):=λb=>by
  induction b with
  |nil=>
   intro rs h
   have:rs=[]:=JF.mp h.1.symm
   subst this;exact .nil
  |cons a b c=>
   intro rs h
   cases rs with
   |nil=>exact absurd h.1 (by simp)
   |cons r rs=>refine .cons (.lst (h.2 0 a r rfl rfl) (jm r)) (c rs #[‹h.1›,λi d e h1 f=>h.2 (i+1) d e ‹h1› ‹f›])
 exact .lst hz (go b rs h)
theorem qG:∀{rs:List (q_)},(∀r∈rs,∀k∈r,Ld k)->PyData.showableAll (rs.map qF)=KN/\PyData.hasDictAll (rs.map qF)=KO/\Jx (rs.map qF)<=5
 |[],_=>#[rfl,rfl,L8 rfl]
 |r::rs,h=>by
  let[a,b,c]:=qG (rs:=rs) λx hx=>h x (by simp[hx])
  rw[HI]
  exists ?_,?_
  .rw[PyData.showableAll,a]
   show(PyData.showableAll (r.map JM)&&KN)=KN
   rw[uz (h r (by simp))];rfl
  .rw[PyData.hasDictAll,b]
   show(PyData.hasDictAll (r.map JM)||false)=KO
   rw[uG];rfl
  .rw[Jx]
   refine Nat.max_le.mpr #[?_,c]
   have:=uq r
   simp only[qF,PyData.depth]
   omega
theorem yf{rs:List (q_)}(e:∀r∈rs,∀k∈r,Ld k)(f:rs.length<=100)(g:∀r∈rs,r.length<=40):Yd (sW rs):=by
 let[a,b,c]:=qG e;have sz:1000000<=HR:=L8 rfl;exists a,b,?_
 .simp only[sW,PyData.depth];omega
 .show(listText (PyData.shownAll (rs.map qF))).length<=_;rw[fU];refine ID (j6 _) ?_
  have:=lV (n:=200) (ts:=rs.map λr=>(qF r).shown) λt h=>by
   let[r,d,rfl]:=IZ.mp h
   have e1:=sF (e r d)
   have e2:=g r d
   show(PyData.shown (.list (r.map JM))).length<=_
   omega
  rw[Hw]at this;have i:rs.length*(200+2)<=100*202:=Nat.mul_le_mul f (HD _);omega
theorem um(K:Ht){ps:Array Hu}{q:Str}(h:rN ps=sv q):False:=by injection h with h;have:=(congrFun (congrFun (congrFun h K) (λ_=>KJ (.tbl ps))) 0).mp rfl;cases this
theorem bW.FG(K:Ht){q p:Str}{i g a C:pd}{pos f:Pos}{fs:List (Str×D)}{M m:MH}(h:bW q i pos M)(h1:bW p g f M)(ne:i≠g)(r:M a=KJ (dU C fs))(k:∀c o,c≠a->c≠g->M c=KJ o->m c=KJ o):bW q i pos m:=by
 have j:∀{b:pd} {o:MO},M b=KJ o->(dU C fs=o->False)->b≠a:=λd n e=>by subst e;rw[r]at d;injection d with d;exact n d
 have s:∀{b:pd},M b=KJ (sv q)->b≠g:=λd e=>by subst e;rcases h1 with h1|⟨_,h1,_⟩<;>rw[d]at h1<;>injection h1 with h1<;>exact um K h1.symm
 rcases h with h|⟨c,g1,l,t⟩
 .exact .inl (k _ _ (j h (jg K)) ne h)
 .exact .inr #[c,k _ _ (j g1 (jg K)) ne g1,k _ _ (j l (sU K)) (s l) l,t]
theorem bW.Fb(K:Ht){q j:Str}{f d:pd}{pos a:Pos}{M g:MH}(h:bW q f pos M)(h1:bW j d a M)(ne:f≠d)(k:dg d M g):bW q f pos g:=by
 have l:∀{b:pd},M b=KJ (sv q)->b≠d:=λm e=>by subst e;rcases h1 with h1|⟨_,h1,_⟩<;>rw[m]at h1<;>injection h1 with h1<;>exact um K h1.symm
 rcases h with h|⟨c,g1,i,n⟩
 .exact .inl (k _ _ ne h)
 .exact .inr #[c,k _ _ ne g1,k _ _ (l i) i,n]
theorem kT{ws:r3}{fs rs:q_}(h:(fs++rs).Perm ((HK ws.length).map λk:Nat=>(k:Int))):Fs ws fs:=by refine #[(Kr.mp (h.nodup_iff.mpr (by unfold List.Nodup;rw[List.pairwise_map];exact(List.nodup_range (n:=ws.length)).imp λh e=>h ()))).1,λk a=>?_];let[j,b,rfl]:=IZ.mp (h.subset (List.mem_append_left _ a));have:=List.mem_range.mp b;omega
theorem BQ{ws:r3}{fs d:q_}{ps:List Vc}(h:∀w∈ws,Le w)(hF:PF ws)(F:Fs ws fs)(up:ps.Pairwise MV)(g:∀w∈ws,ea w∈ps)(pr:d.Perm (fs.filter (aS ws fs)))(c:d.Pairwise λa b=>(Mw ps (ea (L7 ws a)):Int)<=(Mw ps (ea (L7 ws b)):Int)):d.Pairwise λa b=>l1 (L7 ws a)<l1 (L7 ws b):=by have e:=(F.filter (aS ws fs)).perm pr;refine DF h hF e (λa f b c=>nY a (pr.mem_iff.mp f) b (pr.mem_iff.mp c)) (K0 (λ{a b} f c z=>?_) c);have A:=e.b a f;have B:=e.b b c;exact D0 up (g _ (aQ A.1 A.2).2.2) (g _ (aQ B.1 B.2).2.2) z
theorem WU{g h:Int}{ws:r3}{k:Int}(h0:0<=k)(h1:k<ws.length):atI (ws.map (L9 g h)) k=KJ (L9 g h (L7 ws k)):=by obtain⟨j,rfl⟩:∃j:Nat,k=(j:Int):=#[k.toNat,()];exact bz (by rw[HF];have:=(aQ h0 h1).1;rw[Ju]at this;rw[this];rfl)
def Qk(g h:Int)(w:Wl):D:=.tup [.int (g*w.2.2.1-h-(g*w.1-h)),.int (g*w.2.2.2-h-(g*w.2.1-h))]
theorem DU{g h:Int}(G:Gs g h){w:Wl}(W:Le w){x:Int}(hx:0<=x/\x<=20):Bd 30 (MF (raw g h w) (g*x-h)):=by
 have f:=g8 G W.a;have e:=g8 G W.b;have i:=g8 G W.c;have bd:=g8 G W.d;have bx:=g8 G hx;unfold MF;split
 .exact e.mono ⋯
 .exact(((e.mono (⋯:12<=13)).mul (i.sub f)).add ((bd.sub e).mul (bx.sub f))).mono ⋯
theorem xj{ws:r3}{fs:q_}(a:∀w∈ws,Le w)(hF:PF ws)(F:Fs ws fs)(ne:fs≠[]):∃k∈fs,aS ws fs k=KN:=by let[t,c,z]:=tK a hF fs.length fs rfl ne F.nd F.b;exact #[t,c,by unfold aS;rw[Jo];exact λk d=>by rw[z k d];rfl]
theorem Lay.rows{ws:r3}{fs:q_}{rs:List (q_)}(h:Lay ws fs rs):Fs ws fs->∀r∈rs,Fs ws r/\Qq ws r/\r.Pairwise λa b=>l1 (L7 ws a)<l1 (L7 ws b):=by
 induction h with
 |nil=>exact λ_ r c=>absurd c (by simp)
 |row ne p up h d=>
  intro F f c
  rcases II.mp c with e|c
  .subst e;exact #[(F.filter _).perm p,λa g b i=>nY a (p.mem_iff.mp g) b (p.mem_iff.mp i),up]
  .exact d (F.filter _) f c
theorem yC{ws:r3}{r:q_}(g:∀w∈ws,Le w)(hF:PF ws)(F:Fs ws r)(L:Qq ws r)(up:r.Pairwise λa b=>l1 (L7 ws a)<l1 (L7 ws b)){i:Nat}{a b:Int}(c:r[i]?=KJ a)(d:r[1+i]?=KJ b):decide (l1 (L7 ws b)<l2 (L7 ws a))=KO:=by let[e,e1]:=HC.mp c;let[f,e2]:=HC.mp d;have lt:=IQ.mp up i (1+i) e f ();have ne:=IQ.mp F.nd i (1+i) e f ();rw[e1,e2]at lt ne;have:=r9 g hF F L (HE c) (HE d) ne (IL lt);exact KR ()
structure QH(t b X Y:Int)(qs:rq)(i:Nat)(kvs:MP)(cs:List Vc):Prop where
 ks:kvs.map (·.1)=cs.map (gk t b X Y)
 nd:cs.Nodup
 bd:∀c∈cs,MD c
 vs:∀c∈cs,∃q∈qs,dz kvs (gk t b X Y c)=KJ (.ref q)
 len:cs.length<=i
theorem QH.kl{t b X Y:Int}{qs:rq}{i:Nat}{kvs:MP}{cs:List Vc}(h:QH t b X Y qs i kvs cs):kvs.length=cs.length:=by have:=congrArg List.length h.ks;rw[Hw,Hw]at this;exact this
theorem QH.nil(t b X Y:Int)(qs:rq):QH t b X Y qs 0 [] []:=#[rfl,List.nodup_nil,by simp,by simp,HD _]
theorem QH.put{t b X Y:Int}{qs:rq}{i:Nat}{kvs:MP}{cs:List Vc}{c:Vc}{q:pd}(k:0<t)(m:0<b)(h:QH t b X Y qs i kvs cs)(n:MD c)(o:q∈qs):∃cs,QH t b X Y qs (i+1) (putD kvs (gk t b X Y c) (.ref q)) cs:=by
 have j:∀f,(f=c\/f∈cs)->∃p∈qs,dz (putD kvs (gk t b X Y c) (.ref q)) (gk t b X Y f)=KJ (.ref p):=λf r=>by
  rw[qj];by_cases e:gk t b X Y f=gk t b X Y c
  .rw[KQ e];exact #[q,o,rfl]
  .rw[KP e];rcases r with z|z
   .exact absurd (by rw[z]) e
   .exact h.vs f z
 have l:=h.len;by_cases z:c∈cs
 .refine #[cs,?_,h.nd,h.bd,λf d=>j f (.inr d),()];rw[pj,h.ks,KQ (IZ.mpr #[_,z,rfl])]
 .refine #[cs++[c],?_,?_,λf d=>?_,λf d=>j f ?_,by simp;omega]
  .rw[pj,h.ks,KP (λy=>by
    let[f,d,s]:=IZ.mp y
    exact z ((rH k m s)▸d)),Iu]
   rfl
  .refine Kr.mpr #[h.nd,by simp,λa u v g=>?_];rw[J8.mp g];exact λe=>z (e▸u)
  .rcases HX.mp d with y|y
   .exact h.bd f y
   .rw[J8.mp y];exact n
  .rcases HX.mp d with y|y
   .exact .inr y
   .exact .inl (J8.mp y)
def Bl(Ps:rq)(H:Hp):Prop:=∀b,b∉Ps->H b=KL\/∃o xs,H b=KJ (.frz o (.lst xs))
theorem uJ{P:HW}{w:IA}{K:Ht}{mg Q:Str->Option Hu}{k:Nat}{fa a:pd}{Ps:rq}{fd:FuncData}{x:Str}{sp:Sp}{c:Hv}{vs:List Hu}{ns:q_}
 (R:K.In c.heap) (S:c.heap.Ns IS mg) (f:c.heap.Ns builtinsNs Q) (T:∀x:Str,x≠"__name__"->Q x=J5 x) (D:c.heap.NoLimit) (hg:c.gens=#[])
 (A:c.heap.get? a=KJ { cls:=.type "list",data:=.seq vs.toArray }) (hi:Jt vs ns) (hl:ns.length<=HR) (hr:La k callerA) (N:∀p∈Ps,c.heap.get? p=KJ (PySem.W.tabObj #[])) (U:∀p∈Ps,K.lookup p=KL) (hC:∀p∈Ps,∃c0,PySem.W.codeHdIn K c0 p=KN)
 (F:∀base:pq,MA P w K mg base Mt k fa fd [x] sp) (t:∀(s:Hv) (u:Hu),BindsTo s fd #[[u],[]] [(x,u)])
 (X:∀H:Hp,Bl Ps H->(∀p∈Ps,H p=KJ (.tbl #[]))->Ln K H a (ns.map V.int)->sp [.ref a] H (λv _=>v=.bl KN) λ_ _ _=>False) :
 JK (HP P w) callerA (.call (.ref fa) #[[.ref a],[]]) (λr j=>r=.ok (.ret (.bool KN))/\OldK c.heap j.heap/\j.os=c.os/\AllBare j.gens) c:=by
 have rv:=jG hi
 have E:=hi.length
 have G:a∉Ps:=λz=>by
  rw[N a z]at A
  cases A
 have l:∀H:Hp,Bl Ps H->(∀p∈Ps,H p=KJ (.tbl #[]))->Ln K H a (ns.map V.int)->MU P w H c.heap->(∀b,H b≠KL->b=a\/b∈Ps)->(H a≠KL->K.lookup a=KL)->
  JK (HP P w) callerA (.call (.ref fa) #[[.ref a],[]]) (λr j=>r=.ok (.ret (.bool KN))/\OldK c.heap j.heap/\j.os=c.os/\AllBare j.gens) c:=by
  intro H hO hP hS hok hA hK
  have Y:∀{b:pd} {o:Obj} {B:Array J7} {C:Nat},c.heap.get? b=KJ o->o.data=.dict B C->H b=KL:=λ{b o B C} e d=>by
   cases q:H b with
   |none=>rfl
   |some u=>
    rcases hA b (by rw[q];simp)with z|z
    .rw[z,A]at e;cases e
     have Z:Data.seq vs.toArray _=Data.dict B C:=d
     cases Z
    .rw[N b z]at e;cases e
     have Z:Data.fields #[]=Data.dict B C:=d
     cases Z
  have y:∀{b:pd} {m:Str->Option Hu},c.heap.Ns b m->(jB c.heap H).Ns b m:=λ{b m} z=>by
   let[o,B,C,e,d,r]:=z
   exact #[o,B,C,iV e (Y e d),d,r]
  have a0:K.In (jB c.heap H):=λb o e=>iV (R b o e) (by
   cases q:H b with
   |none=>rfl
   |some u=>
    rcases hA b (by rw[q];simp)with z|z
    .subst z
     rw[hK (by rw[q];simp)]at e;cases e
    .rw[U b z]at e;cases e)
  let[mc,l1,l2]:=D
  have hM:Mod K mg (jB c.heap H):=#[a0,y S,#[Q,y f,T],#[mc,y l1,l2]]
  have O:Mz P w K mg (jB c.heap H) callerA [] c H:=#[rfl,hM,λb o e=>oO e,Nat.le_of_eq (nF _ _),trivial,λb f=>absurd (show b∈([]:rq)from f) (by simp),hok,.of_eq hg]
  refine codeAny_mono ((F _).run callerA [] c H #[[.ref a],[]] [.ref a] [.ref a] _ _ hr O (t c (.ref a)) (.cons rfl .nil) (X H hO hP hS)) λr j h=>?_
  cases r with
  |error e=>exact Ic h
  |ok fl=>
   cases fl with
   |next=>exact Ic h
   |brk=>exact Ic h
   |cont=>exact Ic h
   |ret u=>
    let[v,H',os,bare,un,n,r',q]:=h
    have q':v=.bl KN:=q
    subst q'
    obtain rfl:u=Value.bool KN:=r'
    have I:∀p∈Ps,∃more,j.heap.get? p=KJ (PySem.W.tabObj (#[]++more)):=λp J=>by
     let[more,b0]:=un.tbls _ _ (hP p J)
     exact #[more,n _ _ b0]
    have keep:∀b o,b∉Ps->c.heap.get? b=KJ o->j.heap.get? b=KJ o:=λb o g e=>by
     cases q:H b with
     |none=>exact un.keep b o e q (by intro z;exact absurd (show b∈([]:rq)from z) (by simp)) (by simp)
     |some u=>
      rcases hO b g with z|⟨ob,xs,z⟩
      .rw[q]at z;cases z
      .have z2:=un.frzs b ob _ z
       let[e1,_]:=hok b _ z
       let[e2,_]:=n b _ z2
       rw[e]at e1;cases e1
       exact e2
    refine #[rfl,#[λb o e=>?_,λb o e=>?_],os,bare]
    .by_cases g:b∈Ps
     .have O:=N b g
      rw[O]at e;cases e
      let[more,h']:=I b g
      let[c0,hc]:=hC b g
      exact .inr (.inl #[((PySem.W.codeHd_of_K R hc).tab O).isCodeTable,rfl,#[],more,rfl,h'])
     .exact .inl (keep b o g e)
    .by_cases g:b∈Ps
     .obtain⟨more,h'⟩:=I b g
      exact #[_,h']
     .exact #[o,keep b o g e]
 have L:∀{H:Hp} {b:pd} {u:HO},b∈Ps->H b=KJ (.tbl #[])->H b=KJ u->bJ P w H c.heap b u:=λ{H b u} z e1 e2=>by
  rw[e1]at e2;cases e2
  exact N b z
 cases hk:K.lookup a with
 |some o=>
  have e:=R a o hk
  rw[A]at e
  cases e
  refine l (λb=>if b∈Ps then KJ (.tbl #[])else KL) (λb g=>.inl (KP g)) (λp J=>KQ J) (.inr #[_,vs.toArray,_,hk,rfl,rfl,rfl,by rw[HL,E];exact hl,‹rv›]) (λb u z=>?_) (λb z=>?_) λz=>absurd (KP G) z
  .by_cases f:b∈Ps
   .exact L f (KQ f) z
   .have M:=(KP f).symm.trans z
    cases M
  .by_cases f:b∈Ps
   .exact .inr f
   .exact absurd (KP f) z
 |none=>
  refine l (λb=>if b∈Ps then KJ (.tbl #[])else if b=a then KJ (.frz { cls:=.type "list",data:=.seq vs.toArray } (.lst (ns.map V.int)))else KL) (λb g=>?_) (λp J=>KQ J) (.inl (.inr #[{ cls:=.type "list",data:=.seq vs.toArray },by show(if a∈Ps then _ else _)=_;rw[KP G,KQ rfl]])) (λb u z=>?_) (λb z=>?_) λ_=>hk
  .by_cases f:b=a
   .exact .inr #[_,_,by show(if b∈Ps then _ else _)=_;rw[KP g,KQ f]]
   .exact .inl (by show(if b∈Ps then _ else _)=_;rw[KP g,KP f])
  .by_cases f:b∈Ps
   .exact L f (KQ f) z
   .have z1:=(KP f).symm.trans z
    by_cases i:b=a
    .have M:=(KQ i).symm.trans z1
     cases M
     subst i
     exact #[A,by rw[Hw];exact hl,vs,_,rv,A]
    .have M:=(KP i).symm.trans z1
     cases M
  .by_cases f:b∈Ps
   .exact .inr f
   .by_cases i:b=a
    .exact .inl i
    .exact absurd (by show(if b∈Ps then _ else _)=_;rw[KP f,KP i]) z
theorem uV{l:PySem.W.OpenLaw}{k:Nat}{q:HW}{i:rx}{P:(Str->Option Hu)->pq->Prop}{A:IA->pq->Prop}{d:DefRec}{K:HZ->Ht}{sp:Lz}{x:Str}{Ps:rq}
 (Q:l.most=KJ 63) (B:d.params.defaults=[]) (R:La k callerA)
 (S:∀(w:IA) (h:pq),A w h->(K w.params).In h) (U:∀(w:IA) (h:pq),A w h->∀p∈Ps,h.get? p=KJ (PySem.W.tabObj #[])) (C:∀w:IA,∀p∈Ps,(K w.params).lookup p=KL) (hC:∀w:IA,∀p∈Ps,∃c0,PySem.W.codeHdIn (K w.params) c0 p=KN)
 (F:∀(w:IA) (mg:Str->Option Hu) (fa:pd) (h:pq),(K w.params).In h->h.Ns IS mg->mg d.name=KJ (.ref fa)->
  ∃fd:FuncData,(∀(s:Hv) (u:Hu),BindsTo s fd #[[u],[]] [(x,u)])/\
   ∀base:pq,MA l.prog w (K w.params) mg base Mt k fa fd [x] (dJ (K w.params) sp))
 (E:∀(ns:q_) (M:MH),ns.length<=63->(∀p∈Ps,M p=KJ (rN #[]))->sp [.rol (ns.map D.int)] M (λd _=>d=.bl KN)) :
 PySem.W.WalkO q i P A l.row.toRowW d [] (λf vs=>PySem.call f vs):=by
 refine Att.pG Q B λw s₀ L mg mb fa o pm cd X a vs ns G Y ho hd Z I n j c hg=>?_
 have N:=S w _ Y
 let[fd,m,hF]:=F w mg fa _ N G.T.g I
 refine uJ N G.T.g G.T.b G.T.builtins G.T.nolimit hg n j (ID c ⋯) R (U w _ Y) (C w) (hC w) hF m λH hO t hS=>?_
 have hF:Qp (K w.params) H a (ns.map V.int):=by
  rcases hS with(z|z)|z
  .exfalso
   by_cases O:a∈Ps
   .rw[t a O]at z;cases z
   .rcases hO a O with y|⟨o,xs,y⟩
    .rw[z]at y;cases y
    .rw[z]at y;cases y
  .exact .inl z
  .exact .inr z
 refine #[[.rol (ns.map D.int)],λb=>if b∈Ps then KJ (rN #[])else KL,_,.cons (by rw[Rep];exact #[a,7,hF,fG ns]) .nil,λb u e=>?_,E ns _ c (λp hp=>KQ hp),λd M' v H' g r a' e=>?_]
 .by_cases m:b∈Ps
  .have J:=(KQ m).symm.trans e
   cases J
   exact #[t b m,by rw[t b m];simp,λH' _ e=>e.trans (t b m)]
  .have J:=(KP m).symm.trans e
   cases J
 .subst e
  rw[Rep]at r
  exact r
section
variable{X:Cx}{KZ:p4}{σ:L2.St}{s:Hv}
def Yy(X:Cx)(KZ:p4)(σ:L2.St)(H0:Hp)(M2:MH)(a f:pd)(e1:Nat)(g:r8)(i:Nat)(h:Hv):Prop:=
 ∃b c d e ks,Inv X KZ σ b h/\L5 X.K H0 b/\Lb X.K b c/\Sub M2 c/\c a=KJ (jY (IF "list" #[] e1))/\c f=KJ (jY (IF "list" d e))/\Vals ks d.toList/\aC X.K b (g.take i) ks
theorem xq{H0:Hp}{M2:MH}{a c g:pd}{e1:Nat}{f:r8}{t:r8}{xs:ry}{its:List Hu}{Q:PySem.Fin->Hv->Prop}{E:Hu->Hv->Prop}{A:Iv}(Z:c≠a)(ha:M2 a=KL)(hk:M2 c=KL)(rs:aC X.K H0 t xs)(rv:Vals xs its)(hn:f.length=t.length)(b0:f.length<64)
 (turn:∀(i:Nat) d1 k1 O P l k m,Inv X KZ σ k m->Lb X.K k l->Sub M2 l->t[i]?=KJ d1->f[i]?=KJ k1->Rep X.K k d1 O->RelV O P->
  HJ (HP X.prog X.w) A (call (.ref g) [P]) (EP X KZ σ (λv u=>∃F,L5 X.K k u/\Rep X.K u k1 v/\Lb X.K u F/\Sub l F)) (λ_ _=>False) m)
 (h0:Yy X KZ σ H0 M2 a c e1 f 0 s)
 (h:∀k l d e ks m,Inv X KZ σ k m->L5 X.K H0 k->Lb X.K k l->Sub M2 l->l a=KJ (jY (IF "list" #[] e1))->l c=KJ (jY (IF "list" d e))->Vals ks d.toList->aC X.K k f ks->
  HJ (HP X.prog X.w) A (ksk_end a KO its.toArray e1 (.ref c) d) Q E m) :
 HJ (HP X.prog X.w) A (ksk_rest a (.ref g) KO its.toArray e1 (.ref c)) Q E s:=by
 have hl:its.length=f.length:=by rw[<-rv.length,<-rs.length,hn]
 unfold ksk_rest
 refine cc (wpAny_rule ?_)
 first
  |rw[List.forIn_toArray]
  |(rw[<-Array.forIn_toList];simp only[List.toList_toArray])
  |rw[<-Array.forIn_toList]
 refine cc (ksk_fold (λi m=>Yy X KZ σ H0 M2 a c e1 f i m) its 0 s h0 ?step ?done)
 case step=>
  rintro j P m hx ⟨k,l,d,e,ks,I,g0,R,S,y,n,T,pk⟩
  simp only[Nat.zero_add]at pk ⊢
  have hj:j<its.length:=(HC.mp hx).1
  have G:j<f.length:=()
  have H:j<t.length:=()
  let[O,a0,r1]:=rs.get (show t[j]?=KJ t[j]from Hy H)
  let[u',J,ru]:=rv.get a0
  rw[hx]at J;cases J
  refine cc (wpAny_attempt (HQ (turn j t[j] f[j] O P l k m I R S (Hy H) (Hy G) (r1.mono g0) ru) (λr B z=>?_) λ_ _ hF=>hF.elim))
  let[v2,U,I2,rr,M3,g2,L,a2,p]:=z
  try dsimp only
  have W:B.heap.get? c=KJ (IF "list" d e):=(I2.hok _ _ (a2 _ _ (p _ _ n)).1).1
  have c0:d.size<=f.length:=by
   have h1:ks.length=d.size:=by rw[<-IW];exact T.length
   have h2:=pk.length
   rw[JE]at h2
   omega
  obtain⟨C,M⟩:∃C,(B.heap.update c (IG (·.push r))).get? c=KJ (IF "list" (d.push r) C):=#[_,get?_update_seq W (·.push r)]
  have s1:=J4 B.heap c (IG (·.push r))
  refine cc (listUpdate_at W rfl ?_ (by rw[Jr];omega) (ID (Nat.le_of_eq (Array.size_push ..)) (by rw[Jr];omega)))
  have N:U c=KJ (.ext (bY c (IF "list" d e))):=(a2 _ _ (p _ _ n)).1
  have Y:L5 X.K U (upd U c (.ext (bY c (IF "list" (d.push r) C)))):=.ext N
  have I3:Inv X KZ σ (upd U c (.ext (bY c (IF "list" (d.push r) C)))) { B with heap:=B.heap.update c (IG (·.push r)) }:=I2.write (t':=B.toks) (x:=c) (e:=c) (by rw[N];exact JV) (.inl rfl) (λb q hb z=>(s1.2 b hb).trans z) #[_,M] (iB M)
  refine Hz #[rfl,_,au M3 c (jY (IF "list" (d.push r) C)),d.push r,C,ks++[v2],I3,(g0.trans g2).trans Y,a2.qK Y aF (λH9 _ e9=>e9),λb o z=>by rw[ak (av z hk)];exact p _ _ (S b o z),by rw[ak Z.symm];exact p _ _ y,ag,‹nH rr T›,?_]
  have et:f.take (j+1)=f.take j++[f[j]]:=by
   rw[List.take_add_one,Hy G];rfl
  rw[et]
  exact(pk.mono (g2.trans Y)).append (.cons (L.mono Y) .nil)
 case done=>
  rintro m ⟨k,l,d,e,ks,I,g0,R,S,y,n,T,pk⟩
  have e3:f.take (0+its.length)=f:=JN ()
  rw[e3]at pk
  have W:m.heap.get? c=KJ (IF "list" d e):=(I.hok _ _ (R _ _ n).1).1
  try dsimp only
  exact cc (listItems_at W rfl (h k l d e ks m I g0 R S y n T pk))
end
inductive Nf:r8->r8->(r8->Prop)->Prop
 |prs {us:List (Int×Int)} {ds:r8} (hb:WZ us) (hn:us.length=ds.length):Nf (us.map Wf) ds λds'=>∃π:Array Nat,ds'=(π.toList.map λi=>ds.getD i .non)/\MT us.length π/\Up (Pp us) π us.length
 |nums {ns ws:q_} (hn:ns.length=ws.length) (h64:ns.length<64):Nf (ns.map D.int) (ws.map D.int) λds'=>∃rs:q_,ds'=rs.map D.int/\Qj ns ws rs
theorem Nf.lt{b c:r8}{a:r8->Prop}(h:Nf b c a):b.length<64:=by
 cases h with
 |prs d=>rw[Hw];exact d.1
 |nums _ h=>rw[Hw];exact h
section
variable{X:Cx}{KZ:p4}{σ:L2.St}{s:Hv}
theorem Nf.fin{G u:r8}{i:r8->Prop}(S:Nf G u i){j:Hp}{q:MH}{a k:pd}{e1 e:Nat}{v:Array Hu}{ks xs:ry}{its:List Hu}{Q:PySem.Fin->Hv->Prop}{E:Hu->Hv->Prop}{A:Iv}(l:k≠a)(I:Inv X KZ σ j s)(H:Lb X.K j q)(m:q a=KJ (jY (IF "list" #[] e1)))(n:q k=KJ (jY (IF "list" v e)))
 (J:Vals ks v.toList) (pk:aC X.K j G ks) (x:Vals xs its) (rs:aC X.K j u xs)
 (h:∀o p d M2 g,Inv X KZ σ d g->L5 X.K j d->(∀b,b≠a->b≠k->M2 b=q b)->M2 a=KL->M2 k=KL->Lb X.K d M2->d a=KJ (.lst p)->aC X.K d o p->i o->Q (.done (.ret .none)) g) :
 HJ (HP X.prog X.w) A (ksk_end a KO its.toArray e1 (.ref k) v) Q E s:=by
 have L:its.length=u.length:=by rw[<-x.length,<-rs.length]
 cases S with
 |prs M N=>exact xO l I H m n J (xI pk) x () M λO d M2 g y t c z B f C P R=>h _ _ d M2 g y t c z B f C (sV (rs.mono t) _) #[O,rfl,P,R]
 |nums N F=>
  have e1:=dm pk
  have e2:=dm rs
  subst e1 e2
  rw[Hw]at L
  exact vj l I H m n (intsAre_of J) (intsAre_of x) () F λr d M2 g y t c z B f C bk=>h _ _ d M2 g y t c z B f C (fG r) #[r,rfl,bk]
end
section
variable{X:Cx}{KZ:p4}{σ:L2.St}{s:Hv}{H:Hp}
theorem DD{Q:Hu->Hv->Prop}{E:Hu->Hv->Prop}{l g:pd}{M2:MH}{J:r8}{L:r8}{x:r8->Prop}(I:Inv X KZ σ H s)(M:Lb X.K H M2)(hl:M2 l=KJ (.lst J))(hn:L.length=J.length)(O:Nf L J x)
 (turn:∀(i:Nat) d1 k1 v1 u1 n h t,Inv X KZ σ h t->Lb X.K h n->Sub M2 n->J[i]?=KJ d1->L[i]?=KJ k1->Rep X.K h d1 v1->RelV v1 u1->
  HJ (HP X.prog X.w) X.A.in1.in1 (call (.ref g) [u1]) (EP X KZ σ (λv r=>∃y,L5 X.K h r/\Rep X.K r k1 v/\Lb X.K r y/\Sub n y)) (λ_ _=>False) t)
 (done:∀p f h n t,Inv X KZ σ h t->L5 X.K H h->Lb X.K h n->Sub M2 n->M2 p=KL->n p=KJ (.lst f)->x f->Q (.ref p) t) :
 HJ (HP X.prog X.w) X.A (call (.builtin "sorted") [.ref l] [(Ja "key",.ref g)]) Q E s:=by
 let[xs,hx,P]:=M _ _ hl
 let[c,R,p1,hz]:=I.list (Ln.of hx)
 have h0:c.length=L.length:=by rw[<-R.length,<-P.length,hn]
 have i0:c.length<64:=by have:=O.lt;omega
 refine call_function_entry_kw kind_sorted plain_sorted entry_sorted (ksk_s1 _ _) ?_
 unfold KH.«sorted»
 refine cc (m:=checkCount "sorted" 1 1 _) (Hz ?_)
 refine cc (collect_list p1.isList ?_ (by rw[Jr];omega))
 refine cc (wpAny_newList ?_ (by rw[Jr];omega))
 generalize e1:((s.heap.push (IF "list" #[] 0)).update s.z (IG (·++c.toArray)))=h1
 have S:h1.objs.size=s.z+1:=by rw[<-e1,Heap.size_update,size_push']
 have o1:∀b o,s.heap.get? b=KJ o->h1.get? b=KJ o:=λb o q=>by
  rw[<-e1,Heap.get?_update_ne _ _ _ _ (Ip (HN q)),Heap.get?_push_ne _ _ _ (Ip (HN q))]
  exact q
 show HJ _ _ _ _ _ { s with heap:=h1.push (IF "list" c.toArray 0) }
 rw[S]
 have j:(h1.push (IF "list" c.toArray 0)).get? (s.z+1)=KJ (IF "list" c.toArray 0):=by rw[<-S];exact HG _ rfl
 refine cc (Jg (wpAny_call_entry_kw slot_list_sort #[_,j,rfl] entry_list_sort ?body (ksk_l1 _ _)))
 show HJ (HP X.prog X.w) X.A.in1.in1 (KH.«list.sort» #[[.ref (s.z+1)],[(Ja "key",.ref g)]]) _ _ _
 rw[ksk_t1]
 obtain⟨k,B⟩:∃k,((h1.push (IF "list" c.toArray 0)).update (s.z+1) (IG λ_=>#[])).get? (s.z+1)=KJ (IF "list" #[] k):=#[_,get?_update_seq j λ_=>#[]]
 unfold ksk_tree
 refine cc (listItems_at j rfl ?_)
 refine cc (listUpdate_at j rfl ?_ (by rw[HL,Jr];omega) (J3 _))
 refine cc (seqEpoch_at B rfl ?_)
 refine cc (wpAny_newTuple ?_ (by show c.length<=_;rw[Jr];omega))
 refine cc (wpAny_newList (Jg ?_) (J3 _))
 generalize e2:(((h1.push (IF "list" c.toArray 0)).update (s.z+1) (IG λ_=>#[])).push (IF "tuple" c.toArray 0))=d
 have T:d.get? (s.z+1)=KJ (IF "list" #[] k):=by rw[<-e2];exact Hx _ B
 have z2:d.objs.size=s.z+3:=by rw[<-e2,size_push',Heap.size_update,size_push',S]
 have o2:∀b o,s.heap.get? b=KJ o->d.get? b=KJ o:=λb o q=>by
  rw[<-e2]
  refine Hx _ ?_
  rw[Heap.get?_update_ne _ _ _ _ (Ip (Nat.lt_succ_of_lt (HN q)))]
  exact Hx _ (o1 b o q)
 have I2:Inv X KZ σ (upd H (s.z+1) (.ext (bY (s.z+1) (IF "list" #[] k)))) { s with heap:=d }:=I.laid (t':=s.toks) (h':=d) o2 (Nat.le_succ _) (iB T)
 have I3:=I2.laid (t':=s.toks) (a:=d.objs.size) (o:=.ext (bY d.objs.size (IF "list" #[] 0))) (h':=d.push (IF "list" #[] 0)) (λb u q=>Hx _ q) (HD _) (iB (HG _ rfl))
 have fa:H (s.z+1)=KL:=I.hok.fresh (Nat.le_succ _)
 have g2:=L5.new (K:=X.K) (o:=.ext (bY (s.z+1) (IF "list" #[] k))) fa
 have U:(upd H (s.z+1) (.ext (bY (s.z+1) (IF "list" #[] k)))) d.objs.size=KL:=I2.hok.fresh (HD _)
 have g3:=L5.new (K:=X.K) (o:=.ext (bY d.objs.size (IF "list" #[] 0))) U
 have ne:d.objs.size≠s.z+1:=by rw[z2];exact λe=>absurd (id e:@Eq Nat _ _) ()
 have V:H d.objs.size=KL:=by rw[aD ne]at U;exact U
 have a2:=(M.qK (A:=λ_ H a=>H a=KJ (.ext (bY a (IF "list" #[] k)))) g2 aF (λH9 _ W=>W)).qK (A:=λ_ H a=>H a=KJ (.ext (bY a (IF "list" #[] 0)))) g3 aF (λH9 _ W=>W)
 have N:=M.fresh fa
 have mk:=M.fresh V
 have Y:Sub M2 (au (au M2 (s.z+1) (jY (IF "list" #[] k))) d.objs.size (jY (IF "list" #[] 0))):=λb o z=>by
  rw[ak (av z mk),ak (av z N)];exact z
 show HJ (HP X.prog X.w) X.A.in1.in1 (ksk_rest (s.z+1) (.ref g) KO c.toArray k (.ref d.objs.size)) _ _ { s with heap:=d.push (IF "list" #[] 0) }
 refine xq (X:=X) (H0:=H) (M2:=M2) ne N mk P R hn O.lt turn #[_,_,#[],0,[],I3,g2.trans g3,a2,Y,by rw[ak ne.symm,ag];rfl,by rw[ag];rfl,.nil,by rw[List.take_zero];exact .nil] λh n kA e ks t I' g' Z a0 b0 c0 vk pk=>?_
 refine O.fin ne I' Z b0 c0 vk pk R (P.mono g') λf k0 H4 M4 s4 I4 g4 C n1 n2 d0 f0 rp o=>#[7,Hz #[7,?_]]
 refine done _ f H4 (au M4 (s.z+1) (.lst f)) s4 I4 (g'.trans g4) (λb o z=>?_) (λb o z=>?_) N ag o
 .by_cases F:b=s.z+1
  .subst F
   rw[ag]at z;cases z
   exact #[_,f0,rp]
  .rw[ak F]at z;exact d0 b o z
 .have G:=av z N
  have g0:=av z mk
  rw[ak G,C b G g0];exact a0 b o z
end
def uK(q:Str)(Pt:pd)(h:Pos)(j:Nat)(spg:D->Lz)(o:Ly):TD:=λδ M Q=>o δ M λr e=>∃(l:pd) (f g:r8) (b:r8->Prop) (m:D),r=[.ref l]/\e l=KJ (.lst f)/\l≠Pt/\δ[j]?=KJ (KJ m)/\bW q Pt h e/\g.length=f.length/\Nf g f b/\
 (∀(i:Nat) d k a n,f[i]?=KJ d->g[i]?=KJ k->dg Pt e a->n k a->spg m [d] a n)/\
 ∀p c a,a p=KJ (.lst c)->b c->bW q Pt h a->dg Pt e a->Q (.ref p) a
section
variable{X:Cx}{y lx:Str}{k:Nat}{params:Arguments}{body:pv}{LG:JH}{LH p pos kp:Pos}{e1:pv}{ta:Ly}{c0 Pt:pd}{spg:D->Lz}
theorem kf(j:Nat)(G:X.env.code=.ref c0)(m:Mk X.K X.mg c0 Pt)(S:MX lx y LG)
 (hb:∀(name qual:Str) (c:pd) (pm cdv ct J:Hu),Ko (PySem.W.kla_fn name qual params body LG [(y,c)] pm cdv ct) #[[J],[]]=pure [(lx,J)])
 (len:∀d ds M Q,spg d ds M Q->ds.length=1)
 (ht:∀(base:pq) (g c T:pd) (d2:D) (A:Iv) (outer:List Env) (s:Hv) (H:Hp),La k (A.deeper (l6 LG s.z [(y,c)] (X.env.qual++"<lambda>") g (.ref T)))->
  ∃t,DE (qo X.prog X.w X.K X.mg base [lx,y] (X.env.qual++"<lambda>") LG [(y,c)] g (.ref T) A outer s H) body t/\∀U M Q,spg d2 [U] M Q->t [KJ U,KJ d2] M Q)
 (hr:La (k+1+1+1) X.A) (hm:X.mg "sorted"=KL) (ha:DA X [e1] ta)
 (hg:Gl X "sorted":=by rfl) (V:(LG.names.filter λz=>z.2==.free)=[(y,.free)]:=by rfl) (Y:defaultsOf params X.env=([],[]):=by rfl) (d0:X.fn y=KN:=by rfl) (f0:X.N[j]?=KJ y:=by rfl) (L:X.env.scope.names.lookup y=KJ .cell:=by rfl)
 (he:Jc pos (HM [e1] X.env)=(KO,eval e1 X.env)::Jc pos (HM [] X.env):=by rfl) (g0:(Jc pos (HM [e1] X.env)).any (·.1)=KO:=by rfl) :
 DE X (.Call (.Name "sorted" p) [e1] [#[KJ "key",.Lambda params body LG LH,kp]] pos) (uK (X.env.qual++"<lambda>") Pt LH j spg ta):=by
 intro KZ s σ H Q I h
 let[δ,M,R,hs,hM,q,fin]:=h
 refine JW (gM I hg hm uR (PyProof.Rows.callWith_kw (Lc (ha pos KZ s σ H _ I #[δ,M,_,hs,hM,q,λes Z vs H1 g1 r1 a1 q1=>(show ∃es Z,L5 X.K H H1/\aC X.K H1 es vs/\Lb X.K H1 Z/\_ from #[es,Z,g1,r1,a1,q1])]) λus s1 z=>?_) he g0 rfl rfl))
 let[vs,H1,I1,h0,es,Z,g1,r1,a1,l,ds,kd,h1,d2,rfl,hl,i0,hj,a0,hn,k0,m0,hq]:=z
 let[v1,rfl,rl]:=bP r1
 rw[Rep]at rl;subst rl
 let[J,rfl,ru]:=vals1 h0
 cases ru
 let[v2,n0,rd]:=hs.at' j d2 hj
 let[c,hc]:=I1.ok.has y (.inl L)
 refine PyProof.Rows.kws_cons (v7 G m V (λz hz hk=>S.only z hz hk) Y I1 a1 hc a0 (rd.mono g1) λg T o0 pm H2 M2 s2 I2 g2 a2 q0 s0 t0 f=>?_)
 refine PyProof.Rows.kws_nil ?_
 show HJ (HP X.prog X.w) X.A (call (.builtin "sorted") [.ref l] [(Ja "key",.ref g)]) _ _ _
 have u0:M2 l=KJ (.lst ds):=f _ _ i0 hl
 refine DD I2 a2 u0 hn k0 (λi U k1 v1 J B H' s' I' C b hd hk v0 w0=>?_) λp x0 H' B s' I' g' C b hp y0 ho=>?_
 .have O:dg Pt Z B:=λa o na e=>b _ _ (f a o na e)
  let[mm,i1,z0]:=I'.loc
  let[u2,b1,lk]:=z0 j y v2 f0 n0 (.inr (.inl L))
  obtain⟨oc,c1,f1⟩:s'.heap.IsCell c (KJ u2):=by
   rcases lk with⟨z,_⟩|⟨_,c2,b0,z⟩
   .rw[show X.env.kindOf y=X.env.scope.names.lookup y from rfl,L]at z;cases z
   .rw[hc]at b0;cases b0;exact z
  have CV:=zV (P:=X.prog) (w:=X.w) (K:=X.K) (mg:=X.mg) (k:=k) (g:=g) (d2:=d2) (base:=jB s'.heap (pF X.base c)) (sp:=spg d2) S (iV c1 (xW (.inr rfl))) f1 b1 (λJ=>hb "<lambda>" (X.env.qual++"<lambda>") c pm (.ref T) o0 J) (len d2) (λA outer s H hr=>ht _ g c T d2 A outer s H hr)
  let[Pg,look,run]:=CV.ex
  have F:=zw I' d0 hc
  let[_,h2]:=run X.A.in1.in1 X.stack s' H' B hr.in1.in1 #[F.frames,F.mod,F.bs,F.bsz,F.gD,F.frf,F.hok,F.bare] C #[b _ _ q0,b _ _ s0]
  refine wpAny_call (codeAny_mono (h2 [J] [v1] (λv E=>∃n,L5 X.K H' E/\Rep X.K E k1 v/\Lb X.K E n/\Sub B n) (.cons w0 .nil) #[[U],B,λd n=>d=k1/\n=B,.cons v0 .nil,C,m0 i U k1 B _ hd hk O #[rfl,rfl],λd n v E gg rr aa z=>by let[rfl,rfl]:=z;exact #[_,gg,rr,aa,.refl]]) λr j1 x=>?_)
  cases r with
  |error e=>exact Ic x
  |ok fl=>
   cases fl with
   |ret u=>exact I'.after x
   |next=>exact Ic x
   |brk=>exact Ic x
   |cont=>exact Ic x
 .exact #[.ref p,H',I',rfl,fin _ B _ H' ((g1.trans g2).trans g') (by rw[Rep]) C (hq p x0 B y0 ho (t0.sub b) λa o na e=>b _ _ (f a o na e))]
end
section
variable{P:HW}{w:IA}{K:Ht}{mg:Str->Option Hu}{base:pq}{x:Str}{st:pe}{N:rx}{k:Nat}
def OM(C:D->MH->DK->Prop):Lz:=λb M Q=>match b with
 |[a]=>C a M Q
 |_=>False
theorem fH{p:Str}{C:D->MH->DK->Prop}(T:Txt K mg x st)(S:L0 N [p] (ao st))
 (body:∀(f:pd) (cdv:Hu) (A:Iv) (outer:List Env) (s:Hv) (H:Hp) (E:XK),La k (A.deeper (Kv x (ao st) s.z f cdv))->
  ∃t,DSs (gP Mt P w K mg base N x (ao st) f cdv A outer s H E).nox (aJ st) t/\∀a M Q,C a M Q->t (jV Q) (cZ N [a]) M)
 (e:∀(kV b d:Hu) (an:Option pd) (cdv ct a:Hu),Ko (IX x x (aX st) (aJ st) (ao st) .none kV b d an cdv ct) #[[a],[]]=pure ([p].zip [a]):=by intros;rfl):Cal P w K mg base (k+1) x (OM C):=by
 refine vz T S (λkV b d an cdv ct us g=>?_) (λc M Q h=>?_) λf cdv A outer s H E i=>?_
 .obtain⟨a,rfl⟩:=xw g
  exact e ..
 .rcases c with _|⟨a,_|⟨w,c⟩⟩
  all_goals first|exact Ic h|rfl
 .obtain⟨t,h,j⟩:=body f cdv A outer s H E i
  refine #[t,h,λc M Q h=>?_]
  rcases c with _|⟨a,_|⟨w,c⟩⟩
  all_goals first|exact Ic h|exact j _ _ _ h
def ME(C:D->D->MH->DK->Prop):Lz:=λc M Q=>match c with
 |[a,b]=>C a b M Q
 |_=>False
theorem a9{p q:Str}{C:D->D->MH->DK->Prop}(T:Txt K mg x st)(S:L0 N [p,q] (ao st))
 (body:∀(f:pd) (cdv:Hu) (A:Iv) (outer:List Env) (s:Hv) (H:Hp) (E:XK),La k (A.deeper (Kv x (ao st) s.z f cdv))->
  ∃t,DSs (gP Mt P w K mg base N x (ao st) f cdv A outer s H E).nox (aJ st) t/\∀a b M Q,C a b M Q->t (jV Q) (cZ N [a,b]) M)
 (g:∀(kV c e:Hu) (an:Option pd) (cdv ct a b:Hu),Ko (IX x x (aX st) (aJ st) (ao st) .none kV c e an cdv ct) #[[a,b],[]]=pure ([p,q].zip [a,b]):=by intros;rfl):Cal P w K mg base (k+1) x (ME C):=by
 refine vz T S (λkV c e an cdv ct us i=>?_) (λd M Q h=>?_) λf cdv A outer s H E j=>?_
 .obtain⟨a,b,rfl⟩:=rP i
  exact g ..
 .rcases d with _|⟨a,_|⟨b,_|⟨w,d⟩⟩⟩
  all_goals first|exact Ic h|rfl
 .obtain⟨t,h,l⟩:=body f cdv A outer s H E j
  refine #[t,h,λd M Q h=>?_]
  rcases d with _|⟨a,_|⟨b,_|⟨w,d⟩⟩⟩
  all_goals first|exact Ic h|exact l _ _ _ _ h
def QP(C:D->D->D->MH->DK->Prop):Lz:=λd M Q=>match d with
 |[a,b,c]=>C a b c M Q
 |_=>False
theorem lY{p q r:Str}{C:D->D->D->MH->DK->Prop}(T:Txt K mg x st)(S:L0 N [p,q,r] (ao st))
 (body:∀(f:pd) (cdv:Hu) (A:Iv) (outer:List Env) (s:Hv) (H:Hp) (E:XK),La k (A.deeper (Kv x (ao st) s.z f cdv))->
  ∃t,DSs (gP Mt P w K mg base N x (ao st) f cdv A outer s H E).nox (aJ st) t/\∀a b c M Q,C a b c M Q->t (jV Q) (cZ N [a,b,c]) M)
 (i:∀(kV d g:Hu) (an:Option pd) (cdv ct a b c:Hu),Ko (IX x x (aX st) (aJ st) (ao st) .none kV d g an cdv ct) #[[a,b,c],[]]=pure ([p,q,r].zip [a,b,c]):=by intros;rfl):Cal P w K mg base (k+1) x (QP C):=by
 refine vz T S (λkV d g an cdv ct us j=>?_) (λe M Q h=>?_) λf cdv A outer s H E l=>?_
 .obtain⟨a,b,c,rfl⟩:=EJ j
  exact i ..
 .rcases e with _|⟨a,_|⟨b,_|⟨c,_|⟨w,e⟩⟩⟩⟩
  all_goals first|exact Ic h|rfl
 .obtain⟨t,h,m⟩:=body f cdv A outer s H E l
  refine #[t,h,λe M Q h=>?_]
  rcases e with _|⟨a,_|⟨b,_|⟨c,_|⟨w,e⟩⟩⟩⟩
  all_goals first|exact Ic h|exact m _ _ _ _ _ h
def We(C:D->D->D->D->MH->DK->Prop):Lz:=λe M Q=>match e with
 |[a,b,c,d]=>C a b c d M Q
 |_=>False
theorem xJ{p q r t:Str}{C:D->D->D->D->MH->DK->Prop}(T:Txt K mg x st)(S:L0 N [p,q,r,t] (ao st))
 (body:∀(f:pd) (cdv:Hu) (A:Iv) (outer:List Env) (s:Hv) (H:Hp) (E:XK),La k (A.deeper (Kv x (ao st) s.z f cdv))->
  ∃t,DSs (gP Mt P w K mg base N x (ao st) f cdv A outer s H E).nox (aJ st) t/\∀a b c d M Q,C a b c d M Q->t (jV Q) (cZ N [a,b,c,d]) M)
 (j:∀(kV e i:Hu) (an:Option pd) (cdv ct a b c d:Hu),Ko (IX x x (aX st) (aJ st) (ao st) .none kV e i an cdv ct) #[[a,b,c,d],[]]=pure ([p,q,r,t].zip [a,b,c,d]):=by intros;rfl):Cal P w K mg base (k+1) x (We C):=by
 refine vz T S (λkV e i an cdv ct us l=>?_) (λg M Q h=>?_) λf cdv A outer s H E m=>?_
 .obtain⟨a,b,c,d,rfl⟩:=GC l
  exact j ..
 .rcases g with _|⟨a,_|⟨b,_|⟨c,_|⟨d,_|⟨w,g⟩⟩⟩⟩⟩
  all_goals first|exact Ic h|rfl
 .obtain⟨t,h,n⟩:=body f cdv A outer s H E m
  refine #[t,h,λg M Q h=>?_]
  rcases g with _|⟨a,_|⟨b,_|⟨c,_|⟨d,_|⟨w,g⟩⟩⟩⟩⟩
  all_goals first|exact Ic h|exact n _ _ _ _ _ _ h
end
theorem RH{t:MN}{B:EndsD}{δ:DS}{M:MH}(h:∀a:EndsD,(∀δ M,B.nx δ M->a.nx δ M)->t a δ M):t B δ M:=h B λ_ _ h=>h
@[elab_as_elim] theorem Qb{P:r4->Prop}{n:Nat}{T:r4}(b:T.length=n+1)(h:∀(a:r_) (U:r4),U.length=n->P (a::U)):P T:=by
 cases T with
 |nil=>cases b
 |cons a U=>exact h a U (Nat.succ.inj b)
theorem Zk{P:r4->Prop}{T:r4}(b:T.length=0)(h:P []):P T:=by
 cases T with
 |nil=>exact h
 |cons a U=>cases b
@[elab_as_elim] theorem Hf{P:r4->Prop}{T:r4}(d:T.length=3)(h:∀a b c,P [a,b,c]):P T:=Qb (P:=P) d λa U d=>Qb (P:=λT=>P (a::T)) d λb U d=>Qb (P:=λT=>P (a::b::T)) d λc U d=>Zk (P:=λT=>P (a::b::c::T)) d (h a b c)
@[elab_as_elim] theorem Hs{P:r4->Prop}{T:r4}(g:T.length=6)(h:∀a b c d e f,P [a,b,c,d,e,f]):P T:=Qb (P:=P) g λa U g=>Qb (P:=λT=>P (a::T)) g λb U g=>Qb (P:=λT=>P (a::b::T)) g λc U g=>Hf (P:=λT=>P (a::b::c::T)) g (h a b c)
theorem fo{a:Type}{f:a->D}{l:List a}{i:Nat}{d:D}(h:(l.map f)[i]?=KJ d):∃x,l[i]?=KJ x/\d=f x:=by
 rw[HF]at h;cases e:l[i]? with
 |none=>rw[e]at h;cases h
 |some x=>rw[e]at h;cases h;exact #[x,rfl,rfl]
theorem Qo{M:MH}{p a:PySem.Addr}{o u:MO}(h:M a=KJ u)(b:M p=KL):(au M p o) a=KJ u:=by
 have n:a≠p:=λe=>by rw[e,b]at h;cases h
 rw[ak n];exact h
inductive Wc(a b c d:Prop):Prop
 |mk (_:a) (_:b) (_:c) (_:d):Wc a b c d
inductive Yk(a b c d e:Prop):Prop
 |mk (_:a) (_:b) (_:c) (_:d) (_:e):Yk a b c d e
inductive Wb(a b c d e f:Prop):Prop
 |mk (_:a) (_:b) (_:c) (_:d) (_:e) (_:f):Wb a b c d e f
inductive Wn(a b c d e f g:Prop):Prop
 |mk (_:a) (_:b) (_:c) (_:d) (_:e) (_:f) (_:g):Wn a b c d e f g
inductive ZF(a b c d e f g h:Prop):Prop
 |mk (_:a) (_:b) (_:c) (_:d) (_:e) (_:f) (_:g) (_:h):ZF a b c d e f g h
inductive ZE(a b c d e f g h i:Prop):Prop
 |mk (_:a) (_:b) (_:c) (_:d) (_:e) (_:f) (_:g) (_:h) (_:i):ZE a b c d e f g h i
inductive QM(a b c d e f g h i j:Prop):Prop
 |mk (_:a) (_:b) (_:c) (_:d) (_:e) (_:f) (_:g) (_:h) (_:i) (_:j):QM a b c d e f g h i j
inductive Pu{a0 a1:Type}(p:a0->a1->Prop):Prop
 |mk (x0:a0) (x1:a1) (h:p x0 x1):Pu p
inductive Q8{a0 a1 a2:Type}(p:a0->a1->a2->Prop):Prop
 |mk (x0:a0) (x1:a1) (x2:a2) (h:p x0 x1 x2):Q8 p
inductive Wa{a0 a1 a2 a3:Type}(p:a0->a1->a2->a3->Prop):Prop
 |mk (x0:a0) (x1:a1) (x2:a2) (x3:a3) (h:p x0 x1 x2 x3):Wa p
inductive Yh{a0 a1 a2 a3 a4:Type}(p:a0->a1->a2->a3->a4->Prop):Prop
 |mk (x0:a0) (x1:a1) (x2:a2) (x3:a3) (x4:a4) (h:p x0 x1 x2 x3 x4):Yh p
inductive Yg{a0 a1 a2 a3 a4 a5 a6:Type}(p:a0->a1->a2->a3->a4->a5->a6->Prop):Prop
 |mk (x0:a0) (x1:a1) (x2:a2) (x3:a3) (x4:a4) (x5:a5) (x6:a6) (h:p x0 x1 x2 x3 x4 x5 x6):Yg p
end SD
namespace QQ
open PySem PySem.Spec PyProof.Rows L2 SD
def top(i:Nat):pe:=IH.main.body.getD i (.Pass #[0,0,0,0])
abbrev jZ:pe:=top 57
abbrev ic:pe:=top 58
abbrev ez:pe:=top 62
abbrev dI:pe:=top 63
abbrev fT:pe:=top 64
abbrev iy:pe:=top 59
abbrev lD:pe:=top 60
abbrev gO:pe:=top 61
abbrev iL:pe:=top 65
abbrev de:pe:=top 66
abbrev fg:pe:=top 77
abbrev dE:pe:=m8 (top 55) 1
abbrev cI:pe:=top 5
abbrev iC:pe:=top 6
abbrev iM:pe:=top 16
abbrev iO:pe:=top 17
abbrev iz:pe:=top 41
abbrev jP:pe:=top 7
abbrev iQ:pe:=top 11
abbrev fq:pe:=top 14
abbrev fh:pe:=top 15
abbrev fO:pe:=top 42
abbrev d9:pe:=m8 (top 50) 0
abbrev df:pe:=top 43
abbrev gR:pe:=top 28
abbrev dk:pe:=top 29
abbrev xi:pe:=top 18
abbrev sS:pe:=top 19
abbrev j0:pe:=top 20
abbrev dG:pe:=top 30
abbrev eZ:pe:=top 31
abbrev gN:pe:=top 32
abbrev ig:pe:=top 33
abbrev dN:pe:=top 8
abbrev iH:pe:=top 9
abbrev fL:pe:=top 34
abbrev cY:pe:=top 36
abbrev fP:pe:=top 13
abbrev ef:pe:=top 37
abbrev nU:pe:=top 22
abbrev ip:pe:=top 12
abbrev iA:pe:=top 23
abbrev iP:pe:=top 25
abbrev fj:pe:=top 26
abbrev fQ:pe:=top 38
abbrev dh:pe:=top 39
abbrev fm:pe:=top 24
abbrev cO:pe:=top 52
abbrev dF:pe:=top 47
abbrev cJ:pe:=top 46
abbrev dD:pe:=top 54
abbrev c9:pe:=top 53
abbrev l7:pe:=top 45
abbrev cV:pe:=m8 (top 55) 0
abbrev iF:pe:=top 67
abbrev gj:pe:=top 69
abbrev ij:pe:=top 70
abbrev gv:pe:=top 68
abbrev ir:pe:=top 74
abbrev fS:pe:=top 71
abbrev fV:pe:=top 72
abbrev gz:pe:=top 73
abbrev dM:pe:=top 76
abbrev cn:pe:=top 75
abbrev xU:pe:=top 78
local macro_rules | `(tactic| walk_at "sc") => `(tactic| exact #[rfl, rfl, rfl, by decide, rfl, by decide, by decide])
theorem _root_.SD.Cal.m{P:HW}{w:IA}{K:Ht}{mg:Str->Option Hu}{base:pq}{j k:Nat}{x:Str}{sp:Lz}(h:Cal P w K mg base j x sp)(l:j<=k:=by decide):Cal P w K mg base k x sp:=h.mono l
variable(sx sy s_ ti tq:SD.D)(M:SD.MH)(Q:SD.DK)
open SD.Zq
structure Tx(K:Ht)(mg:Str->Option Hu):Prop where
 aM:Txt K mg "_law_pot" jZ
 a8:Txt K mg "_law_take" ic
 a_:Txt K mg "_law_new_spot" ez
 ba:Txt K mg "_law_some_spot" dI
 bb:Txt K mg "_law_square" fT
 bc:Txt K mg "_law_side" iy
 bq:Txt K mg "_law_on" lD
 bt:Txt K mg "_law_apart" gO
 bT:Txt K mg "_law_laid" iL
 bU:Txt K mg "_law_shuts_here" de
 b6:Txt K mg "_law_squares" fg
 b9:Txt K mg "greatest_divisor" cI
 b_:Txt K mg "fraction" iC
 cb:Txt K mg "own_spot" iM
 cp:Txt K mg "own_wall" iO
 c5:Txt K mg "own_plot" iz
 c6:Txt K mg "is_less" jP
 c_:Txt K mg "is_ahead" iQ
 dd:Txt K mg "place_among" fq
 dt:Txt K mg "ahead_first" fh
 dy:Txt K mg "corners_of" fO
 dV:Txt K mg "ends_by_number" df
 d_:Txt K mg "face_ends" gR
 ec:Txt K mg "faces_by_start" dk
 eh:Txt K mg "gap" xi
 el:Txt K mg "lean" sS
 en:Txt K mg "side_of" j0
 eu:Txt K mg "is_met_sooner" dG
 ew:Txt K mg "face_behind" eZ
 eH:Txt K mg "ring_from" gN
 eL:Txt K mg "rings_of" ig
 eP:Txt K mg "common_bottom" dN
 eR:Txt K mg "top_over" iH
 eT:Txt K mg "twice_area" fL
 e_:Txt K mg "outer_and_inner" cY
 fc:Txt K mg "earlier_of" fP
 fC:Txt K mg "first_corner" ef
 f_:Txt K mg "spans" nU
 f':Txt K mg "later_of" ip
 gq:Txt K mg "is_above" iA
 gw:Txt K mg "upper_of" iP
 gx:Txt K mg "upper_below" fj
 gy:Txt K mg "land_about" fQ
 g_:Txt K mg "lands_of_faces" dh
 hH:Txt K mg "above_table" fm
 hJ:Txt K mg "layers_of" cO
 hQ:Txt K mg "guide_between" dF
 hV:Txt K mg "guide_by_halving" cJ
 hW:Txt K mg "guide_of_wall" dD
 hY:Txt K mg "guide_of_layer" c9
 h5:Txt K mg "halves" l7
 h7:Txt K mg "_law_frac" iF
 h_:Txt K mg "_law_given" gj
 ia:Txt K mg "_law_plot" ij
 i7:Txt K mg "_law_frame" gv
 i_:Txt K mg "_law_same" ir
 j_:Txt K mg "_law_height" fS
 ke:Txt K mg "_law_higher" fV
 km:Txt K mg "_law_above" gz
 kz:Txt K mg "_law_stands_on" dM
 kS:Txt K mg "_law_layers" cn
 k_:Txt K mg "law" xU
 fc_layers_of:oW K mg "layers_of" cO 374
 lm_layers_of:Mk K mg 374 372
 fc_law_layers:oW K mg "_law_layers" cn 529
 lm_law_layers:Mk K mg 529 527
 lb:mg "abs"=KL
 lg:mg "any"=KL
 l4:mg "enumerate"=KL
 l_:mg "int"=KL
 ma:mg "len"=KL
 mu:mg "list"=KL
 m4:mg "max"=KL
 m_:mg "min"=KL
 nq:mg "range"=KL
 nv:mg "repr"=KL
 n7:mg "sorted"=KL
 n_:mg "sum"=KL
 ox:mg "tuple"=KL
 oy:mg "zip"=KL
 oD:ve K (cl K "Layers") "layers" "Layers.layers" dE
 o_:vQ K mg "Way" "__init__" "Way.__init__" d9
 pa:mU K mg "Layers" (cl K "Layers") "Layers.__init__" cV
 cl_Layers:Cls K (cl K "Layers")
 na_corners:bS K (cl K "Layers") "corners"
 na_guide:bS K (cl K "Layers") "guide"
 na_layer_rows:bS K (cl K "Layers") "layer_rows"
 na_most_looks:bS K (cl K "Layers") "most_looks"
 na_plot:bS K (cl K "Layers") "plot"
theorem iq:L0 ["_law_script","_law_k","_law_cell"] ["_law_script","_law_k"] (ao jZ):=⋯
inductive OI:Prop
 |mk (ns:q_) (k:Int) (_:sx=.rol (Jp D.int ns)) (_:sy=.int k) (_:0<=k) (_:∀r o,M r=KL->Lq (au M r o) r 0->Q (.ref r) (au M r o))
variable{P:HW}{w:IA}{K:Ht}{mg:Str->Option Hu}{base:pq}
theorem vG(T:Tx K mg):Cal P w K mg base 1 "_law_pot" (ME OI):=by
 refine a9 (k:=0) T.aM iq λf _ _ _ s H _ b=>#[_,(aj (aB 2 iq.nd ai) (aj (bw (aI (cU b.units) (dv 1) (aO cK rfl T.ma cG (ae (dv 0) af))) (aq (aB 2 iq.nd (ax (dv 0) (dv 1)))) aP) (aq (az (bK (ae (aO (oh rfl b.units) rfl T.m4 rC (ae (dv 2) (ae (aw bf (pB jc ai) (dv 2)) af))) (ae (aw fI (dv 2) ai) (ae ai af)))))))),λ_ _ M Q h=>?_];let[ns,k,rfl,rfl,n,q]:=h;refine dn (λδ a=>a=M/\δ=[KJ (.rol (Jp D.int ns)),KJ (.int k),KJ (.int 0)]) ?_ (λc=>c _ _ #[rfl,rfl]);rintro δ a ⟨e,rfl⟩;subst a;refine dn (λδ a=>a=M/\∃z:Int,δ=[KJ (.rol (Jp D.int ns)),KJ (.int k),KJ (.int z)]) ?_ (λc=>?_);rotate_left
 .exists 7,7,trivial,7;refine bF (λg=>?_) (λ_=>c _ _ #[rfl,0,rfl]);have i:k<(ns.length:Int):=‹g›
  obtain⟨j,rfl⟩:∃j:Nat,k=(j:Int):=#[k.toNat,()];have l:j<ns.length:=()
  exact #[7,7,.int ns[j],bz (by simp[l]),c _ _ #[rfl,7]]
 rintro δ a ⟨e,z,rfl⟩;subst a;have m:=Int.fmod_nonneg_of_pos z (show(0:Int)<2147483647 by decide);have d:=Int.fmod_lt_of_pos z (show(0:Int)<2147483647 by decide);exists 7,7,trivial;refine #[7,(show(2147483647:Int)≠0 by decide),L8 rfl,λr b=>?_];exact Lf (q r _ b #[_,_,_,ag,(),m,d,⋯,⋯])
theorem eO:L0 ["_law_pot_here","_law_size","_law_digit","_law_mixed"] ["_law_pot_here","_law_size"] (ao ic):=⋯
inductive Np:Prop
 |mk (r:pd) (b:Int) (n:Nat) (_:sx=.ref r) (_:sy=.int b) (_:Lq M r n) (_:n<900000) (_:0<b) (_:Bd 8000 b) (_:∀v o,0<=v->v<b->Lq (au M r o) r (n+1)->Q (.int v) (au M r o))
theorem aG(T:Tx K mg):Cal P w K mg base 1 "_law_take" (ME Np):=by
 refine a9 (k:=0) T.a8 eO λf _ _ _ s H _ z=>#[_,(aj (bw (aI (gB z.units) (ax (dv 0) ai) ai) (aj (aB 2 eO.nd (aw fI (ax (dv 0) ai) (dv 1))) (aj (bO (aw gh (ax (dv 0) ai) (dv 1)) (oj (dv 0) ai)) (aq (az (dv 2))))) aP) (aj (bO (aw aR (ax (dv 0) ai) ai) (oj (dv 0) ai)) (aj (aB 3 eO.nd (aw fI (aw aR (aw aR (aw aH (ax (dv 0) ai) ai) (aw aH (aw aH (ax (dv 0) ai) (ax (dv 0) ai)) ai)) ai) ai)) (aj (aB 3 eO.nd (aw fI (aw aH (dv 3) (dv 3)) ai)) (aq (az (aw fI (aw gh (aw fI (aw aH (dv 3) (aw aR (dv 3) ai)) ai) ai) (dv 1)))))))),λ_ _ M Q h=>?_];obtain⟨r,b,n,rfl,rfl,⟨x,y,c,d,hx,e,g,o,B⟩,p,v,t,q⟩:=h;have a:b≠0:=()
 have l:∀n:Int,0<=n.fmod b/\n.fmod b<b:=λn=>#[Int.fmod_nonneg_of_pos _ v,Int.fmod_lt_of_pos _ v];have i:Bd 64 (c+1):=by show(c+1).natAbs<2^64;omega
 have j:Bd 64 y:=by show y.natAbs<2^64;omega
 exists 7,_,_,d,rfl,trivial,7;refine bF (λh=>?_) (λh=>?_)
 .exists 7,_,_,d,rfl,7,a;exists 7,_,_,d,rfl,7,#[a,t],7,_,_,d,rfl;have u:0<=Int.fdiv x b:=by rw[IK _ ()];exact Int.ediv_nonneg hx ()
  exact #[7,Lf (q _ _ (l _).1 (l _).2 #[_,_,_,ag,u,e,g,o,()])]
 .have p:∀{m:Int} (n:Int),0<m->m<=2^31->Bd 64 (n.fmod m):=λ{m} n h0 h1=>by
   have C:=Int.fmod_nonneg_of_pos n h0
   have D:=Int.fmod_lt_of_pos n h0
   show(n.fmod m).natAbs<2^64
   omega
  exists 7,_,_,d,rfl,7,_,_,d,rfl;exists 7,_,_,ag,rfl,aL j;refine #[7,_,_,ag,rfl,7,_,_,ag,rfl,aL i,AV (bM ⋯),(show(2147483629:Int)≠0 by decide),?_];refine #[7,7,aL (p _ ⋯ ⋯),(show(2147483587:Int)≠0 by decide),?_];exists 7,7,aL (p _ ⋯ ⋯),(show(2147483563:Int)≠0 by decide),#[⋯,bM ⋯],7,a;exact Lf (q _ _ (l _).1 (l _).2 #[_,_,_,ag,hx,e,g,(),()])
theorem kB:L0 ["_law_pot_here","_law_wide"] ["_law_pot_here","_law_wide"] (ao ez):=⋯
inductive MC:Prop
 |mk (r:pd) (n:Nat) (m:Int) (_:sx=.ref r) (_:sy=.int m) (_:Lq M r n) (_:n<800000) (_:(0<m/\m<=10)) (_:∀(p:Vc) M',(4<=p.1/\p.1<=13)->(4<=p.2/\p.2<=13)->Kx [r] M M'->Lq M' r (n+2)->Q (gp 6 24 p) M')
theorem gK(T:Tx K mg):Cal P w K mg base 2 "_law_new_spot" (ME MC):=by
 refine a9 (k:=1) T.a_ kB λf _ _ _ s H _ a=>#[_,(aq (az (aE (ae (aw aH ai (ar (aG T).m a (ae (dv 0) (ae (dv 1) af)))) (ae (aw aH ai (ar (aG T).m a (ae (dv 0) (ae (dv 1) af)))) af))))),λ_ _ M Q h=>?_];let[r,n,m,rfl,rfl,b,o,p,k]:=h;refine #[7,7,r,m,n,rfl,rfl,b,(),(),bM (),λx q c d g=>?_];refine #[aL (bM ⋯),7,7,r,m,n+1,rfl,rfl,g,(),(),bM (),λy t i j l=>#[aL (bM ⋯),L8 rfl,?_]];have e:gp 6 24 (x+4,y+4)=.tup [.int (6*x),.int (6*y)]:=by unfold gp;rw[show 6*(x+4,y+4).1-24=6*x by show 6*(x+4)-24=_;omega,show 6*(x+4,y+4).2-24=6*y by show 6*(y+4)-24=_;omega]
 have:=k (x+4,y+4) _ #[by show 4<=x+4;omega,by show x+4<=13;omega] #[by show 4<=y+4;omega,by show y+4<=13;omega] ((Kx.refl.upd (by simp)).upd (by simp)) l;rw[e]at this;exact Lf this
theorem jw:L0 ["_law_pot_here","_law_shuts","_law_wide"] ["_law_pot_here","_law_shuts","_law_wide"] (ao dI):=⋯
inductive Ml:Prop
 |mk (r l:pd) (n:Nat) (m:Int) (ws:r3) (_:sx=.ref r) (_:sy=.ref l) (_:s_=.int m) (_:r≠l) (_:M l=KJ (.lst (ws.map (L9 6 24)))) (_:(∀w∈ws,Le w)) (_:ws.length<=40) (_:Lq M r n) (_:n<700000) (_:(0<m/\m<=10)) (_:∀(p:Vc) M',MD p->Kx [r] M M'->Lq M' r (n+3)->Q (gp 6 24 p) M')
theorem kn(T:Tx K mg):Cal P w K mg base 3 "_law_some_spot" (QP Ml):=by
 refine lY (k:=2) T.ba jw λf _ _ _ s H _ b=>#[_,(aj (bw (pO (BD (aI (bX b.units) (dv 1) (bK af)) (xD (aI (bX b.units) (ar (aG T).m b (ae (dv 0) (ae ai af))) ai)))) (aq (az (ar (gK T).m b (ae (dv 0) (ae (dv 2) af))))) aP) (aq (az (ax (ax (dv 1) (ar (aG T).m b (ae (dv 0) (ae (aO cK rfl T.ma cG (ae (dv 1) af)) af)))) (ar (aG T).m b (ae (dv 0) (ae ai af))))))),λ_ _ _ M Q h=>?_];let[r,l,n,m,ws,rfl,rfl,rfl,c,D,R,F,S,hn,U,k]:=h;(try dsimp only[SD.fB,SD.dw,SD.aW,SD.f9,SD.fD,SD.c7,SD.dO,SD.tBD,SD.f7,SD.EndsD.nxt,SD.EndsD.lp])
 refine #[7,L8 rfl,λz u=>?_];have d:∀{G},(au M z G) l=KJ (.lst (ws.map (L9 6 24))):=λ{G}=>by rw[ak (av D u)];exact D
 have I:∀{G},Lq (au M z G) r n:=λ{G}=>S.new u;have J:∀{G},Kx [r] M (au M z G):=λ{G}=>Kx.refl.new u;exists _,_,.lst d (wu 6 24 ws),.lst ag .nil,uN 6 24 ws,rfl,7;rw[rV];have a:∀{j:MH} {q:Nat},Kx [r] M j->Lq j r q->q<=n+1->fD (sM (ME MC) (sP (OK 0) (sP (OK 2) xN))) { nx:=λx y=>Q6 Q .non y,rt:=Q6 Q } [KJ (.ref r),KJ (.ref l),KJ (.int m)] j:=λ{j q} kx t le=>#[7,7,r,q,m,rfl,rfl,t,(),U,λp y p1 p2 B C=>Lf (k p y #[(),()] (kx.trans B) (C.le ()))];refine bF (λe=>?_) (λe=>?_)
 .exact a J I ()
 have L:0<ws.length:=by
  cases ws with
  |nil=>simp at e
  |cons w ws=>simp
 refine #[7,r,3,n,rfl,rfl,I,(),⋯,bM ⋯,λv o h0 h1 t=>#[7,?_]];have N:=J (G:=.lst []);refine bF (λ_=>a (N.upd (by simp)) t ()) (λ_=>?_);have i:(au (au M z (.lst [])) r o) l=KJ (.lst (ws.map (L9 6 24))):=by rw[ak c.symm];exact d
 have V:Kx [r] M (au (au M z (.lst [])) r o):=N.upd (by simp);refine #[7,7,7,_,i,r,_,n+1,rfl,rfl,t,(),(by rw[Hw];omega),bM (by rw[Hw];omega),λv2 o2 W O C=>?_];let[w,X,Y]:=Ar (g:=6) (h:=24) (ws:=ws) W (by rw[Hw]at O;exact O);exists _,_,(by rw[ak c.symm];exact i),Y;refine #[7,r,2,n+2,rfl,rfl,C,(),⋯,bM ⋯,λv3 o3 b0 b1 Z=>?_];let[p,bp,ep]:=Au (g:=6) (h:=24) (R w X) b0 b1;exact #[_,ep,Lf (k p _ bp ((V.upd (by simp)).upd (by simp)) Z)]
theorem du:L0 ["_law_pot_here","_law_wide","_law_x","_law_y","_law_far"] ["_law_pot_here","_law_wide"] (ao fT):=⋯
inductive NL:Prop
 |mk (r:pd) (n:Nat) (m:Int) (_:sx=.ref r) (_:sy=.int m) (_:Lq M r n) (_:n<700000) (_:(0<m/\m<=10)) (_:∀(q:pd) (us:List Vc) M',Kx [r] M M'->r≠q->M q=KL->M' q=KJ (.lst (us.map (gp 6 24)))->us.length=5->(∀sx∈us,MD sx)->Lq M' r (n+4)->Q (.ref q) M')
theorem nQ(T:Tx K mg):Cal P w K mg base 3 "_law_square" (ME NL):=by
 refine a9 (k:=2) T.bb du λf _ _ _ s H _ d=>#[_,(aj (bO (ar (gK T).m d (ae (dv 0) (ae (dv 1) af))) (br rfl (aA (ay 2 du.nd) (aA (ay 3 du.nd) aU)))) (aj (aB 4 du.nd (aw aH ai (aw aR ai (ar (aG T).m d (ae (dv 0) (ae ai af)))))) (aj (bw (aI (bX d.units) (ar (aG T).m d (ae (dv 0) (ae ai af))) ai) (aq (az (bK (ae (aE (ae (aw bf (dv 2) (dv 4)) (ae (aw bf (dv 3) (dv 4)) af))) (ae (aE (ae (aw aR (dv 2) (dv 4)) (ae (aw bf (dv 3) (dv 4)) af))) (ae (aE (ae (aw aR (dv 2) (dv 4)) (ae (aw aR (dv 3) (dv 4)) af))) (ae (aE (ae (aw bf (dv 2) (dv 4)) (ae (aw aR (dv 3) (dv 4)) af))) (ae (aE (ae (aw bf (dv 2) (dv 4)) (ae (aw bf (dv 3) (dv 4)) af))) af)))))))) aP) (aq (az (bK (ae (aE (ae (aw bf (dv 2) (dv 4)) (ae (dv 3) af))) (ae (aE (ae (dv 2) (ae (aw bf (dv 3) (dv 4)) af))) (ae (aE (ae (aw aR (dv 2) (dv 4)) (ae (dv 3) af))) (ae (aE (ae (dv 2) (ae (aw aR (dv 3) (dv 4)) af))) (ae (aE (ae (aw bf (dv 2) (dv 4)) (ae (dv 3) af))) af))))))))))),λ_ _ M Q h=>?_];let[r,n,m,rfl,rfl,F,O,G,k]:=h;refine #[7,7,r,n,m,rfl,rfl,F,(),G,λp I R S kx J=>?_];exists 7,rfl,_,7,_,7,rfl;refine #[7,r,4,n+2,rfl,rfl,J,(),⋯,bM ⋯,λf o h0 h1 L=>#[aL (bM ⋯),?_]];refine #[7,r,2,n+3,rfl,rfl,L,(),⋯,bM ⋯,λv N U V g=>#[7,?_]];have b:Kx [r] M (au (au I r o) r N):=(kx.upd (by simp)).upd (by simp);have l:6*p.1-24-6*(1+f)=6*(p.1-(1+f))-24:=()
 have t:6*p.2-24-6*(1+f)=6*(p.2-(1+f))-24:=()
 have B:6*p.1-24+6*(1+f)=6*(p.1+(1+f))-24:=()
 have C:6*p.2-24+6*(1+f)=6*(p.2+(1+f))-24:=()
 have D:∀(x y:Int),(x=p.1-(1+f)\/x=p.1\/x=p.1+(1+f))->(y=p.2-(1+f)\/y=p.2\/y=p.2+(1+f))->MD (x,y):=λx y hx hy=>by
  refine #[#[?_,?_],#[?_,?_]]
  .show 0<=x;omega
  .show x<=20;omega
  .show 0<=y;omega
  .show y<=20;omega
 refine bF (λ_=>?_) (λ_=>?_)
 .exists 7,7,trivial,7,7,trivial,L8 rfl;exists 7,7,7,7,trivial,L8 rfl;exists 7,7,7,7,L8 rfl;exists 7,7,trivial,7,7,L8 rfl;refine #[7,7,trivial,7,7,trivial,L8 rfl,L8 rfl,λq a=>?_]
  have i:M q=KL:=by
   cases e:M q with
   |none=>rfl
   |some j=>
    by_cases z:q=r
    .subst z;rw[ag]at a;cases a
    .rw[b q j ‹z› e]at a;cases a
  refine Lf (k q [(p.1-(1+f),p.2-(1+f)),(p.1+(1+f),p.2-(1+f)),(p.1+(1+f),p.2+(1+f)),(p.1-(1+f),p.2+(1+f)),(p.1-(1+f),p.2-(1+f))] _ (b.new a) (g.ne a) i ?_ rfl ?_ (g.new a))
  .rw[ag];simp only[gp,HI,Jm];rw[<-l,<-t,<-B,<-C]
  .intro u c;simp only[II,List.not_mem_nil,or_false]at c;rcases c with rfl|rfl|rfl|rfl|rfl<;>exact D _ _ (by simp) (by simp)
 .exists 7,7,trivial,7,L8 rfl;exists 7,7,7,trivial,L8 rfl;exists 7,7,7,L8 rfl;exists 7,7,7,L8 rfl;refine #[7,7,trivial,7,L8 rfl,L8 rfl,λq a=>?_]
  have i:M q=KL:=by
   cases e:M q with
   |none=>rfl
   |some j=>
    by_cases z:q=r
    .subst z;rw[ag]at a;cases a
    .rw[b q j ‹z› e]at a;cases a
  refine Lf (k q [(p.1-(1+f),p.2),(p.1,p.2-(1+f)),(p.1+(1+f),p.2),(p.1,p.2+(1+f)),(p.1-(1+f),p.2)] _ (b.new a) (g.ne a) i ?_ rfl ?_ (g.new a))
  .rw[ag];simp only[gp,HI,Jm];rw[<-l,<-t,<-B,<-C]
  .intro u c;simp only[II,List.not_mem_nil,or_false]at c;rcases c with rfl|rfl|rfl|rfl|rfl<;>exact D _ _ (by simp) (by simp)
theorem cP:L0 ["_law_shut","_law_spot","_law_a","_law_b","_law_c","_law_d","_law_way"] ["_law_shut","_law_spot"] (ao iy):=⋯
inductive Nq:Prop
 |mk (g h:Int) (w:Wl) (p:Vc) (_:sx=L9 g h w) (_:sy=gp g h p) (_:Gs g h) (_:Le w) (_:MD p) (_:Q (.int (Ie (sd w p.1 p.2))) M)
theorem eC(T:Tx K mg):Cal P w K mg base 1 "_law_side" (ME Nq):=by
 refine a9 (k:=0) T.bc cP λf _ _ _ s H _ e=>#[_,(aj (bO (ax (dv 0) ai) (br rfl (aA (ay 2 cP.nd) (aA (ay 3 cP.nd) aU)))) (aj (bO (ax (dv 0) ai) (br rfl (aA (ay 4 cP.nd) (aA (ay 5 cP.nd) aU)))) (aj (aB 6 cP.nd (aw bf (aw aH (aw bf (dv 4) (dv 2)) (aw bf (ax (dv 1) ai) (dv 3))) (aw aH (aw bf (dv 5) (dv 3)) (aw bf (ax (dv 1) ai) (dv 2))))) (aq (az (aw bf (cQ wY rfl T.l_ wm (ae (bL (gB e.units) (dv 6) ai) af)) (cQ wY rfl T.l_ wm (ae (bL (cU e.units) (dv 6) ai) af)))))))),λ_ _ M Q h=>?_];let[g,h,w,p,rfl,rfl,G,W,m,k]:=h;have i:=g8 G W.a;have j:=g8 G W.b;have l:=g8 G W.c;have bd:=g8 G W.d;exists 7,7,7,rfl,_,7,_,7,rfl;exists 7,7,7,rfl,_,7,_,7,rfl;exists 7,7,trivial,7,7,7,trivial,aL ((l.sub i).mono ⋯);exists 7,7,trivial,7,7,7,trivial,aL ((bd.sub j).mono ⋯),trivial;exists 7,trivial,7,trivial,trivial
 have e1:∀z:Int,(if decide (0<z)=KN then(1:Int)else 0)-(if decide (z<0)=KN then(1:Int)else 0)=Ie z:=λz=>by
  rcases Ih z 0 with h|h|h
  .rw[Ir h,KP (by simp;omega),KQ ‹h›];rfl
  .subst h;rfl
  .rw[IE h,KQ ‹h›,KP (by simp;omega)];rfl
 have e2:=Eh g h w.1 w.2.1 w.2.2.1 w.2.2.2 p.1 p.2;unfold Mg at e2;have e3:=e1 ((g*w.2.2.1-h-(g*w.1-h))*(g*p.2-h-(g*w.2.1-h))-(g*w.2.2.2-h-(g*w.2.1-h))*(g*p.1-h-(g*w.1-h)));have e4:Ie ((g*w.2.2.1-h-(g*w.1-h))*(g*p.2-h-(g*w.2.1-h))-(g*w.2.2.2-h-(g*w.2.1-h))*(g*p.1-h-(g*w.1-h)))=Ie (sd w p.1 p.2):=by rw[e2,FY G.g0];rfl
 rw[<-e4,<-e3]at k;exact Lf k
theorem vm:L0 ["_law_shut","_law_spot"] ["_law_shut","_law_spot"] (ao lD):=⋯
inductive OS:Prop
 |mk (g h:Int) (w:Wl) (p:Vc) (_:sx=L9 g h w) (_:sy=gp g h p) (_:Gs g h) (_:Le w) (_:MD p) (_:Q (.bl (decide (l1 w<=la p.1 p.2)&&(decide (la p.1 p.2<=l2 w)&&decide (sd w p.1 p.2=0)))) M)
theorem wU(T:Tx K mg):Cal P w K mg base 2 "_law_on" (ME OS):=by
 refine a9 (k:=1) T.bq vm λf _ _ _ s H _ c=>#[_,(aq (az (jt (bL (xk c.units) (ax (dv 0) ai) (dv 1)) (jt (bL (xk c.units) (dv 1) (ax (dv 0) ai)) (lG (bL (bX c.units) (ar (eC T).m c (ae (dv 0) (ae (dv 1) af))) ai)))))),λ_ _ M Q h=>?_];let[g,h,w,p,rfl,rfl,G,W,i,k]:=h;(try dsimp only[SD.fB,SD.dw,SD.aW,SD.f9,SD.fD,SD.c7,SD.dO,SD.tBD,SD.f7,SD.EndsD.nxt,SD.EndsD.lp])
 refine wC (decide (l1 w<=la p.1 p.2)) (decide (la p.1 p.2<=l2 w)&&decide (sd w p.1 p.2=0)) (λK j=>?_) (λ_ K j=>?_) (Lf k)
 .exists 7,7,7,[g*w.1-h,g*w.2.1-h],[g*p.1-h,g*p.2-h],rfl,rfl;rw[tR G.g0,BH W.b i.2];exact j
 .refine wC (decide (la p.1 p.2<=l2 w)) (decide (sd w p.1 p.2=0)) (λl a=>?_) (λ_ l a=>?_) j
  .exists 7,7,7,[g*p.1-h,g*p.2-h],[g*w.2.2.1-h,g*w.2.2.2-h],rfl,rfl;rw[tR G.g0,BH i.2 W.d];exact a
  .exists 7,7,g,h,w,p,rfl,rfl,G,W,i;have e:decide (Ie (sd w p.1 p.2)=0)=decide (sd w p.1 p.2=0):=by rw[KU];exact Int.sign_eq_zero_iff_zero
   show l (.bl (decide _)) _;rw[e];exact a
theorem cT:L0 ["_law_one","_law_other","_law_shut","_law_ends","_law_spot","_law_both"] ["_law_one","_law_other"] (ao gO):=⋯
inductive NY:Prop
 |mk (g h:Int) (U V:Wl) (_:sx=L9 g h U) (_:sy=L9 g h V) (_:Gs g h) (_:Le U) (_:Le V) (_:∀b:Bool,(b=KN->Lv U V)->Q (.bl b) M)
theorem oY(T:Tx K mg):Cal P w K mg base 3 "_law_apart" (ME NY):=by
 refine a9 (k:=2) T.bt cT λf cdv A outer s H E o=>#[_,(aj (bD HY rfl (aN (bK (ae (aE (ae (dv 0) (ae (dv 1) af))) (ae (aE (ae (dv 1) (ae (dv 0) af))) af)))) (br rfl (aA (ay 2 cT.nd) (aA (ay 3 cT.nd) aU))) (aq (bD HY rfl (aN (dv 3)) (ay 4 cT.nd) (aq (bw (pO (jR (dH (ar (wU T).m o (ae (dv 2) (ae (dv 4) af)))) (gS (aI (jn (iK o)) (dv 4) (dv 2) (by with_unfolding_all rfl))))) (aq (az je)) aP))))) (aj (aB 5 cT.nd (bL (cU o.units) (aw aH (ar (eC T).m o (ae (dv 0) (ae (ax (dv 1) ai) af))) (ar (eC T).m o (ae (dv 0) (ae (ax (dv 1) ai) af)))) ai)) (aq (az (jt (bL (jd o.units) (dv 0) (dv 1)) (lG (wx (jt (dv 5) (lG (bL (cU o.units) (aw aH (ar (eC T).m o (ae (dv 1) (ae (ax (dv 0) ai) af))) (ar (eC T).m o (ae (dv 1) (ae (ax (dv 0) ai) af)))) ai)))))))))),λ_ _ M Q h=>?_];let[g,h,U,V,rfl,rfl,G,r,t,k]:=h;refine dn (λδ u=>SD.Sub M u/\(Q8 λC F n=>δ=[KJ (L9 g h U),KJ (L9 g h V),C,F,n,KL])/\(aV U (l1 V) (Lh U V)/\aV U (l2 V) (Lj U V))/\(aV V (l1 U) (Lh V U)/\aV V (l2 U) (Lj V U))) ?_ (λhu=>?_);rotate_left
 .refine #[7,7,L8 rfl,7,7,L8 rfl,L8 rfl,λlp R=>#[[.tup [L9 g h U,L9 g h V],.tup [L9 g h V,L9 g h U]],ag,?_]];exists λi δ u=>(SD.Sub M u/\u lp=KJ (.lst [.tup [L9 g h U,L9 g h V],.tup [L9 g h V,L9 g h U]]))/\(Q8 λC F n=>δ=[KJ (L9 g h U),KJ (L9 g h V),C,F,n,KL])/\(0<i->aV U (l1 V) (Lh U V)/\aV U (l2 V) (Lj U V))/\(1<i->aV V (l1 U) (Lh V U)/\aV V (l2 U) (Lj V U)),#[#[.new R .refl,ag],#[_,_,7],λz=>absurd z ⋯,λz=>absurd z ⋯],λ_ _ _ _ q=>q.1.2,?_
  .rintro i d δ u Z hd ⟨⟨I,J⟩,⟨C,F,n,rfl⟩,S,p2⟩;have Z:i<2:=Z;have hd:[D.tup [L9 g h U,L9 g h V],.tup [L9 g h V,L9 g h U]][i]?=KJ d:=hd
   have L:∃A B,d=.tup [L9 g h A,L9 g h B]/\Le A/\Le B/\((aV A (l1 B) (Lh A B)/\aV A (l2 B) (Lj A B))->(0<i+1->aV U (l1 V) (Lh U V)/\aV U (l2 V) (Lj U V))/\(1<i+1->aV V (l1 U) (Lh V U)/\aV V (l2 U) (Lj V U))):=by
    rcases(():i=0\/i=1)with rfl|rfl
    .cases hd;exact #[U,V,rfl,r,t,λz=>#[λ_=>z,λy=>absurd y ⋯]]
    .cases hd;exact #[V,U,rfl,t,r,λz=>#[λ_=>S ⋯,λ_=>z]]
   let[A,B,rfl,HA,HB,nxt]:=L;exists 7,rfl,_,7,_,7,rfl;exists 7,[gp g h (ea B),gp g h (eb B)],rfl;exists λj δ l=>l=u/\(∃n,δ=[KJ (L9 g h U),KJ (L9 g h V),KJ (L9 g h A),KJ (L9 g h B),n,KL])/\(0<j->aV A (l1 B) (Lh A B))/\(1<j->aV A (l2 B) (Lj A B)),#[rfl,#[_,rfl],λz=>absurd z ⋯,λz=>absurd z ⋯],λ_ _ _ _ _=>rfl,?_
   .rintro j d δ l hj hd ⟨e,⟨n,rfl⟩,W,q2⟩;subst l;have hj:j<2:=hj;have hd:[gp g h (ea B),gp g h (eb B)][j]?=KJ d:=hd
    have pk:∃p:Vc,d=gp g h p/\MD p/\(aV A (la p.1 p.2) (sd A p.1 p.2)->(0<j+1->aV A (l1 B) (Lh A B))/\(1<j+1->aV A (l2 B) (Lj A B))):=by
     rcases(():j=0\/j=1)with rfl|rfl
     .cases hd;exact #[7,HB.ea,λz=>#[λ_=>z,λy=>absurd y ⋯]]
     .cases hd;exact #[7,HB.eb,λz=>#[λ_=>W ⋯,λ_=>z]]
    let[p,rfl,hp,X]:=pk;(try dsimp only[SD.fB,SD.dw,SD.aW,SD.f9,SD.fD,SD.c7,SD.dO,SD.tBD,SD.f7,SD.EndsD.nxt,SD.EndsD.lp])
    refine xM (decide (l1 A<=la p.1 p.2)&&(decide (la p.1 p.2<=l2 A)&&decide (sd A p.1 p.2=0))) (!(decide (ea A=p)||decide (eb A=p))) (λK v=>#[7,7,g,h,A,p,rfl,rfl,G,HA,hp,7,v]) (λ_ K v=>#[7,7,?_]) ?_
    .exists _,_,Pd.of rfl,.inr (Pd.of rfl),rfl,rfl,7;rw[Ke,Ke,List.any_nil,rZ G.g0,rZ G.g0,Bool.or_false];exact v
    refine bF (λ_=>#[M,I,k KO (λz=>absurd z Ib)]) (λO=>?_);refine #[rfl,#[_,rfl],X (v9 HA hp.2 ?_)];have e1:decide (ea A=p)=decide (A.1=p.1/\A.2.1=p.2):=by rw[KU];exact #[λz=>by rw[<-z];exact #[rfl,rfl],λz=>Prod.ext z.1 z.2]
    have e2:decide (eb A=p)=decide (A.2.2.1=p.1/\A.2.2.2=p.2):=by rw[KU];exact #[λz=>by rw[<-z];exact #[rfl,rfl],λz=>Prod.ext z.1 z.2]
    have O:=eq_false_of_ne_true O;rw[e1,e2]at O;have key:∀a b c d:Bool,((a&&(b&&c))&&d)=KO->(d&&((a&&b)&&c))=KO:=⋯
    exact key _ _ _ _ O
   .rintro δ l ⟨e,⟨n,rfl⟩,W,q2⟩;subst l;exact #[#[I,J],#[_,_,7],nxt #[W (⋯:0<2),q2 (⋯:1<2)]]
  .rintro δ u ⟨⟨I,_⟩,⟨C,F,n,rfl⟩,S,p2⟩;exact hu _ _ #[I,#[_,_,7],S (⋯:0<2),p2 (⋯:1<2)]
 rintro δ u ⟨I,⟨C,F,n,rfl⟩,⟨e1,e2⟩,⟨e3,e4⟩⟩;exists 7,7,7,g,h,U,ea V,rfl,rfl,G,r,t.ea;exists 7,7,7,g,h,U,eb V,rfl,rfl,G,r,t.eb,aL (Br _),trivial;have N:∀b:Bool,b=(!PyData.eqv (.tuple [.tuple [.int (g*U.1-h),.int (g*U.2.1-h)],.tuple [.int (g*U.2.2.1-h),.int (g*U.2.2.2-h)]]) (.tuple [.tuple [.int (g*V.1-h),.int (g*V.2.1-h)],.tuple [.int (g*V.2.2.1-h),.int (g*V.2.2.2-h)]]))->b=KN->¬(l1 U=l1 V/\l2 U=l2 V):=λb e z ⟨z1,z2⟩=>by let[a1,a2]:=lH r.b t.b z1;let[a3,a4]:=lH r.d t.d z2;rw[e,a1,a2,a3,a4]at z;simp[J0,Jl]at z
 generalize Y:(!PyData.eqv (.tuple [.tuple [.int (g*U.1-h),.int (g*U.2.1-h)],.tuple [.int (g*U.2.2.1-h),.int (g*U.2.2.2-h)]]) (.tuple [.tuple [.int (g*V.1-h),.int (g*V.2.1-h)],.tuple [.int (g*V.2.2.1-h),.int (g*V.2.2.2-h)]]))=b1 at N;(try dsimp only[SD.fB,SD.dw,SD.aW,SD.f9,SD.fD,SD.c7,SD.dO,SD.tBD,SD.f7,SD.EndsD.nxt,SD.EndsD.lp])
 refine wC b1 (!(decide (Ie (Lh U V)*Ie (Lj U V)<0)&&decide (Ie (Lh V U)*Ie (Lj V U)<0))) (λK v=>#[7,7,_,_,Pd.of rfl,Pd.of rfl,rfl,rfl,?_]) (λ_ K v=>?_) #[M,I,k _ λz=>?_]
 .rw[<-Y]at v;exact v
 .exact wC (decide (Ie (Lh U V)*Ie (Lj U V)<0)) (decide (Ie (Lh V U)*Ie (Lj V U)<0)) (λK' x=>#[7,x]) (λ_ K' x=>#[7,7,7,g,h,V,ea U,rfl,rfl,G,t,r.ea,7,7,7,g,h,V,eb U,rfl,rfl,G,t,r.eb,aL (Br _),trivial,x]) #[7,v]
 .rw[Ji]at z;exists N b1 rfl z.1,e1,e2,e3,e4;have:=z.2;by_cases c1:Ie (Lh U V)*Ie (Lj U V)<0
  .by_cases c2:Ie (Lh V U)*Ie (Lj V U)<0
   .rw[KS c1,KS c2]at this;cases this
   .exact .inr ()
  .exact .inl ()
theorem eN:L0 ["_law_pot_here","_law_shuts","_law_spots","_law_one","_law_other","_law_shut"] ["_law_pot_here","_law_shuts","_law_spots"] (ao iL):=⋯
inductive Nu:Prop
 |mk (r l q:pd) (n:Nat) (ws:r3) (us:List Vc) (_:sx=.ref r) (_:sy=.ref l) (_:s_=.ref q) (_:r≠l) (_:q≠l) (_:q≠r) (_:M l=KJ (.lst (ws.map (L9 6 24)))) (_:(∀s_∈ws,Le s_)) (_:PF ws) (_:ws.length<=30) (_:M q=KJ (.lst (us.map (gp 6 24)))) (_:(∀sx∈us,MD sx)) (_:us.length<=6) (_:Lq M r n) (_:n<600000) (_:∀(ws':r3) M',Kx [r,l] M M'->M' l=KJ (.lst (ws'.map (L9 6 24)))->(∀s_∈ws',Le s_)->PF ws'->ws'.length<=ws.length+5->Lq M' r (n+6)->Q .non M')
theorem rF(T:Tx K mg):Cal P w K mg base 4 "_law_laid" (QP Nu):=by
 refine lY (k:=3) T.bT eN λf _ _ _ s H _ X=>#[_,(aq (bD HY rfl (wo rfl T.oy (ae (dv 2) (ae (qH (dv 2) (tU ai) uD) af))) (br rfl (aA (ay 3 eN.nd) (aA (ay 4 eN.nd) aU))) (aj (aB 5 eN.nd (aE (ae (aO (oI rfl X.units) rfl T.m_ sO (ae (dv 3) (ae (dv 4) af))) (ae (aO (oh rfl X.units) rfl T.m4 rC (ae (dv 3) (ae (dv 4) af))) af)))) (aq (bw (pO (jR (aI (jd X.units) (dv 3) (dv 4)) (gS (aI (jn (iK X)) je (bN (L4.of (xs:=["_law_some"]) (js:=[5]) rfl) rfl (aN (dv 1)) (λ_ _ _ _=>bo) (λ_ _ _ _=>(ar (oY T).m X (ae (dv 1) (ae (dv 0) af))))) (by with_unfolding_all rfl))))) (aq (cu (gu (dv 1) (ae (ar (aG T).m X (ae (dv 0) (ae (aw aR (aO cK rfl T.ma cG (ae (dv 1) af)) ai) af))) (ae (dv 5) af))))) aP))))),λ_ _ _ M Q h=>?_];let[r,l,q,n,ws,us,rfl,rfl,rfl,Z,c0,d0,hl,hU,hF,f0,hq,hB,g0,P0,hn,k]:=h;refine #[7,7,7,_,hq,λq2 C=>?_];rw[mS];have a0:∀{a o},M a=KJ o->a≠q2:=λh=>av h C;have lq:r≠q2:=P0.ne C;exists q,q2,us.map (gp 6 24),(us.drop 1).map (gp 6 24),rfl,(by rw[ak (a0 hq)];exact hq),ag;have i0:min (us.map (gp 6 24)).length ((us.drop 1).map (gp 6 24)).length<=5:=by simp;omega
 exists λi δ B=>Wa λ(c:r3) (o3 o4 o5:r_)=>ZF (δ=[KJ (.ref r),KJ (.ref l),KJ (.ref q),o3,o4,o5]) (Kx [r,l] M B) (B q2=KJ (.lst ((us.drop 1).map (gp 6 24)))) (B l=KJ (.lst (c.map (L9 6 24)))) (∀w∈c,Le w) (PF c) (c.length<=ws.length+i) (Lq B r (n+i)),#[ws,_,_,7,Kx.refl.new C,ag,by rw[ak (a0 hl)];exact hl,hU,hF,(),P0.new C],λi δ B _ z=>by let[_,_,_,_,_,kx,h2,_]:=z;exact #[kx q _ (by simp[c0,d0]) hq,h2],?_;rotate_left
 .rintro δ B ⟨c,o3,o4,o5,rfl,kx,h2,F,J,L,G,Y⟩;have G:c.length<=ws.length+min (us.map (gp 6 24)).length ((us.drop 1).map (gp 6 24)).length:=G;have Y:Lq B r (n+min (us.map (gp 6 24)).length ((us.drop 1).map (gp 6 24)).length):=Y;exact Lf (k c B kx F J L () (Y.le ()))
 rintro i d δ B hi hd ⟨c,o3,o4,o5,rfl,kx,h2,F,J,L,G,Y⟩;have hi:i<min (us.map (gp 6 24)).length ((us.drop 1).map (gp 6 24)).length:=hi;have hd:((us.map (gp 6 24))[i]?).bind (λd=>(((us.drop 1).map (gp 6 24))[i]?).map λe=>D.tup [d,e])=KJ d:=hd;have iu:i<us.length:=by simp at hi;omega
 have iv:1+i<us.length:=by simp at hi;omega
 obtain⟨u,v,rfl,bu,bv⟩:∃u v,d=.tup [gp 6 24 u,gp 6 24 v]/\MD u/\MD v:=by refine #[us[i],us[1+i],?_,hB _ (IU iu),hB _ (IU iv)];rw[HF,Hy iu,HF,List.getElem?_drop,Hy iv]at hd;cases hd;rfl
 exists 7,rfl,_,7,_,7,rfl;exists 7,7,[6*u.1-24,6*u.2-24],[6*v.1-24,6*v.2-24],rfl,rfl;exists 7,7,[6*u.1-24,6*u.2-24],[6*v.1-24,6*v.2-24],rfl,rfl,L8 rfl;exists 7,7,_,_,Pd.of rfl,Pd.of rfl,rfl,rfl,7;rw[rZ ⋯];refine bF (λO=>?_) (λ_=>?_);rotate_left
 .refine lW rfl ?_;exact #[c,_,_,7,kx,h2,F,J,L,(),Y.le ()]
 have O:u≠v:=λz=>by rw[z]at O;simp at O
 let[w,hw,e1,e2]:=Ad (g:=6) (h:=24) ⋯ bu bv O;rw[e1,e2];exists 7,c.map (L9 6 24),F;refine #[by simp;omega,λz hz=>?_];have nz:∀{a o},B a=KJ o->a≠z:=λh=>av h hz;exists λj ys M2=>∃bs:List Bool,ys=bs.map D.bl/\bs.length=j/\(∀(t:Nat) (v:Wl),bs[t]?=KJ KN->c[t]?=KJ v->Lv w v)/\M2=au B z (.lst ys),#[[],rfl,rfl,λt v h=>by simp at h,rfl],?_,?_
 .rintro j ys M2 _ ⟨bs,_,_,_,rfl⟩;show(au B z _) l=_;rw[ak (nz F)];exact F
 .rintro j ys d M2 hj hd ⟨bs,rfl,p,hf,rfl⟩;have hd:(c.map (L9 6 24))[j]?=KJ d:=hd;rw[HF]at hd;cases ev:c[j]? with
  |none=>rw[ev]at hd;cases hd
  |some v=>
   rw[ev]at hd
   cases hd
   exists 7
   dsimp only[SD.cB]
   refine jL ?_
   refine #[7,7,6,24,w,v,rfl,rfl,#[⋯,⋯,⋯,⋯],hw,J v (HE ev),λb hb=>?_]
   refine #[_,.refl,ag,bs++[b],by simp,by simp[p],λt v' R S=>?_,by rw[bg]]
   rcases Nat.lt_trichotomy t bs.length with y|y|y
   .rw[IB y]at R;exact hf t v' R S
   .subst y;rw[Iz (HD _)]at R;have e0:b=KN:=‹R›
    rw[p,ev]at S;cases S;exact hb e0
   .rw[List.getElem?_eq_none (by simp;omega)]at R;cases R
 rintro ys M2 ⟨bs,rfl,p,hf,rfl⟩;have U:bs.length=c.length:=by rw[p];simp
 have c2:∀{a o},B a=KJ o->(au B z (.lst (bs.map D.bl))) a=KJ o:=λh=>by rw[ak (nz h)];exact h
 exists _,_,.bl KO,.inl (.lst ag (wK bs)),rfl,yx bs,7;rw[B5];have P2:Lq (au B z (.lst (bs.map D.bl))) r (n+i):=Y.new hz;have V:Kx [r,l] M (au B z (.lst (bs.map D.bl))):=kx.new hz;have N:=c2 F;have W:=c2 h2;generalize au B z (.lst (bs.map D.bl))=M3 at P2 V N W ⊢;refine bF (λI=>?_) (λ_=>#[c,_,_,7,V,W,N,J,L,(),P2.le ()]);exists 7,l,7,N;refine #[7,7,_,N,r,_,n+i,rfl,rfl,P2,(),(by rw[Hw];omega),bM (by rw[Hw];omega),λv o h0 h1 P3=>?_];rw[Hw]at h1;obtain⟨j,rfl⟩:∃j:Nat,v=(j:Int):=#[v.toNat,()];refine #[7,_,_,j,rfl,(by rw[ak Z.symm];exact N),(by rw[Hw];omega),(by rw[Hw];omega),?_];have b0:q2≠l:=λe=>by rw[e]at C;rw[hl]at C;cases C
 refine #[gi c j w,_,_,7,(V.upd (by simp)).upd (by simp),(by rw[ak b0,ak lq.symm];exact W),?_,λx hx=>?_,B3 L λt v hv=>hf t v ?_ hv,?_,P3.upd Z]
 .rw[ag];exact congrArg (λz=>KJ (MO.lst z)) (mn (L9 6 24) c j w)
 .have:=(gT c j w).mem_iff.mp hx;rcases II.mp this with z|z
  .rw[z];exact hw
  .exact J x z
 .have R:t<bs.length:=by rw[U];exact(HC.mp hv).1
  rw[Hy R];have I:bs.any (λb=>b==KO)=KO:=‹I›
  rw[List.any_eq_false]at I;have:=I _ (IU R);cases e:bs[t]with
  |true=>rfl
  |false=>rw[e]at this;simp at this
 .rw[(gT c j w).length_eq,Io];omega
theorem bj:L0 ["_law_pot_here","_law_most","_law_shuts","_law_wide","_law_k","_law_spots"] ["_law_pot_here","_law_most"] (ao de):=⋯
inductive MY:Prop
 |mk (r:pd) (n:Nat) (m:Int) (_:sx=.ref r) (_:sy=.int m) (_:(0<=m/\m<=12)) (_:Lq M r n) (_:n<100000) (_:∀(l:pd) (ws:r3) M',r≠l->M l=KL->Kx [r] M M'->M' l=KJ (.lst (ws.map (L9 6 24)))->(∀w∈ws,Le w)->PF ws->ws.length<=15->Lq M' r (n+400)->Q (.ref l) M')
theorem jM(T:Tx K mg):Cal P w K mg base 5 "_law_shuts_here" (ME MY):=by
 refine a9 (k:=4) T.bU bj λf _ _ _ s H _ L=>#[_,(aj (aB 2 bj.nd (bK af)) (aj (aB 3 bj.nd (ax (bK (ae ai (ae ai (ae ai (ae ai af))))) (ar (aG T).m L (ae (dv 0) (ae ai af))))) (aj (i9 HY rfl rfl T.nq (ae (ar (aG T).m L (ae (dv 0) (ae (aw aR (dv 1) ai) af))) af) (ay 4 bj.nd) (aj (dC 5 bj.nd (L4.of (xs:=["_law_j"]) (js:=[0,2,3]) rfl) rfl (gU rfl T.nq (ae (aw aR ai (ar (aG T).m L (ae (dv 0) (ae ai af)))) af)) (λ_ _ _ _=>bo) (λ_ _ _ _=>(ar (kn T).m L (ae (dv 1) (ae (dv 2) (ae (dv 3) af)))))) (aj (bw (aI (bX L.units) (ar (aG T).m L (ae (dv 0) (ae ai af))) ai) (aq (cu (bQ (dv 5) (ae (ax (dv 5) ai) af)))) aP) (aj (bw (aI (bX L.units) (ar (aG T).m L (ae (dv 0) (ae ai af))) ai) (aq (aB 5 bj.nd (ar (nQ T).m L (ae (dv 0) (ae (dv 3) af))))) aP) (aq (bw (aI (cU L.units) (aO cK rfl T.ma cG (ae (dv 2) af)) ai) (aq (cu (ar (rF T).m L (ae (dv 0) (ae (dv 2) (ae (dv 5) af)))))) aP)))))) (aq (az (dv 2)))))),λ_ _ M Q h=>?_];let[r,n,m,rfl,rfl,hm,P0,hn,k]:=h;refine #[L8 rfl,λl hl=>?_];have g:r≠l:=P0.ne hl;refine #[L8 rfl,λz hz=>?_];have w0:r≠z:=(P0.new hl).ne hz;have x0:l≠z:=av ag hz;refine #[7,r,4,n,rfl,rfl,(P0.new hl).new hz,(),⋯,bM ⋯,λv o h0 h1 P1=>?_]
 obtain⟨U,y0,o0⟩:∃U:Int,atI [D.int 3,D.int 4,D.int 6,D.int 10] v=KJ (.int U)/\(0<U/\U<=10):=by
  rcases(():v=0\/v=1\/v=2\/v=3)with rfl|rfl|rfl|rfl
  .exact #[3,rfl,⋯]
  .exact #[4,rfl,⋯]
  .exact #[6,rfl,⋯]
  .exact #[10,rfl,⋯]
 exists _,_,(by rw[ak w0.symm,ag]),y0;refine #[7,7,r,m+1,n+1,rfl,rfl,P1,(),(),bM (),λc o2 a0 a1 P2=>?_];have q0:(au (au (au (au M l (.lst [])) z (.lst [.int 3,.int 4,.int 6,.int 10])) r o) r o2) l=KJ (.lst (([]:r3).map (L9 6 24))):=by rw[ak g.symm,ak g.symm,ak x0,ag];rfl
 have s0:Kx [r,l] M (au (au (au (au M l (.lst [])) z (.lst [.int 3,.int 4,.int 6,.int 10])) r o) r o2):=(((Kx.refl.new hl).new hz).upd (by simp)).upd (by simp);generalize au (au (au (au M l (.lst [])) z (.lst [.int 3,.int 4,.int 6,.int 10])) r o) r o2=M2 at P2 q0 s0 ⊢;exists c.toNat,?_,(),λi δ t=>Q8 λ(ws:r3) (o4 o5:r_)=>Wn (δ=[KJ (.ref r),KJ (.int m),KJ (.ref l),KJ (.int U),o4,o5]) (Kx [r,l] M t) (t l=KJ (.lst (ws.map (L9 6 24)))) (∀w∈ws,Le w) (PF ws) (ws.length<=15) (Lq t r (n+2+28*i)),#[[],_,7,s0,q0,λw hw=>absurd hw (by simp),xu,⋯,P2],?_
 .rw[Int.toNat_of_nonneg a0]
 rotate_left
 .rintro δ t ⟨ws,o4,o5,rfl,kx,e0,hU,hF,N,P'⟩;refine #[7,Lf (k l ws t g hl (λa O R e=>?_) e0 hU hF N (P'.le ()))]
  exact kx a O (by
   intro hm
   rcases II.mp hm with rfl|hm
   .exact R (by simp)
   .have:a=l:=‹hm›
    subst this;rw[hl]at e;cases e) e
 rintro i δ t hi ⟨ws,o4,o5,rfl,kx,e0,hU,hF,N,P'⟩;have q1:i<=12:=()
 refine #[7,r,4,n+2+28*i,rfl,rfl,P',(),⋯,bM ⋯,λc2 o3 b0 b1 P3=>?_];have f0:(au t r o3) l=KJ (.lst (ws.map (L9 6 24))):=by rw[ak g.symm];exact e0
 have V:Kx [r,l] M (au t r o3):=kx.upd (by simp);generalize au t r o3=M3 at P3 f0 V ⊢;exists 2+c2.toNat,(by rw[show((2+c2.toNat:Nat):Int)=2+c2 by omega]),();refine #[by show 2+c2.toNat<=1000000;omega,λp hp=>?_];have I:r≠p:=P3.ne hp;have W:l≠p:=av f0 hp;exists λj ys M2=>∃us:List Vc,ys=us.map (gp 6 24)/\us.length=j/\(∀u∈us,MD u)/\Kx [r,l] M M2/\M2 l=KJ (.lst (ws.map (L9 6 24)))/\M2 p=KJ (.lst ys)/\Lq M2 r (n+3+28*i+3*j),#[[],rfl,rfl,λu hu=>absurd hu (by simp),V.new hp,by rw[ak W];exact f0,ag,(P3.new hp).le ()],λ_ _ _ _ _=>trivial,?_
 .rintro j ys d M2 hj hd ⟨us,rfl,z0,X,g0,Y,i0,P4⟩;have hj:j<2+c2.toNat:=hj;exists 7;dsimp only[SD.cB];refine jL ?_;refine #[7,7,7,r,l,n+3+28*i+3*j,U,ws,rfl,rfl,rfl,g,Y,hU,(),P4,(),o0,λu M5 bu y Z=>?_];have B:=y p _ ‹I.symm› i0;refine #[M5,.refl,B,us++[u],by simp,by simp[z0],λx hx=>?_,?_,?_,ag,(Z.upd I).le ()]
  .rcases HX.mp hx with z|z
   .exact X x z
   .have:x=u:=‹z›
    subst this;exact bu
  .intro a O R e;have a1:=g0 a O R e
   have k0:a≠p:=λz=>by
    subst z
    have:=V a O R e
    rw[hp]at this;cases this
   rw[ak k0];exact y a O (λz=>R (by simp at z;simp[z])) a1
  .rw[ak W];exact y l _ ‹g.symm› Y
 rintro ys M4 ⟨us,rfl,F,X,g0,Y,i0,P4⟩;have F:us.length=2+c2.toNat:=F;have P4:Lq M4 r (n+3+28*i+3*(2+c2.toNat)):=P4;have P4:=P4.le (():_<=n+18+28*i);(try dsimp only[SD.aW])
 refine dn (λδ t=>∃(us:List Vc),Wn (δ=[KJ (.ref r),KJ (.int m),KJ (.ref l),KJ (.int U),KJ (.int (i:Int)),KJ (.ref p)]) (Kx [r,l] M t) (t l=KJ (.lst (ws.map (L9 6 24)))) (t p=KJ (.lst (us.map (gp 6 24)))) (us.length<=6) (∀u∈us,MD u) (Lq t r (n+19+28*i))) ?_ (λhu=>?_);rotate_left
 .refine #[7,r,2,n+18+28*i,rfl,rfl,P4,(),⋯,bM ⋯,λv1 C d0 d1 Z=>#[7,?_]];have S:(au M4 r C) l=KJ (.lst (ws.map (L9 6 24))):=by rw[ak g.symm];exact Y
  have B:(au M4 r C) p=KJ (.lst (us.map (gp 6 24))):=by rw[ak I.symm];exact i0
  have y:Kx [r,l] M (au M4 r C):=g0.upd (by simp);generalize au M4 r C=M5 at Z S B y ⊢;have Z:=Z.le (():_<=n+19+28*i);refine bF (λ_=>?_) (λ_=>hu _ _ #[us,rfl,y,S,B,(),X,Z])
  obtain⟨u0,m0,rfl⟩:∃u0 m0,us=u0::m0:=by
   cases us with
   |nil=>rw[List.length_nil]at F;omega
   |cons a b=>exact #[a,b,rfl]
  refine #[7,p,7,B,7,_,_,B,(show atI _ ((0:Nat):Int)=_ from bz (by rfl)),_,7,B,(by rw[Hw];omega),?_];refine hu _ _ #[(u0::m0)++[u0],rfl,?_,(by rw[ak W];exact S),(by rw[ag,Iu];rfl),(by rw[IJ];simp at F ⊢;omega),λx hx=>?_,Z.upd I]
  .intro a O R e
   have k0:a≠p:=λz=>by
    subst z
    have:=V a O R e
    rw[hp]at this;cases this
   rw[ak k0];exact y a O R e
  .rcases HX.mp hx with z|z
   .exact X x z
   .have:x=u0:=‹z›
    subst this;exact X x (by simp)
 rintro δ M5 ⟨us,rfl,y,S,B,F,X,Z⟩;refine dn (λδ t=>Pu λ(q:pd) (us:List Vc)=>ZE (δ=[KJ (.ref r),KJ (.int m),KJ (.ref l),KJ (.int U),KJ (.int (i:Int)),KJ (.ref q)]) (r≠q) (l≠q) (Kx [r,l] M t) (t l=KJ (.lst (ws.map (L9 6 24)))) (t q=KJ (.lst (us.map (gp 6 24)))) (us.length<=6) (∀u∈us,MD u) (Lq t r (n+24+28*i))) ?_ (λhu=>?_);rotate_left
 .refine #[7,r,4,n+19+28*i,rfl,rfl,Z,(),⋯,bM ⋯,λv1 C d0 d1 P6=>#[7,?_]];have G:(au M5 r C) l=KJ (.lst (ws.map (L9 6 24))):=by rw[ak g.symm];exact S
  have t0:(au M5 r C) p=KJ (.lst (us.map (gp 6 24))):=by rw[ak I.symm];exact B
  have J:Kx [r,l] M (au M5 r C):=y.upd (by simp);generalize au M5 r C=M6 at P6 G t0 J ⊢;refine bF (λ_=>?_) (λ_=>hu _ _ #[p,us,rfl,I,W,J,G,t0,F,X,P6.le ()]);refine #[7,7,r,n+20+28*i,U,rfl,rfl,P6.le (),(),o0,λq c1 M7 c0 n0 e1 f1 l5 g1 P7=>?_];refine hu _ _ #[q,c1,rfl,n0,av G e1,λa O R e=>c0 a O (λz=>R (by simp at z;simp[z])) (J a O R e),c0 l _ ‹g.symm› G,f1,(),g1,P7.le ()]
 rintro δ M6 ⟨q,us,rfl,n0,i1,J,G,j1,F,X,P6⟩;exists 7,_,G,trivial,7;refine bF (λv0=>?_) (λ_=>#[ws,_,7,J,G,hU,hF,N,P6.le ()])
 have v0:ws.length<11:=by
  have:(((ws.map (L9 6 24)).length:Nat):Int)<11:=‹v0›
  rw[Hw]at this;omega
 refine #[7,7,7,r,l,q,n+24+28*i,ws,us,rfl,rfl,rfl,g,i1.symm,n0.symm,G,hU,hF,(),j1,X,F,P6,(),λk1 M7 c0 m1 n1 o1 p1 P7=>?_];exact #[k1,_,7,J.trans c0,m1,n1,o1,(),P7.le ()]
theorem bA:L0 ["_law_pot_here","_law_most","_law_many","_law_shuts","_law_k","_law_found","_law_shut"] ["_law_pot_here","_law_most"] (ao fg):=⋯
inductive NC:Prop
 |mk (r:pd) (n:Nat) (_:sx=.ref r) (_:sy=.int 13) (_:Lq M r n) (_:n<100000) (_:∀(l:pd) (ws:r3) M',r≠l->M l=KL->Kx [r] M M'->M' l=KJ (.lst (ws.map (L9 12 0)))->(∀w∈ws,Le w)->PF ws->ws.length<=40->Lq M' r (n+50)->Q (.ref l) M')
theorem mL(T:Tx K mg):Cal P w K mg base 2 "_law_squares" (ME NC):=by
 refine a9 (k:=1) T.b6 bA λf _ _ _ s H _ hr=>#[_,(aj (aB 2 bA.nd (aw aR ai (ar (aG T).m hr (ae (dv 0) (ae (aw bf (dv 1) ai) af))))) (aj (dC 3 bA.nd (L4.of (xs:=["_law_k"]) (js:=[]) rfl) rfl (gU rfl T.nq (ae (aw aR (dv 2) ai) af)) (λ_ _ _ _=>bo) (λ_ _ _ _=>(aE (ae (aE (ae (aw aH ai (dv 0)) (ae ai af))) (ae (aE (ae (aw aH ai (dv 0)) (ae ai af))) af))))) (aj (i9 HY rfl rfl T.nq (ae (dv 2) af) (ay 4 bA.nd) (aq (aB 3 bA.nd (aw aR (dv 3) (bN (L4.of (xs:=["_law_y"]) (js:=[4]) rfl) rfl (aN (aE (ae ai (ae ai af)))) (λ_ _ _ _=>bo) (λ_ _ _ _=>(aE (ae (aE (ae (aw aH ai (dv 1)) (ae (dv 0) af))) (ae (aE (ae (aw aR (aw aH ai (dv 1)) ai) (ae (dv 0) af))) af))))))))) (aj (bw (aI (bX hr.units) (ar (aG T).m hr (ae (dv 0) (ae ai af))) ai) (aq (az (dv 3))) aP) (aj (aB 5 bA.nd (bK af)) (aj (bD HY rfl (aN (dv 3)) (ay 6 bA.nd) (aq (cu (gu (dv 5) (ae (ar (aG T).m hr (ae (dv 0) (ae (aw aR (aO cK rfl T.ma cG (ae (dv 5) af)) ai) af))) (ae (dv 6) af)))))) (aq (az (dv 5))))))))),λ_ _ M Q h=>?_];let[r,n,rfl,rfl,P0,hn,k]:=h;refine #[7,7,trivial,r,8,n,rfl,rfl,P0,(),⋯,bM ⋯,λv o h0 h1 P1=>?_];obtain⟨m,rfl⟩:∃m:Nat,v=(m:Int):=#[v.toNat,()];have a0:Kx [r] M (au M r o):=Kx.refl.upd (by simp)
 have b0:∀a,(au M r o) a=KL->M a=KL:=λa e=>by
  cases h:M a with
  |none=>rfl
  |some V=>
   by_cases z:a=r
   .subst z;rw[ag]at e;cases e
   .rw[ak z]at e;rw[h]at e;cases e
 generalize au M r o=M1 at P1 a0 b0 ⊢;exists 7,6+m+1,(by simp),();refine #[by show 6+m+1<=1000000;omega,λp hp=>?_];have n0:r≠p:=P1.ne hp;exists λj y M2=>y=((Kg 0 j).map λk:Nat=>Lw (k:Int)).map (L9 12 0)/\M2=au M1 p (.lst y),#[rfl,rfl],λ_ _ _ _ _=>trivial,?_
 .rintro j y d M2 hj hd ⟨rfl,rfl⟩;have hd:KJ (D.int (j:Int))=KJ d:=hd;cases hd;exists 7;dsimp only[SD.cB];refine jL ?_;refine #[7,aL (bM ⋯),L8 rfl,7,aL (bM ⋯),L8 rfl,L8 rfl,_,.refl,ag,?_,by rw[bg]];rw[List.range'_concat,Iu,Iu];simp[GW]
 rintro y M2 ⟨rfl,rfl⟩;have c0:(au M1 p (.lst (((Kg 0 (6+m+1)).map λk:Nat=>Lw (k:Int)).map (L9 12 0)))) p=KJ (.lst ((Mr (6+m) 0).map (L9 12 0))):=ag;have e0:Kx [r] M (au M1 p (.lst (((Kg 0 (6+m+1)).map λk:Nat=>Lw (k:Int)).map (L9 12 0)))):=a0.new hp;have P2:Lq (au M1 p (.lst (((Kg 0 (6+m+1)).map λk:Nat=>Lw (k:Int)).map (L9 12 0)))) r (n+1):=P1.new hp;generalize au M1 p (.lst (((Kg 0 (6+m+1)).map λk:Nat=>Lw (k:Int)).map (L9 12 0)))=M2 at c0 e0 P2 ⊢;(try dsimp only[SD.aW])
 refine dn (λδ c=>Wa λ(l2:pd) (O W x:r_)=>Wb (δ=[KJ (.ref r),KJ (.int 13),KJ (.int ((6+m:Nat):Int)),KJ (.ref l2),O,W,x]) (Lq c r (n+1)) (Kx [r] M c) (c l2=KJ (.lst ((Mr (6+m) (6+m)).map (L9 12 0)))) (r≠l2) (M l2=KL)) ?_ (λhu=>?_);rotate_left
 .refine #[7,6+m,by simp,(),λi δ c=>Wa λ(l2:pd) (O W x:r_)=>Wb (δ=[KJ (.ref r),KJ (.int 13),KJ (.int ((6+m:Nat):Int)),KJ (.ref l2),O,W,x]) (Lq c r (n+1)) (Kx [r] M c) (c l2=KJ (.lst ((Mr (6+m) i).map (L9 12 0)))) (r≠l2) (M l2=KL),#[p,_,_,_,by simp;rfl,P2,e0,c0,n0,b0 p hp],?_,λδ c h=>hu _ _ h];rintro i δ J X ⟨l2,O,W,x,rfl,P3,B,C,F,f0⟩;exists 7,L8 rfl,[.int 0,.int 12],rfl;refine #[by show 2<=1000000;decide,λq hq=>?_];have o0:l2≠q:=av C hq;have v0:r≠q:=P3.ne hq;exists λj y M4=>y=(([Lp (i:Int) 0,Lp (i:Int) 1]).take j).map (L9 12 0)/\M4=au J q (.lst y),#[rfl,rfl],λ_ _ _ _ _=>rfl,?_
  .rintro j y d M4 hj hd ⟨rfl,rfl⟩;have hj:j<2:=hj;have hd:[D.int 0,D.int 12][j]?=KJ d:=hd;let[w1,w2]:=GN (i:Int);rcases(():j=0\/j=1)with rfl|rfl
   .cases hd;exists 7;dsimp only[SD.cB];refine jL ?_;refine #[7,aL (bM ⋯),7,L8 rfl,7,aL (bM ⋯),7,L8 rfl,L8 rfl,_,.refl,ag,?_,by rw[bg]];simp[w1]
   .cases hd;exists 7;dsimp only[SD.cB];refine jL ?_;refine #[7,aL (bM ⋯),7,L8 rfl,7,aL (bM ⋯),7,L8 rfl,L8 rfl,_,.refl,ag,?_,by rw[bg]];simp[w1,w2]
  rintro y M4 ⟨rfl,rfl⟩;have L:=oR (6+m) i;refine #[_,_,(by rw[ak o0];exact C),ag,(by rw[Hw,L];show 6+m+1+2*i+2<=HR;have sz:1000000<=HR:=L8 rfl;omega),λY b=>?_];have b:(au J q (.lst ((([Lp (i:Int) 0,Lp (i:Int) 1]).take 2).map (L9 12 0)))) Y=KL:=b;have Z:=(P3.new (o:=.lst ((([Lp (i:Int) 0,Lp (i:Int) 1]).take 2).map (L9 12 0))) hq);have t:=B.new (o:=.lst ((([Lp (i:Int) 0,Lp (i:Int) 1]).take 2).map (L9 12 0))) hq
  have G:M Y=KL:=by
   cases h:M Y with
   |none=>rfl
   |some V=>
    by_cases z:Y=r
    .subst z;let[_,_,_,e,_]:=Z;rw[b]at e;cases e
    .have:=t Y V ‹z› h;rw[b]at this;cases this
  exact #[Y,_,_,7,Z.new b,t.new b,by rw[ag,Mr,Iu];rfl,Z.ne b,G]
 rintro δ q0 ⟨l2,O,W,x,rfl,P3,B,C,F,f0⟩;have L:=oR (6+m) (6+m);refine dn (λδ c=>Wc (δ=[KJ (.ref r),KJ (.int 13),KJ (.int ((6+m:Nat):Int)),KJ (.ref l2),O,W,x]) (Lq c r (n+2)) (Kx [r] M c) (c l2=KJ (.lst ((Mr (6+m) (6+m)).map (L9 12 0))))) ?_ (λhu=>?_);rotate_left
 .refine #[7,r,2,n+1,rfl,rfl,P3,(),⋯,bM ⋯,λv1 s0 d0 d1 P5=>#[7,?_]];have g:(au q0 r s0) l2=KJ (.lst ((Mr (6+m) (6+m)).map (L9 12 0))):=by rw[ak F.symm];exact C
  refine bF (λ_=>?_) (λ_=>hu _ _ #[rfl,P5,B.upd (by simp),g]);let[q1,q2,q3]:=Ba (m:=6+m) () (ua (6+m));exact #[7,Lf (k l2 _ _ F f0 (B.upd (by simp)) g q2 q1 q3 (P5.le ()))]
 rintro δ J ⟨rfl,Z,t,b⟩;refine #[L8 rfl,λl g=>?_];have I:r≠l:=Z.ne g;have g0:l2≠l:=av b g
 have G:M l=KL:=by
  cases h:M l with
  |none=>rfl
  |some V=>
   have:=t l V ‹I.symm› h
   rw[g]at this;cases this
 have P5:Lq (au J l (.lst [])) r (n+2):=Z.new g;have R:(au J l (.lst [])) l2=KJ (.lst ((Mr (6+m) (6+m)).map (L9 12 0))):=by rw[ak g0];exact b
 have i0:(au J l (.lst [])) l=KJ (.lst (([]:r3).map (L9 12 0))):=ag;have k0:Kx [r] M (au J l (.lst [])):=t.new g;generalize au J l (.lst [])=M4 at P5 R i0 k0 ⊢;exists 7,_,R,λi δ c=>Pu λ(ws:r3) (x:r_)=>Wb (δ=[KJ (.ref r),KJ (.int 13),KJ (.int ((6+m:Nat):Int)),KJ (.ref l2),O,KJ (.ref l),x]) (Lq c r (n+2+i)) (Kx [r] M c) (c l2=KJ (.lst ((Mr (6+m) (6+m)).map (L9 12 0)))) (c l=KJ (.lst (ws.map (L9 12 0)))) (ws.Perm ((Mr (6+m) (6+m)).take i)),#[[],7,P5,k0,R,i0,by simp],λi δ c _ z=>by let[_,_,_,_,_,h2,_]:=z;exact h2,?_;rotate_left
 .rintro δ c ⟨ws,x,rfl,P',S,m0,u,N⟩;have N:ws.Perm ((Mr (6+m) (6+m)).take ((Mr (6+m) (6+m)).map (L9 12 0)).length):=N;have P':Lq c r (n+2+((Mr (6+m) (6+m)).map (L9 12 0)).length):=P';rw[Hw]at N P';rw[List.take_length]at N;let[q1,q2,q3]:=Ba (m:=6+m) () (N.trans (ua (6+m)));exact #[7,Lf (k l ws _ I G S u q2 q1 q3 (P'.le ()))]
 rintro i d δ M5 X hd ⟨ws,x,rfl,P',S,m0,u,N⟩;have X:i<((Mr (6+m) (6+m)).map (L9 12 0)).length:=X;rw[Hw]at X;have U:ws.length=i:=by rw[N.length_eq,JE];omega
 have hd:((Mr (6+m) (6+m)).map (L9 12 0))[i]?=KJ d:=hd;rw[HF,Hy X]at hd;cases hd;refine #[7,l,7,u,7,7,_,u,r,(i:Int)+1,n+2+i,rfl,by simp[U],P',(),(),bM (),λv2 o7 w0 x0 P7=>?_];obtain⟨j,rfl⟩:∃j:Nat,v2=(j:Int):=#[v2.toNat,()];have t0:(au M5 r o7) l=KJ (.lst (ws.map (L9 12 0))):=by rw[ak I.symm];exact u
 refine #[7,_,_,j,rfl,t0,by simp;omega,by simp;omega,?_];refine #[gi ws j (Mr (6+m) (6+m))[i],7,P7.upd I,?_,(by rw[ak g0,ak F.symm];exact m0),(by rw[ag,mn]),?_]
 .intro a V na e;have u0:a≠l:=λz=>by subst z;rw[G]at e;cases e
  rw[ak u0];exact(S.upd (by simp)) a V na e
 rw[List.take_succ,Hy X];exact(gT ws j _).trans ((List.Perm.cons _ N).trans (List.perm_append_comm (l₁:=[(Mr (6+m) (6+m))[i]]) (l₂:=(Mr (6+m) (6+m)).take i)))
theorem jo:L0 ["self"] ["self"] (ao dE):=⋯
def cw(K:Ht):Lz:=λe M Q=>match e with
 |[s]=>∃(a z:pd) (fs:List (Str×D)) (d:rq) (b:List (q_)),s=.ref a/\M a=KJ (dU (cl K "Layers") fs)/\fs.lookup ("layer_rows":Str)=KJ (.ref z)/\M z=KJ (.lst (d.map D.ref))/\NI M d b/\b.length<=40/\(∀r∈b,r.length<=40)/\
  ∀(c:MH) (p:pd) (bs:rq),SD.Sub M c->c p=KJ (.lst (bs.map D.ref))->NI c bs b->Q (.ref p) c
 |_=>False
theorem jH(K:Ht):∀a M Q,(cw K) a M Q->a.length=1:=λa M Q h=>by
 unfold cw at h;split at h
 .rfl
 .exact h.elim
theorem gb(T:Tx K mg):vC P w K mg base 1 (cl K "Layers") "layers" (cw K):=by
 refine GU (k:=0) (N:=["self"]) (ps:=["self"]) T.oD jo (λ_ _ _ _ _ _ us x=>by let[_,rfl]:=SD.xw x;rfl) (jH K) λf _ _ _ s H _ Y=>#[_,(aq (az (bN (L4.of (xs:=["row"]) (js:=[]) rfl) rfl (aN (dW (dv 0))) (λ_ _ _ _=>bo) (λ_ _ _ _=>(cQ (lj rfl) rfl T.mu kX (ae (dv 0) af)))))),λZ M Q h=>?r]
 case r=>
  unfold cw at h
  split at h
  case h_2=>exact h.elim
  let[a,z,fs,t,g,rfl,R,x,G,y,hn,S,k]:=h
  have U:(t.map D.ref).length=g.length:=by rw[Hw,y.1]
  refine #[7,a,_,fs,7,R,T.cl_Layers,T.na_layer_rows,x,t.map D.ref,G,by show(t.map D.ref).length<=1000000;omega,λp I=>?_]
  exists λi u b=>∃bs:rq,bs.length=i/\u=bs.map D.ref/\SD.Sub M b/\b p=KJ (.lst u)/\p∉bs/\NI b bs (g.take i),#[[],rfl,rfl,.new I .refl,ag,by simp,.nil],λi u b _ q=>?_,?_
  .obtain⟨bs,_,_,j,_⟩:=q;exact j _ _ G
  .rintro i u d b hi hd ⟨bs,J,rfl,j,e,B,n⟩;let[V,v,rfl]:=fo hd;have L:i<g.length:=by rw[<-y.1];exact(HC.mp v).1
   have O:=Hy L;have C:=j _ _ (y.2 i V _ v O);have rl:=S _ (HE O);exists 7;dsimp only[SD.cB];refine jL ?_;refine #[7,.inl #[g[i].map D.int,C,λq F=>?_]];have m:p≠q:=av e F;have W:∀c (l:r8) o,c≠p->b c=KJ (.lst l)->(au (au b q o) p (.lst (bs.map D.ref++[.ref q]))) c=KJ (.lst l):=λc l o h1 h=>by rw[ak h1,ak (av h F)];exact h
   exists _,.refl,by rw[ak m];exact e,bs++[q],by simp[J],by simp,λc o h=>?_,ag,?_
   .rw[ak (av h I),ak (av (j _ _ h) F)];exact j _ _ h
   .simp only[HX,J8,not_or];exact #[B,m]
   .rw[List.take_succ_eq_append_getElem L];exact(n.to λc l X h=>W c l _ (λz=>B (z▸X)) h).more (by rw[ak m.symm,ag])
  .rintro u b ⟨bs,J,rfl,j,e,B,n⟩;have:g.take (t.map D.ref).length=g:=by rw[U,List.take_length]
   have n:NI b bs (g.take (t.map D.ref).length):=n;rw[this]at n;exact Lf (k b p bs j e n)
theorem dP:L0 ["one","other"] ["one","other"] (ao cI):=⋯
inductive MM:Prop
 |mk (a b:Nat) (_:sx=.int (a:Int)) (_:sy=.int (b:Int)) (_:Q (.int ((Kl a b:Nat):Int)) M)
theorem eE(T:Tx K mg):Cal P w K mg base 1 "greatest_divisor" (ME MM):=by
 refine a9 (k:=0) T.b9 dP λf _ _ _ s H _ g=>#[_,(aj (d6 HY (aI (jd g.units) (dv 1) ai) (aq (ix 0 1 rfl dP.nd (ae (dv 1) (ae (aw fI (dv 0) (dv 1)) af))))) (aq (az (dv 0)))),λ_ _ M Q h=>?_];let[a,b,rfl,rfl,q]:=h;exists λm δ e=>e=M/\∃x y:Nat,δ=[KJ (.int x),KJ (.int y)]/\Kl x y=Kl a b/\m=y,#[7,_,7,rfl,rfl];rintro m δ e ⟨rfl,x,y,rfl,c,i⟩;exists 7,7;refine bF (λh=>?_) (λh=>?_)
 .have hy:(y:Int)≠0:=‹h›
  exists 7,7,7,hy,_,7;have d:0<y:=()
  refine #[x%y,by rw[i];exact Nat.mod_lt _ d,rfl,y,x%y,?_,?_,rfl]
  .rw[<-Ma.tY];rfl
  .rw[<-c,Nat.gcd_comm x y,Nat.gcd_rec y x,Nat.gcd_comm]
 .have hy:y=0:=‹h›
  subst hy;rw[Nat.gcd_zero_right]at c;subst c;exact #[7,Lf q]
theorem gJ:L0 ["top","bottom","divisor"] ["top","bottom"] (ao iC):=⋯
inductive Nz:Prop
 |mk (t:_) (b:_) (_:sx=.int t) (_:sy=.int b) (_:b≠0) (_:Bd 8000 t) (_:Bd 8000 b) (_:Q (LU (Rat.divInt t b)) M)
theorem mC(T:Tx K mg):Cal P w K mg base 2 "fraction" (ME Nz):=by
 refine a9 (k:=1) T.b_ gJ λf _ _ _ s H _ e=>#[_,(aj (bw (aI (bX e.units) (dv 1) ai) (aq wX) aP) (aj (aB 2 gJ.nd (ar (eE T).m e (ae (aO qL rfl T.lb sA (ae (dv 0) af)) (ae (aO qL rfl T.lb sA (ae (dv 1) af)) af)))) (aj (bw (aI (cU e.units) (dv 1) ai) (aq (aB 2 gJ.nd (pB jc (dv 2)))) aP) (aq (az (aE (ae (aw gh (dv 0) (dv 2)) (ae (aw gh (dv 1) (dv 2)) af)))))))),λ_ _ M Q h=>?_];let[t,b,rfl,rfl,i,j,g,q]:=h;have l:=Ma.fF (t:=t) i;have a:Bd 8000 ((Kl t.natAbs b.natAbs:Nat):Int):=g.of_le ‹Nat.gcd_le_right t.natAbs (():0<b.natAbs)›;refine #[7,7,lW (KR i) ?_];exists 7,7,t.natAbs,b.natAbs,rfl,rfl;exists 7,trivial,7;refine bF (λh=>?_) (λh=>?_)
 .have c:b<0:=‹h›
  let[e1,e2]:=Ma.zN (t:=t) c;exists 7,7,7,#[(),a.neg],7,7,#[(),a.neg],L8 rfl;dsimp only;rw[e1,e2];exact Lf q
 .have d:0<b:=by
   have:¬b<0:=‹h›
   omega
  let[e1,e2]:=Ma.tV (t:=t) d;exists 7,7,#[(),a],7,7,#[(),a],L8 rfl;dsimp only;rw[e1,e2];exact Lf q
theorem gn:L0 ["spot","x","y"] ["spot"] (ao iM):=⋯
inductive Nl:Prop
 |mk (a b:Rat) (_:sx=LS a b) (_:LL 8000 a) (_:LL 8000 b) (_:Q (LS a b) M)
theorem iD(T:Tx K mg):Cal P w K mg base 3 "own_spot" (OM Nl):=by refine fH (k:=2) T.cb gn λf _ _ _ s H _ c=>#[_,(aj (bO (dv 0) (br rfl (aA (ay 1 gn.nd) (aA (ay 2 gn.nd) aU)))) (aq (az (aE (ae (ar (mC T).m c (ae (ax (dv 1) ai) (ae (ax (dv 1) ai) af))) (ae (ar (mC T).m c (ae (ax (dv 2) ai) (ae (ax (dv 2) ai) af))) af)))))),λ_ M Q h=>?_];let[a,b,rfl,h1,d,k]:=h;exists 7,7,rfl,_,7,_,7,rfl;exists 7,7,7,7,a.num,(a.den:Int),rfl,rfl,LV a,h1.1,h1.2;exists 7,7,7,7,b.num,(b.den:Int),rfl,rfl,LV b,d.1,d.2,L8 rfl;rw[Rat.num_divInt_den,Rat.num_divInt_den];exact Lf k
theorem qD:L0 ["wall"] ["wall"] (ao iO):=⋯
inductive Nk:Prop
 |mk (a b c d:Rat) (_:sx=LJ a b c d) (_:LL 8000 a) (_:LL 8000 b) (_:LL 8000 c) (_:LL 8000 d) (_:Q (LJ a b c d) M)
theorem lC(T:Tx K mg):Cal P w K mg base 4 "own_wall" (OM Nk):=by refine fH (k:=3) T.cp qD λf _ _ _ s H _ e=>#[_,(aq (az (aE (ae (ar (iD T).m e (ae (ax (dv 0) ai) af)) (ae (ar (iD T).m e (ae (ax (dv 0) ai) af)) af))))),λ_ M Q h=>?_];let[a,b,c,d,rfl,h1,g,i,j,k]:=h;exact #[7,7,a,b,rfl,h1,g,7,7,c,d,rfl,i,j,L8 rfl,Lf k]
theorem qx:L0 ["walls"] ["walls"] (ao iz):=⋯
inductive Nn:Prop
 |mk (t b X Y:Int) (ws:r3) (_:sx=.tup (ws.map (L6 t b X Y))) (_:MK t b X Y) (_:ws.length<=40) (_:(∀w∈ws,Le w)) (_:∀M',SD.Sub M M'->Q sx M')
theorem rD(T:Tx K mg):Cal P w K mg base 5 "own_plot" (OM Nn):=by
 refine fH (k:=4) T.c5 qx λf _ _ _ s H _ l=>#[_,(aq (az (cQ lP rfl T.ox lJ (ae (bN (L4.of (xs:=["wall"]) (js:=[]) rfl) rfl (aN (dv 0)) (λ_ _ _ _=>bo) (λ_ _ _ _=>(ar (lC T).m l (ae (dv 0) af)))) af)))),λ_ M Q h=>?_];let[t,b,X,Y,ws,rfl,S,d,n,k]:=h;refine #[7,ws.map (L6 t b X Y),rfl,comp_map (λi=>((ws.map (L6 t b X Y))[i]?).getD .non) (by show(ws.map (L6 t b X Y)).length<=1000000;rw[Hw];omega) (λp B g=>rfl) ?_ (λp g=>#[_,ag,?_])]
 .intro i e o C q _;let[w,j,rfl]:=fo q;refine #[7,λK r=>?_];have a:=r o .refl;rw[getD_map j]at a;let[u,v,x,y,_]:=n w (HE j);have one:(0:Int)<1/\(1:Int)<=10^6:=⋯
  have c:∀{z:Int},(0<=z/\z<=20)->-(10^6)<=z/\z<=10^6:=λh=>()
  exact #[7,_,_,_,7,(S.bx one (c u)).mono ⋯,(S.by' one (c v)).mono ⋯,(S.bx one (c x)).mono ⋯,(S.by' one (c y)).mono ⋯,a]
 .dsimp only;have e:(HK (ws.map (L6 t b X Y)).length).map (λi=>((ws.map (L6 t b X Y))[i]?).getD .non)=ws.map (L6 t b X Y):=SD.range_getD (ws.map (L6 t b X Y));rw[e];exact Lf (k _ (.new g .refl))
theorem qZ:L0 ["one","other"] ["one","other"] (ao jP):=⋯
inductive OJ:Prop
 |mk (q r:Rat) (_:sx=LU q) (_:sy=LU r) (_:LL 100000 q) (_:LL 100000 r) (_:Q (.bl (decide (q<r))) M)
theorem nj(T:Tx K mg):Cal P w K mg base 1 "is_less" (ME OJ):=by refine a9 (k:=0) T.c6 qZ λf _ _ _ s H _ b=>#[_,(aq (az (bL (cU b.units) (aw aH (ax (dv 0) ai) (ax (dv 1) ai)) (aw aH (ax (dv 1) ai) (ax (dv 0) ai))))),λ_ _ M Q h=>?_];let[q,r,rfl,rfl,h1,a,k]:=h;exists 7,7,7,7,eK (h1.1.mono ⋯) (a.2.mono ⋯);exists 7,7,7,7,eK (a.1.mono ⋯) (h1.2.mono ⋯),trivial;dsimp only;rw[Ma.Fu];exact Lf k
theorem pT:L0 ["one","other"] ["one","other"] (ao iQ):=⋯
inductive Nx:Prop
 |mk (a b c d:Rat) (_:sx=LS a b) (_:sy=LS c d) (_:LL 100000 a) (_:LL 100000 b) (_:LL 100000 c) (_:LL 100000 d) (_:Q (.bl (decide (a<c\/a=c/\b<d))) M)
theorem c8(T:Tx K mg):Cal P w K mg base 2 "is_ahead" (ME Nx):=by
 refine a9 (k:=1) T.c_ pT λf _ _ _ s H _ g=>#[_,(aj (bw (aI (bX g.units) (ax (dv 0) ai) (ax (dv 1) ai)) (aq (az (ar (nj T).m g (ae (ax (dv 0) ai) (ae (ax (dv 1) ai) af))))) aP) (aq (az (ar (nj T).m g (ae (ax (dv 0) ai) (ae (ax (dv 1) ai) af)))))),λ_ _ M Q h=>?_];let[a,b,c,d,rfl,rfl,h1,i,j,l,k]:=h;exists 7,7,7,7,_,_,Pd.of rfl,Pd.of rfl,rfl,rfl;rw[Ma.sC];exists 7;refine bF (λh=>?_) (λh=>?_)
 .have e:a=c:=‹h›
  subst e;exists 7,7,7,7,b,d,rfl,rfl,i,l
  have z:(a<a\/a=a/\b<d)↔b<d:=by
   have:=Rat.lt_irrefl (a:=a)
   simp[this]
  rw[decide_eq_decide.mpr z]at k;exact Lf k
 .have e:¬a=c:=‹h›
  exists 7,7,7,7,a,c,rfl,rfl,h1,j;have z:(a<c\/a=c/\b<d)↔a<c:=by simp[e]
  rw[decide_eq_decide.mpr z]at k;exact Lf k
theorem cg:L0 ["row","spot","low","high","middle"] ["row","spot"] (ao fq):=⋯
inductive NB:Prop
 |mk (l:pd) (t b X Y:Int) (ps:List Vc) (u:Vc) (_:sx=.ref l) (_:sy=Lx t b X Y u) (_:M l=KJ (.lst (ps.map (Lx t b X Y)))) (_:MK t b X Y) (_:ps.length<=200) (_:(∀p∈ps,MD p)) (_:MD u) (_:ps.Pairwise MV) (_:∀j:Nat,j<=ps.length->(∀i,i<j->MV (p0 ps i) u)->(∀i,j<=i->i<ps.length->¬MV (p0 ps i) u)->Q (.int (j:Int)) M)
theorem mD(T:Tx K mg):Cal P w K mg base 3 "place_among" (ME NB):=by
 refine a9 (k:=2) T.dd cg λf _ _ _ s H _ v=>#[_,(aj (ix 2 3 rfl cg.nd (ae ai (ae (aO cK rfl T.ma cG (ae (dv 0) af)) af))) (aj (d6 HY (aI (cU v.units) (dv 2) (dv 3)) (aj (aB 4 cg.nd (aw gh (aw aR (dv 2) (dv 3)) ai)) (aq (bw (dH (ar (c8 T).m v (ae (ax (dv 0) (dv 4)) (ae (dv 1) af)))) (aq (aB 2 cg.nd (aw aR (dv 4) ai))) (aq (aB 3 cg.nd (dv 4))))))) (aq (az (dv 2))))),λ_ _ M Q h=>?_];let[l,t,b,X,Y,ps,u,rfl,rfl,x,S,L,C,o,up,k]:=h;have F:(ps.map (Lx t b X Y)).length=ps.length:=by simp
 exists 7,_,x,_,7;refine #[λm δ y=>y=M/\Q8 λ(g d:Nat) (B:r_)=>Wb (δ=[KJ (.ref l),KJ (Lx t b X Y u),KJ (.int (g:Int)),KJ (.int (d:Int)),B]) (g<=d) (d<=ps.length) (∀i,i<g->MV (p0 ps i) u) (∀i,d<=i->i<ps.length->¬MV (p0 ps i) u) (m=d-g),#[7,0,ps.length,_,by rw[F];rfl,J3 _,HD _,λi d=>(),λi h1 p=>(),rfl],?_];rintro m δ y ⟨rfl,g,d,B,rfl,h1,p,a,c,N⟩;exists 7,7,trivial,7;refine bF (λh=>?_) (λh=>?_)
 .have G:g<d:=by
   have:(g:Int)<(d:Int):=‹h›
   omega
  have n:Int.fdiv ((g:Int)+(d:Int)) 2=(((g+d)/2:Nat):Int):=by rw[IK _ ⋯];omega
  have j:(g+d)/2<ps.length:=()
  exists 7,7,#[⋯,bM ⋯];dsimp only;rw[n];generalize O:(g+d)/2=q at j ⊢;have I:ps[q]?=KJ (p0 ps q):=by unfold p0;simp[j]
  have r:=C _ (iE j);exists 7,7,_,_,x,bz (by rw[HF,I];rfl),7,_,_,_,7,rfl,(r.bx S).mono ⋯,(r.by' S).mono ⋯,(o.bx S).mono ⋯,(o.by' S).mono ⋯,7;have ah:=Ed (X:=X) (Y:=Y) S.t0 S.b0 r o;refine bF (λh=>?_) (λh=>?_)
  .have z:MV (p0 ps q) u:=ah.mp (by simpa[LM]using h);refine #[7,d-(q+1),(),rfl,q+1,d,7,(),p,λi J=>?_,c,rfl];by_cases e:i=q
   .subst e;exact z
   .have:=IQ.mp up i q () j ();have e1:p0 ps i=ps[i]:=by unfold p0;simp[show i<ps.length by omega]
    have e2:p0 ps q=ps[q]:=by unfold p0;simp[j]
    rw[e2]at z;rw[e1];unfold MV at z this ⊢;omega
  .have z:¬MV (p0 ps q) u:=λw=>by
    have:=ah.mpr w
    simp[LM]at h this
    exact absurd this ‹h›
   refine #[7,q-g,(),rfl,g,q,7,(),(),a,λi R U=>?_,rfl];by_cases e:i=q
   .subst e;exact z
   .have:=IQ.mp up q i j () ();have e1:p0 ps i=ps[i]:=by unfold p0;simp[show i<ps.length by omega]
    have e2:p0 ps q=ps[q]:=by unfold p0;simp[j]
    rw[e2]at z;rw[e1];unfold MV at z this ⊢;omega
 .have:g=d:=by
   have:¬(g:Int)<(d:Int):=‹h›
   omega
  subst this;(repeat (first|refine #[7,?_]|refine #[trivial,?_]|refine #[_,7,?_]|refine #[rfl,?_]|refine #[L8 rfl,?_]))
  exact Lf (k g p a c)
theorem eA:L0 ["spots","row","spot"] ["spots"] (ao fh):=⋯
inductive NF:Prop
 |mk (l:pd) (t b X Y:Int) (us:List Vc) (_:sx=.ref l) (_:M l=KJ (.lst (us.map (Lx t b X Y)))) (_:MK t b X Y) (_:us.length<=200) (_:(∀p∈us,MD p)) (_:us.Nodup) (_:∀(M':MH) (z:pd) (ps:List Vc),SD.Sub M M'->M z=KL->M' z=KJ (.lst (ps.map (Lx t b X Y)))->ps.Perm us->ps.Pairwise MV->Q (.ref z) M')
theorem hZ(T:Tx K mg):Cal P w K mg base 4 "ahead_first" (OM NF):=by
 refine fH (k:=3) T.dt eA λf _ _ _ s H _ Z=>#[_,(aj (aB 1 eA.nd (bK af)) (aj (bD HY rfl (aN (dv 0)) (ay 2 eA.nd) (aq (cu (gu (dv 1) (ae (ar (mD T).m Z (ae (dv 1) (ae (dv 2) af))) (ae (dv 2) af)))))) (aq (az (dv 1))))),λ_ M Q h=>?_];let[l,t,b,X,Y,us,rfl,G,S,hn,U,nd,k]:=h;refine #[L8 rfl,λz C=>?_];have I:l≠z:=av G C;refine #[7,us.map (Lx t b X Y),(by show(au M z _) l=_;rw[ak I];exact G),?_];exists λi δ n=>Pu λ(ps:List Vc) (J:r_)=>Yk (δ=[KJ (.ref l),KJ (.ref z),J]) (SD.Sub M n) (n z=KJ (.lst (ps.map (Lx t b X Y)))) (ps.Perm (us.take i)) (ps.Pairwise MV),#[[],7,.new C .refl,ag,by simp,List.Pairwise.nil],λi δ n _ q=>by let[_,_,_,x,_]:=q;exact x _ _ G,?_
 .rintro i d δ n hi hd ⟨ps,J,rfl,x,g,r,up⟩;have hd:(us.map (Lx t b X Y))[i]?=KJ d:=hd;rw[HF]at hd;cases v:us[i]? with
  |none=>rw[v]at hd;cases hd
  |some u=>
   rw[v]at hd
   cases hd
   have iu:i<us.length:=(HC.mp v).1
   have L:us[i]=u:=(HC.mp v).2
   have V:=U u (HE v)
   have N:∀p∈ps,p∈us:=λp y=>List.mem_of_mem_take (r.mem_iff.mp y)
   have B:∀p∈ps,MD p:=λp y=>U p (N p y)
   have a0:ps.length=i:=by rw[r.length_eq,JE];omega
   have nu:u∉ps:=λy=>by
    have:=r.mem_iff.mp y
    let[j,F,W]:=List.getElem_of_mem this
    have O:j<i:=by rw[JE]at F;omega
    rw[List.getElem_take]at W
    have:=IQ.mp nd j i () iu O
    exact this (W.trans L.symm)
   refine #[7,z,7,g,7,7,z,t,b,X,Y,ps,u,rfl,rfl,g,S,(),B,V,up,λj F a c=>?_]
   let[i1,i2]:=D1 up F a λi h1 R=>Al (B _ (iE R)) V (λe=>nu (e▸iE R)) (c i h1 R)
   refine #[7,_,_,j,rfl,g,by rw[Hw];exact F,by rw[Hw];omega,gi ps j u,7,λa o h=>?_,by rw[ag,mn],?_,i1]
   .rw[ak (av h C)];exact x _ _ h
   .rw[List.take_succ,v];exact i2.trans ((List.Perm.cons u r).trans (List.perm_append_singleton u (us.take i)).symm)
 .rintro δ n ⟨ps,J,rfl,x,g,r,up⟩;have e:us.take (us.map (Lx t b X Y)).length=us:=by rw[Hw,List.take_length]
  exact #[7,n,.refl,k n z ps x C g (by rw[<-e];exact r) up]
theorem dq:L0 ["plot","corners","wall","end"] ["plot"] (ao fO):=⋯
inductive NQ:Prop
 |mk (t b X Y:Int) (ws:r3) (_:sx=.tup (ws.map (L6 t b X Y))) (_:MK t b X Y) (_:ws.length<=40) (_:(∀w∈ws,Le w)) (_:∀(M':MH) (z:pd) (ps:List Vc),SD.Sub M M'->M z=KL->M' z=KJ (.lst (ps.map (Lx t b X Y)))->ps.Perm (Mp ws ws.length)->ps.Pairwise MV->Q (.ref z) M')
theorem nS(T:Tx K mg):Cal P w K mg base 5 "corners_of" (OM NQ):=by
 refine fH (k:=4) T.dy dq λf _ _ _ s H _ I=>#[_,(aj (aB 1 dq.nd qu) (aj (bD HY rfl (aN (dv 0)) (ay 2 dq.nd) (aq (bD HY rfl (aN (dv 2)) (ay 3 dq.nd) (aq (yh (iK I) (dv 1) (ar (iD T).m I (ae (dv 3) af)) je))))) (aq (az (ar (hZ T).m I (ae (cQ (lj rfl) rfl T.mu kX (ae (dv 1) af)) af)))))),λ_ M Q h=>?_];let[t,b,X,Y,ws,rfl,S,hn,N,k]:=h;intro c O;exists 7,ws.map (L6 t b X Y),rfl;exists λi δ r=>Pu λ(J v:r_)=>δ=[KJ (.tup (ws.map (L6 t b X Y))),KJ (.ref c),J,v]/\SD.Sub M r/\r c=KJ (MW (OW t b X Y (Mp ws i))),#[_,7,.new O .refl,ag],λi δ r _ q=>rfl,?_
 .rintro i d δ r hi hd ⟨J,v,rfl,B,g⟩;have hd:(ws.map (L6 t b X Y))[i]?=KJ d:=hd;rw[HF]at hd;cases C:ws[i]? with
  |none=>rw[C]at hd;cases hd
  |some w=>
   rw[C]at hd
   cases hd
   have iw:i<ws.length:=(HC.mp C).1
   have R:=N w (HE C)
   have lc:=k8 ws i
   exists 7,[Lx t b X Y (ea w),Lx t b X Y (eb w)],rfl
   exists λj δ n=>Pu λ(us:List Vc) (v:r_)=>Wn (δ=[KJ (.tup (ws.map (L6 t b X Y))),KJ (.ref c),KJ (L6 t b X Y w),v]) (SD.Sub M n) (n c=KJ (MW (OW t b X Y us))) (us.length<=2*i+j) (j=0->us=Mp ws i) (j=1->us=gL (Mp ws i) (ea w)) (j=2->us=gL (gL (Mp ws i) (ea w)) (eb w)),#[Mp ws i,7,B,g,(),λ_=>rfl,λh=>(),λh=>()],λi δ r _ q=>rfl,?_
   .rintro j d δ n U hd ⟨us,v,rfl,l,y,lu,V,W,Z⟩;have U:j<2:=U
    obtain⟨u,rfl,bu,hu⟩:∃u,d=Lx t b X Y u/\MD u/\(j=0->u=ea w)/\(j=1->u=eb w):=by
     have hd:([Lx t b X Y (ea w),Lx t b X Y (eb w)]:r8)[j]?=KJ d:=hd;rcases(():j=0\/j=1)with rfl|rfl
     .cases hd;exact #[7,R.ea,λ_=>rfl,λh=>()]
     .cases hd;exact #[7,R.eb,λh=>(),λ_=>rfl]
    refine #[7,7,_,7,(bu.bx S).mono ⋯,(bu.by' S).mono ⋯,c,_,gk t b X Y u,rfl,sJ t b X Y u,y,?_,gL us u,7,?_,by rw[ag,zZ S.t0 S.b0],by have:=lZ us u;omega,λh=>(),λh=>?_,λh=>?_]
    .show(OW t b X Y us).length<_;unfold OW;rw[Hw];omega
    .intro a o h;rw[ak (av h O)];exact l _ _ h
    .have:j=0:=()
     rw[V this,hu.1 this]
    .have:j=1:=()
     rw[W this,hu.2 this]
   .rintro δ n ⟨us,v,rfl,l,y,lu,V,W,Z⟩;exists _,7,l;rw[y,Z rfl]
    congr 3
    show _=(match ws[i]? with|some w=>gL (gL (Mp ws i) (ea w)) (eb w)|none=>Mp ws i);rw[C]
 .rintro δ r ⟨J,v,rfl,B,g⟩
  have g:r c=KJ (MW (OW t b X Y (Mp ws ws.length))):=by
   have e:(ws.map (L6 t b X Y)).length=ws.length:=by simp
   rw[<-e];exact g
  refine #[7,.inr #[c,7,g,λp hp=>?_]];have ek:(OW t b X Y (Mp ws ws.length)).map (λx=>OL x.1)=(Mp ws ws.length).map (Lx t b X Y):=by unfold OW;rw[Jb];rfl
  rw[ek];have lc:=k8 ws ws.length;refine #[p,t,b,X,Y,Mp ws ws.length,rfl,ag,S,(),E9 N,rM ws _,λM2 z ps l G L pm up=>?_];have zp:z≠p:=λe=>by subst e;rw[ag]at G;cases G
  have F:r z=KL:=by rw[ak zp]at G;exact G
  have zM:M z=KL:=by
   cases e:M z with
   |none=>rfl
   |some o=>rw[B _ _ e]at F;cases F
  exact #[M2,.refl,k M2 z ps (λa o h=>l _ _ (by rw[ak (av (B _ _ h) hp)];exact B _ _ h)) zM L pm up]
theorem kD:L0 ["self","plot"] ["self","plot"] (ao d9):=⋯
def cE(K:Ht):Lz:=λd M Q=>match d with
 |[s,u]=>∃(a:pd) (t b X Y:Int) (ws:r3),s=.ref a/\u=.tup (ws.map (L6 t b X Y))/\M a=KJ (dU (cl K "Layers") [])/\MK t b X Y/\ws.length<=40/\(∀w∈ws,Le w)/\
  ∀(c:MH) (ps:List Vc),dg a M c->c a=KJ (dU (cl K "Layers") (Yl (.tup (ws.map (L6 t b X Y))) (ps.map (Lx t b X Y)) .non .non))->ps.Perm (Mp ws ws.length)->ps.Pairwise MV->Q .non c
 |_=>False
theorem ki(K:Ht):∀a M Q,(cE K) a M Q->a.length=2:=λa M Q h=>by
 unfold cE at h;split at h
 .rfl
 .exact h.elim
theorem l0(T:Tx K mg):vb P w K mg base 6 "Way" "__init__" (cE K):=by
 refine Hb (k:=5) (N:=["self","plot"]) (ps:=["self","plot"]) T.o_ kD (λ_ _ _ _ _ _ us n=>by let[_,_,rfl]:=SD.rP n;rfl) (ki K) λf _ _ _ s H _ j=>#[_,(aj (eJ (ar (rD T).m j (ae (dv 1) af)) (dv 0)) (aj (eJ (cQ lP rfl T.ox lJ (ae (ar (nS T).m j (ae (dW (dv 0)) af)) af)) (dv 0)) (aj (eJ om (dv 0)) (aq (eJ om (dv 0)))))),λx M Q h=>?r]
 case r=>
  unfold cE at h
  split at h
  case h_2=>exact h.elim
  let[a,t,b,X,Y,ws,rfl,rfl,p,S,d,l,k]:=h
  refine #[7,t,b,X,Y,ws,rfl,S,d,l,λy e=>#[7,a,_,[],rfl,e _ _ p,T.cl_Layers,T.na_plot,⋯,?_]]
  refine #[7,a,_,_,7,ag,T.cl_Layers,T.na_plot,rfl,t,b,X,Y,ws,rfl,S,d,l,λB z ps g C q u v=>#[_,q,?_]]
  exists 7,a,_,7,g _ _ ag,T.cl_Layers,T.na_corners,(⋯:1<1000)
  have e1:QE "corners" (D.tup (ps.map (Lx t b X Y))) (QE "plot" (D.tup (ws.map (L6 t b X Y))) [])=([("plot",D.tup (ws.map (L6 t b X Y))),("corners",D.tup (ps.map (Lx t b X Y)))]:List (Str×D)):=rfl
  rw[e1]
  exists 7,a,_,7,ag,T.cl_Layers,T.na_guide,(⋯:2<1000)
  exists 7,a,_,7,ag,T.cl_Layers,T.na_most_looks,(⋯:3<1000)
  refine Lf (k _ ps (λc o i h=>?_) ag u v)
  rw[ak i,ak i,ak i]
  exact g _ _ (by rw[ak i];exact e _ _ h)
theorem eW:L0 ["plot","corners","numbers"] ["plot","corners"] (ao df):=⋯
inductive Mf:Prop
 |mk (t b X Y:Int) (ws:r3) (ps:List Vc) (_:sx=.tup (ws.map (L6 t b X Y))) (_:sy=.tup (ps.map (Lx t b X Y))) (_:MK t b X Y) (_:ws.length<=40) (_:(∀sx,sx∈ps↔sx∈Mp ws ws.length)) (_:ps.Nodup) (_:ps.length<=1000) (_:∀(M':MH) (z:pd),SD.Sub M M'->M z=KL->M' z=KJ (.lst (ws.map (ON ps)))->Q (.ref z) M')
theorem jI(T:Tx K mg):Cal P w K mg base 1 "ends_by_number" (ME Mf):=by
 refine a9 (k:=0) T.dV eW λf _ _ _ s H _ r=>#[_,(aj (aB 2 eW.nd (uS (iK r) (L4.of (xs:=["number","corner"]) (js:=[]) rfl) rfl (yt rfl T.l4 (ae (dv 1) af)) (λ_ _ _ _=>bo) (λ_ _ _ _=>(dv 1)) (λ_ _ _ _=>(dv 0)))) (aq (az (p6 (L4.of (xs:=["first","second"]) (js:=[2]) rfl) rfl (aN (dv 0)) (λ_ _ _ _=>bo) (λ_ _ _ _=>(aE (ae (ja (iK r) (dv 2) (dv 0) (by intro _ _;with_unfolding_all rfl)) (ae (ja (iK r) (dv 2) (dv 1) (by intro _ _;with_unfolding_all rfl)) af)))))))),λ_ _ M Q h=>?_];let[t,b,X,Y,ws,ps,rfl,rfl,S,F,G,nd,L,k]:=h;have cl:(ps.map (Lx t b X Y)).length=ps.length:=Hw ..;refine #[7,ps.map (Lx t b X Y),rfl,by show(ps.map (Lx t b X Y)).length<=_;omega,λp u=>?_];exists λi kvs g=>Qg t b X Y ps i kvs/\g=au M p (MW kvs),#[.nil t b X Y ps,rfl],λi kvs g _ q=>trivial,?_
 .rintro i kvs d g I hd ⟨c,rfl⟩;have hd:((ps.map (Lx t b X Y))[i]?).map (λd=>D.tup [.int (i:Int),d])=KJ d:=hd;rw[HF]at hd;cases n:ps[i]? with
  |none=>rw[n]at hd;cases hd
  |some v=>
   rw[n]at hd
   cases hd
   exists _,#[7,rfl,rfl]
   dsimp only[SD.cB]
   rw[KQ rfl]
   have I:i<ps.length:=(HC.mp n).1
   exists 7,7,gk t b X Y v,rfl,ag,by have:=c.len;omega,c.put S.t0 S.b0 nd n
   rw[bg]
 .rintro kvs g ⟨c,rfl⟩;have c:Qg t b X Y ps ps.length kvs:=by rw[<-cl];exact c
  have J:SD.Sub M (au M p (MW kvs)):=.new u .refl;refine #[7,ws.map (L6 t b X Y),rfl,comp_map (λi=>((ws.map (ON ps))[i]?).getD .non) (by show(ws.map (L6 t b X Y)).length<=1000000;rw[Hw];omega) (λp W L=>rfl) ?_ (λq x=>?_)]
  .intro i e g I N y;let[w,j,rfl]:=fo N;refine #[_,#[7,rfl,rfl],λK O=>?_];have l:=O _ .refl;rw[getD_map j]at l;have m:=y _ _ ag;have B:ea w∈ps:=(G _).mpr ((fM _).mpr #[i,w,(HC.mp j).1,j,.inl rfl]);have C:eb w∈ps:=(G _).mpr ((fM _).mpr #[i,w,(HC.mp j).1,j,.inr rfl]);let[R,U]:=oT B;let[b1,V]:=oT C;exact #[7,7,p,kvs,gk t b X Y (ea w),7,rfl,m,c.vs _ _ U R,7,7,p,kvs,gk t b X Y (eb w),7,rfl,m,c.vs _ _ V b1,L8 rfl,l]
  .dsimp only
   have e:(HK (ws.map (L6 t b X Y)).length).map (λi=>((ws.map (ON ps))[i]?).getD .non)=ws.map (ON ps):=by
    have:=SD.range_getD (ws.map (ON ps))
    rw[Hw]at this ⊢
    exact this
   rw[e];refine Lf (k _ q (λa o h=>?_) ?_ ag)
   .have:=J _ _ h;rw[ak (av this x)];exact this
   .cases z:M q with
    |none=>rfl
    |some o=>rw[J _ _ z]at x;cases x
theorem fN:L0 ["plot","face","first","second"] ["plot","face"] (ao gR):=⋯
inductive N0:Prop
 |mk (t b X Y:Int) (ws:r3) (f:Nat) (_:sx=.tup (ws.map (L6 t b X Y))) (_:sy=.int (f:Int)) (_:f<2*ws.length) (_:ws.length<=1000) (_:Q (L6 t b X Y (fw ws f)) M)
theorem cf(T:Tx K mg):Cal P w K mg base 1 "face_ends" (ME N0):=by
 refine a9 (k:=0) T.d_ fN λf _ _ _ s H _ e=>#[_,(aj (bO (ax (dv 0) (aw gh (dv 1) ai)) (br rfl (aA (ay 2 fN.nd) (aA (ay 3 fN.nd) aU)))) (aq (az (jT (aI (bX e.units) (aw fI (dv 1) ai) ai) (aE (ae (dv 2) (ae (dv 3) af))) (aE (ae (dv 3) (ae (dv 2) af))))))),λ_ _ M Q h=>?_];let[t,b,X,Y,ws,f,rfl,rfl,j,c,k]:=h;let[d,l,m]:=aQ (ws:=ws) (k:=((f/2:Nat):Int)) () ();have g:(f:Int).fdiv 2=((f/2:Nat):Int):=by rw[IK _ ⋯];omega
 have i:(f:Int).fmod 2=((f%2:Nat):Int):=by rw[Int.fmod_eq_emod_of_nonneg _ ⋯];omega
 have a:atI (ws.map (L6 t b X Y)) ((f:Int).fdiv 2)=KJ (L6 t b X Y (L7 ws ((f/2:Nat):Int))):=by rw[g];refine bz ?_;rw[Ju]at d;rw[HF,d];rfl
 exists 7,7,#[⋯,bM ⋯],_,a;exists 7,rfl,_,7,_,7,rfl;exists 7,(show(2:Int)≠0 by decide),7;dsimp only;rw[i];refine bF (λh=>?_) (λh=>?_)
 .have h:f%2=0:=by have:((f%2:Nat):Int)=0:=‹h›
                   omega
  refine #[7,7,L8 rfl,Lf ?_];unfold fw at k;rw[KQ h]at k;exact k
 .have h:¬f%2=0:=λz=>by rw[z]at h;simp at h
  refine #[7,7,L8 rfl,Lf ?_];unfold fw at k;rw[KP h]at k;exact k
theorem cW:L0 ["plot","leaving","face"] ["plot"] (ao dk):=⋯
def Py(t b X Y:Int)(p:Vc):Lu:=((LK t b X 1 p.1).num,((LK t b X 1 p.1).den:Int),(LK t b Y 1 p.2).num,((LK t b Y 1 p.2).den:Int))
theorem ub{t b X Y:Int}(a:0<t)(c:0<b){p q:Vc}(h:Py t b X Y p=Py t b X Y q):p=q:=by unfold Py at h;injection h with h1 h;injection h with d h;injection h with e f;have e1:LK t b X 1 p.1=LK t b X 1 q.1:=Rat.ext h1 (by exact_mod_cast d);have e2:LK t b Y 1 p.2=LK t b Y 1 q.2:=Rat.ext e (by exact_mod_cast f);have g:=(LQ a c ⋯ ⋯).mp e1;have i:=(LQ a c ⋯ ⋯).mp e2;exact Prod.ext () ()
def Mu(ws:r3)(i:Nat)(p:Vc):q_:=((HK i).filter λg=>decide (fa ws g=p)).map λg:Nat=>(g:Int)
theorem pS(ws:r3)(i:Nat)(p:Vc):Mu ws (i+1) p=Mu ws i p++(if fa ws i=p then[(i:Int)]else[]):=by
 unfold Mu;rw[Ka,List.filter_append,Iu];by_cases h:fa ws i=p
 .simp[h]
 .simp[h]
theorem As(ws:r3)(i:Nat)(p:Vc):(Mu ws i p).length<=i:=by unfold Mu;rw[Hw];have:=List.length_filter_le (λg=>decide (fa ws g=p)) (HK i);simpa using this
theorem xo{kvs:MP}{k:Lu}(d:D)(h:dz kvs k=KL)(j:Lu):dz (putD kvs k d) j=if j=k then KJ d else dz kvs j:=by
 have a:(kvs.any λx=>decide (x.1=k))=KO:=by unfold dz at h;rw[Option.map_eq_none_iff,List.find?_eq_none]at h;rw[List.any_eq_false];exact h
 unfold putD;rw[KP (by rw[a];decide)];unfold dz at *;rw[List.find?_append];by_cases e:j=k
 .subst e;rw[KQ rfl];rw[Option.map_eq_none_iff]at h;rw[h];simp
 .rw[KP e];have:¬k=j:=λz=>e z.symm;cases kvs.find? λx=>decide (x.1=j)<;>simp[this]
structure Q7(t b X Y:Int)(ws:r3)(i:Nat)(M M':MH)(ld:pd)(kvs:MP)(L:Vc->pd):Prop where
 d:M' ld=KJ (MW kvs)
 some:∀p,Mu ws i p≠[]->dz kvs (Py t b X Y p)=.some (.ref (L p))/\M' (L p)=.some (.lst ((Mu ws i p).map D.int))/\L p≠ld/\M (L p)=KL
 none:∀p,Mu ws i p=[]->dz kvs (Py t b X Y p)=.none
 inj:∀p q,Mu ws i p≠[]->Mu ws i q≠[]->L p=L q->p=q
inductive Me:Prop
 |mk (t b X Y:Int) (ws:r3) (_:sx=.tup (ws.map (L6 t b X Y))) (_:MK t b X Y) (_:ws.length<=40) (_:∀(M':MH) (ld:pd) (kvs:MP) (L:Vc->pd),SD.Sub M M'->Q7 t b X Y ws (2*ws.length) M M' ld kvs L->Q (.ref ld) M')
theorem jC(T:Tx K mg):Cal P w K mg base 2 "faces_by_start" (OM Me):=by
 refine fH (k:=1) T.ec cW λf _ _ _ s H _ hr=>#[_,(aj (aB 1 cW.nd qu) (aj (i9 HY rfl rfl T.nq (ae (aw aH ai (aO cK rfl T.ma cG (ae (dv 0) af))) af) (ay 2 cW.nd) (aq (cu (bQ (AK (iK hr) (dv 1) (ae (ax (ar (cf T).m hr (ae (dv 0) (ae (dv 2) af))) ai) (ae (bK af) af))) (ae (dv 2) af))))) (aq (az (dv 1))))),λ_ M Q h=>?_];let[t,b,X,Y,ws,rfl,S,a0,k]:=h;have R:(ws.map (L6 t b X Y)).length=ws.length:=by simp
 refine λld J=>?_;exists 7,aL (bM ⋯),2*ws.length,(by rw[R];simp),();exists λi δ l=>Q8 λ(kvs:MP) (L:Vc->pd) (U:r_)=>Wc (δ=[KJ (.tup (ws.map (L6 t b X Y))),KJ (.ref ld),U]) (SD.Sub M l) (kvs.length<=i) (Q7 t b X Y ws i M l ld kvs L),?_,?_
 .exact #[[],λ_=>0,7,.new J .refl,HD _,ag,λp h=>absurd rfl h,λp _=>rfl,λp q h=>absurd rfl h]
 .rintro i δ l hi ⟨kvs,L,U,rfl,N,hk,V⟩;have W:∀{q:pd} {o},l q=KL->(au l q o) ld=KJ (MW kvs):=λu=>by rw[ak (av V.d u)];exact V.d
  have c:∀p,fa ws i≠p->Mu ws (i+1) p=Mu ws i p:=λp h=>by rw[pS,KP h,K7]
  have r:Mu ws (i+1) (fa ws i)=Mu ws i (fa ws i)++[(i:Int)]:=by rw[pS,KQ rfl]
  have ll:=As ws i (fa ws i);refine #[7,ld,kvs,rfl,V.d,7,7,t,b,X,Y,ws,i,rfl,rfl,hi,(),7,L8 rfl,λq u=>?_];refine #[kvs,Py t b X Y (fa ws i),.ref q,rfl,W u,(),λd' hd=>?_,λhn=>?_]
  .have ne:Mu ws i (fa ws i)≠[]:=λz=>by rw[V.none _ z]at hd;cases hd
   let[v1,v2,v3,v4]:=V.some _ ne;rw[v1]at hd;cases hd;have Z:∀{a o},l a=KJ o->(au l q (.lst [])) a=KJ o:=λh=>by rw[ak (av h u)];exact h
   refine #[L (fa ws i),7,Z v2,7,_,7,Z v2,(by rw[Hw];omega),?_];have C:∀{a o G},l a=KJ o->a≠L (fa ws i)->(au (au l q (.lst [])) (L (fa ws i)) G) a=KJ o:=λh n=>by rw[ak n];exact Z h
   refine #[kvs,L,7,λa o h=>C (N _ _ h) (λz=>by subst z;rw[v4]at h;cases h),(),C V.d v3.symm,λp h=>?_,λp h=>?_,λp v h F e=>?_]
   .by_cases z:fa ws i=p
    .subst z;refine #[v1,?_,v3,v4];rw[ag,r,Iu];rfl
    .rw[c p z]at h ⊢;let[u1,u2,O,u4]:=V.some p h;exact #[u1,C u2 (λy=>z (V.inj _ _ ne h y.symm)),O,u4]
   .by_cases z:fa ws i=p
    .subst z;rw[r]at h;simp at h
    .rw[c p z]at h;exact V.none p h
   .have g:∀p,Mu ws (i+1) p≠[]->Mu ws i p≠[]:=λp h=>by
     by_cases z:fa ws i=p
     .subst z;exact ne
     .rw[c p z]at h;exact h
    exact V.inj p v (g p h) (g v F) e
  .have em:Mu ws i (fa ws i)=[]:=by
    cases z:Mu ws i (fa ws i)with
    |nil=>rfl
    |cons x xs=>
     have:=(V.some _ (by rw[z];simp)).1
     rw[hn]at this;cases this
   have B:q≠ld:=(av V.d u).symm;have cq:(au (au l q (.lst [])) ld (MW (putD kvs (Py t b X Y (fa ws i)) (.ref q)))) q=KJ (.lst []):=by rw[ak B,ag]
   exists q,[],rfl,cq,7,_,7,cq,⋯;have C:∀{a o D' G},l a=KJ o->a≠ld->(au (au (au l q (.lst [])) ld D') q G) a=KJ o:=λh n=>by rw[ak (av h u),ak n,ak (av h u)];exact h
   have mq:M q=KL:=by
    cases z:M q with
    |none=>rfl
    |some o=>rw[N _ _ z]at u;cases u
   have vn:=λj=>xo (.ref q) hn j;refine #[putD kvs (Py t b X Y (fa ws i)) (.ref q),λp=>if fa ws i=p then q else L p,7,λa o h=>C (N _ _ h) (λz=>by subst z;rw[J]at h;cases h),?_,(by rw[ak B.symm,ag]),λp h=>?_,λp h=>?_,λp v h F e=>?_]
   .have:(putD kvs (Py t b X Y (fa ws i)) (.ref q)).length<=kvs.length+1:=by
     unfold putD;split
     .rw[Hw];omega
     .simp
    omega
   .by_cases z:fa ws i=p
    .subst z;refine #[by rw[vn,KQ rfl,KQ rfl],?_,by rw[KQ rfl];exact B,by rw[KQ rfl];exact mq];rw[KQ rfl,ag,r,em];rfl
    .rw[c p z]at h ⊢;let[u1,u2,O,u4]:=V.some p h;rw[KP z];exact #[by rw[vn,KP (λy=>z (ub S.t0 S.b0 y).symm)];exact u1,C u2 O,O,u4]
   .by_cases z:fa ws i=p
    .subst z;rw[r]at h;simp at h
    .rw[c p z]at h;rw[vn,KP (λy=>z (ub S.t0 S.b0 y).symm)];exact V.none p h
   .by_cases z:fa ws i=p<;>by_cases I:fa ws i=v
    .rw[<-z,<-I]
    .rw[c v I]at F;rw[KQ z,KP I]at e;have:=(V.some v F).2.1;rw[<-e,u]at this;cases this
    .rw[c p z]at h;rw[KP z,KQ I]at e;have:=(V.some p h).2.1;rw[e,u]at this;cases this
    .rw[c p z]at h;rw[c v I]at F;rw[KP z,KP I]at e;exact V.inj p v h F e
 .rintro δ l ⟨kvs,L,U,rfl,N,hk,V⟩;exact #[7,#[l,.refl,k l ld kvs L N V]]
theorem Ef:L0 ["one","other"] ["one","other"] (ao xi):=⋯
inductive Qi:Prop
 |mk (t1 b1 t2 b2:Int) (_:sx=.tup [.int t1,.int b1]) (_:sy=.tup [.int t2,.int b2]) (_:Bd 1000000 t1) (_:Bd 1000000 b1) (_:Bd 1000000 t2) (_:Bd 1000000 b2) (_:Q (.tup [.int (t1*b2-t2*b1),.int (b1*b2)]) M)
theorem qz(T:Tx K mg):Cal P w K mg base 1 "gap" (ME Qi):=by refine a9 (k:=0) T.eh Ef λf _ _ _ s H _ d=>#[_,(aq (az (aE (ae (aw bf (aw aH (ax (dv 0) ai) (ax (dv 1) ai)) (aw aH (ax (dv 1) ai) (ax (dv 0) ai))) (ae (aw aH (ax (dv 0) ai) (ax (dv 1) ai)) af))))),λ_ _ M Q h=>?_];let[t1,b1,e,g,rfl,rfl,h1,a,c,b,k]:=h;exists 7,7,7,7,eK h1 b,7,7,7,7,eK c a,trivial;exact #[7,7,7,7,eK a b,L8 rfl,Lf k]
theorem dX:L0 ["wall","spot","a","b","c","d","x","y","across","up","along","high"] ["wall","spot"] (ao sS):=⋯
inductive QK:Prop
 |mk (n:Nat) (a b c d x y:Rat) (_:sx=LJ a b c d) (_:sy=LS x y) (_:LL n a) (_:LL n b) (_:LL n c) (_:LL n d) (_:LL n x) (_:LL n y) (_:n<=20000) (_:∀t e:Int,0<e->Rat.divInt t e=LO a b c d x y->Bd (8*n+3) t->Bd (8*n+3) e->Q (.tup [.int t,.int e]) M)
theorem Cp(T:Tx K mg):Cal P w K mg base 2 "lean" (ME QK):=by
 refine a9 (k:=1) T.el dX λf _ _ _ s H _ o=>#[_,(aj (bO (dv 0) (br rfl (aA (br rfl (aA (ay 2 dX.nd) (aA (ay 3 dX.nd) aU))) (aA (br rfl (aA (ay 4 dX.nd) (aA (ay 5 dX.nd) aU))) aU)))) (aj (bO (dv 1) (br rfl (aA (ay 6 dX.nd) (aA (ay 7 dX.nd) aU)))) (aj (ix 8 9 rfl dX.nd (ae (ar (qz T).m o (ae (dv 4) (ae (dv 2) af))) (ae (ar (qz T).m o (ae (dv 5) (ae (dv 3) af))) af))) (aj (ix 10 11 rfl dX.nd (ae (ar (qz T).m o (ae (dv 6) (ae (dv 2) af))) (ae (ar (qz T).m o (ae (dv 7) (ae (dv 3) af))) af))) (aq (az (ar (qz T).m o (ae (aE (ae (aw aH (ax (dv 8) ai) (ax (dv 11) ai)) (ae (aw aH (ax (dv 8) ai) (ax (dv 11) ai)) af))) (ae (aE (ae (aw aH (ax (dv 9) ai) (ax (dv 10) ai)) (ae (aw aH (ax (dv 9) ai) (ax (dv 10) ai)) af))) af))))))))),λ_ _ M Q h=>?_];let[n,a,b,c,d,x,y,rfl,rfl,g,j,p,hd,hx,hy,D,k]:=h;have e:∀{m:Nat} {i:Int},Bd m i->m<=1000000->Bd 1000000 i:=λz l=>z.mono l;have u:=p.sZ g;have v:=hd.sZ j;have B:=hx.sZ g;have C:=hy.sZ j;have e1:=p.2.mul g.2;have e2:=hd.2.mul j.2;have e3:=hx.2.mul g.2;have e4:=hy.2.mul j.2;refine #[7,7,rfl,_,7,#[7,rfl,_,7,_,7,rfl,?_]];refine #[_,7,#[7,rfl,_,7,_,7,rfl,?_]];exists rfl,7,7,rfl,_,7,_,7,rfl;exists 7,7,_,_,_,7,rfl,e p.1 (),e p.2 (),e g.1 (),e g.2 ();exists 7,7,_,_,_,7,rfl,e hd.1 (),e hd.2 (),e j.1 (),e j.2 ();exists _,7;exists 7,7,_,_,_,7,rfl,e hx.1 (),e hx.2 (),e g.1 (),e g.2 ();exists 7,7,_,_,_,7,rfl,e hy.1 (),e hy.2 (),e j.1 (),e j.2 ();exists _,7;exists 7,7,7,7,eK (e u ()) (e C ());exists 7,7,7,7,eK (e e1 ()) (e e4 ()),L8 rfl;exists 7,7,7,7,eK (e v ()) (e B ());exists 7,7,7,7,eK (e e2 ()) (e e3 ()),L8 rfl;exists _,_,_,7,rfl,e (u.mul C) (),e (e1.mul e4) (),e (v.mul B) (),e (e2.mul e3) ();have t:∀q r:Rat,0<(q.den:Int)*(r.den:Int):=λq r=>Ij (LW q) (LW r);refine Lf (k _ _ (Ij (Ij (t c a) (t y b)) (Ij (t d b) (t x a))) (Ma.AJ a b c d x y) ?_ ?_)
 .exact((((u.mul C).mul (e2.mul e3)).mono (():_<=8*n+2)).sub (((v.mul B).mul (e1.mul e4)).mono (():_<=8*n+2)))
 .exact((e1.mul e4).mul (e2.mul e3)).mono ()
theorem mz:L0 ["wall","spot","top"] ["wall","spot"] (ao j0):=⋯
inductive OH:Prop
 |mk (n:Nat) (a b c d x y:Rat) (_:sx=LJ a b c d) (_:sy=LS x y) (_:LL n a) (_:LL n b) (_:LL n c) (_:LL n d) (_:LL n x) (_:LL n y) (_:n<=1900) (_:Q (.int (LP (LO a b c d x y))) M)
theorem d3(T:Tx K mg):Cal P w K mg base 3 "side_of" (ME OH):=by
 refine a9 (k:=2) T.en mz λf _ _ _ s H _ g=>#[_,(aj (aB 2 mz.nd (ax (ar (Cp T).m g (ae (dv 0) (ae (dv 1) af))) ai)) (aj (bw (aI (gB g.units) (dv 2) ai) (aq (az ai)) aP) (aj (bw (aI (cU g.units) (dv 2) ai) (aq (az (pB jc ai))) aP) (aq (az ai))))),λ_ _ M Q h=>?_];let[n,a,b,c,d,x,y,rfl,rfl,j,l,o,hd,hx,hy,q,k]:=h;refine #[7,7,n,a,b,c,d,x,y,rfl,rfl,j,l,o,hd,hx,hy,(),λt e p i _ _=>#[7,?_]];rw[<-i,Ma.zA p]at k;exists 7,trivial,7;refine bF (λh=>?_) (λh=>?_)
 .rw[KQ ‹h›]at k;exact Lf k
 rw[KP ‹h›]at k;exists 7,trivial,7;refine bF (λh=>?_) (λh=>?_)
 .rw[KQ ‹h›]at k;exact Lf k
 .rw[KP ‹h›]at k;exact Lf k
theorem dj:L0 ["corner","came_from","one","other","turn","other_turn"] ["corner","came_from","one","other"] (ao dG):=⋯
inductive Mm:Prop
 |mk (t b X Y:Int) (c p q r:Vc) (_:sx=LS (LK t b X 1 c.1) (LK t b Y 1 c.2)) (_:sy=LS (LK t b X 1 p.1) (LK t b Y 1 p.2)) (_:s_=LS (LK t b X 1 q.1) (LK t b Y 1 q.2)) (_:ti=LS (LK t b X 1 r.1) (LK t b Y 1 r.2)) (_:MK t b X Y) (_:(0<=c.1/\c.1<=20)) (_:(0<=c.2/\c.2<=20)) (_:(0<=p.1/\p.1<=20)) (_:(0<=p.2/\p.2<=20)) (_:(0<=q.1/\q.1<=20)) (_:(0<=q.2/\q.2<=20)) (_:(0<=r.1/\r.1<=20)) (_:(0<=r.2/\r.2<=20)) (_:Q (.bl (OQ (p.1-c.1,p.2-c.2) (q.1-c.1,q.2-c.2) (r.1-c.1,r.2-c.2))) M)
theorem kq(T:Tx K mg):Cal P w K mg base 4 "is_met_sooner" (We Mm):=by
 refine xJ (k:=3) T.eu dj λf _ _ _ s H _ a=>#[_,(aj (aB 4 dj.nd (ar (d3 T).m a (ae (aE (ae (dv 0) (ae (dv 1) af))) (ae (dv 2) af)))) (aj (aB 5 dj.nd (ar (d3 T).m a (ae (aE (ae (dv 0) (ae (dv 1) af))) (ae (dv 3) af)))) (aj (bw (aI (jd a.units) (dv 4) (dv 5)) (aq (az (bL (cU a.units) (dv 4) (dv 5)))) aP) (aq (az (bL (bX a.units) (ar (d3 T).m a (ae (aE (ae (dv 0) (ae (dv 2) af))) (ae (dv 3) af))) (pB jc ai))))))),λ_ _ _ _ M Q h=>?_];let[t,b,X,Y,c,p,q,r,rfl,rfl,rfl,rfl,S,d,g,i,j,l,n,o,u,k]:=h;have one:(0:Int)<1/\(1:Int)<=10^6:=⋯
 have v:∀{z:Int},(0<=z/\z<=20)->(-(10^6)<=z/\z<=10^6):=λ{z} h=>()
 have bx:∀{z:Int},(0<=z/\z<=20)->LL 200 (LK t b X 1 z):=λ{z} h=>S.bx one (v h);have by':∀{z:Int},(0<=z/\z<=20)->LL 200 (LK t b Y 1 z):=λ{z} h=>S.by' one (v h)
 have e1:=lQ (X:=X) (Y:=Y) S.t0 S.b0 (c.1,c.2,p.1,p.2) q.1 q.2;have e2:=lQ (X:=X) (Y:=Y) S.t0 S.b0 (c.1,c.2,p.1,p.2) r.1 r.2;have e3:=lQ (X:=X) (Y:=Y) S.t0 S.b0 (c.1,c.2,q.1,q.2) r.1 r.2;have x:sd (c.1,c.2,p.1,p.2) q.1 q.2=vc (p.1-c.1,p.2-c.2) (q.1-c.1,q.2-c.2):=rfl;have y:sd (c.1,c.2,p.1,p.2) r.1 r.2=vc (p.1-c.1,p.2-c.2) (r.1-c.1,r.2-c.2):=rfl;have B:sd (c.1,c.2,q.1,q.2) r.1 r.2=vc (q.1-c.1,q.2-c.2) (r.1-c.1,r.2-c.2):=rfl;rw[x]at e1;rw[y]at e2;rw[B]at e3;dsimp only at e1 e2 e3;exists 7,7,L8 rfl,7,200,_,_,_,_,_,7,rfl,bx d,by' g,bx i,by' j,bx l,by' n,⋯;rw[e1];exists 7,7,L8 rfl,7,200,_,_,_,_,_,7,rfl,bx d,by' g,bx i,by' j,bx o,by' u,⋯;rw[e2];exists 7,7,7;unfold OQ at k;refine bF (λh=>?_) (λh=>?_)
 .have ne:¬Ie (vc (p.1-c.1,p.2-c.2) (q.1-c.1,q.2-c.2))=Ie (vc (p.1-c.1,p.2-c.2) (r.1-c.1,r.2-c.2)):=λz=>by rw[z]at h;simp at h
  rw[KP ne]at k;exact #[7,7,trivial,Lf k]
 .have eq:Ie (vc (p.1-c.1,p.2-c.2) (q.1-c.1,q.2-c.2))=Ie (vc (p.1-c.1,p.2-c.2) (r.1-c.1,r.2-c.2)):=‹h›
  rw[KQ eq]at k;exists 7,7,L8 rfl,7,200,_,_,_,_,_,7,rfl,bx d,by' g,bx l,by' n,bx o,by' u,⋯;rw[e3];have e:decide (vc (q.1-c.1,q.2-c.2) (r.1-c.1,r.2-c.2)<0)=decide (Ie (vc (q.1-c.1,q.2-c.2) (r.1-c.1,r.2-c.2))=-1):=by rw[KU];rcases iT (vc (q.1-c.1,q.2-c.2) (r.1-c.1,r.2-c.2))with z|z|z<;>omega
  rw[e]at k;exact Lf k
theorem bC:L0 ["plot","leaving","face","came_from","corner","back","best","rival"] ["plot","leaving","face"] (ao eZ):=⋯
def d8(ws:r3)(f j:Nat):Option Nat:=((((HK (2*ws.length)).filter λg=>decide (fa ws g=fb ws f)).take j).filter λg=>decide (g≠fx f)).foldl (dQ (OC ws f)) KL
theorem mV(R:Nat->Nat->Bool):∀(l:q7) (o:Option Nat) {h:Nat},l.foldl (dQ R) o=KJ h->h∈l\/o=KJ h
 |[],o,h,e=>.inr e
 |g::l,o,h,e=>by
  rw[List.foldl_cons]at e
  rcases mV R l _ e with z|z
  .exact .inl (by simp[z])
  .cases o with
   |none=>cases z;exact .inl (by simp)
   |some k=>
    unfold dQ at z
    dsimp only at z
    by_cases r:R g k=KN
    .rw[KQ r]at z;cases z;exact .inl (by simp)
    .rw[KP r]at z;exact .inr z
theorem rz(ws:r3)(f j:Nat)(h:((HK (2*ws.length)).filter λg=>decide (fa ws g=fb ws f)).length<=j):d8 ws f j=(jK ws f).foldl (dQ (OC ws f)) KL:=by
 unfold d8 jK yu;rw[JN h,List.filter_filter]
 congr 1
 apply List.filter_congr;intro x _;rw[Bool.and_comm]
theorem qR{ws:r3}{f j h:Nat}(e:d8 ws f j=KJ h):h∈jK ws f:=by
 unfold d8 at e;rcases mV _ _ _ e with z|z
 .have a:=Iw.mp z;have b:=Iw.mp (List.mem_of_mem_take a.1);exact cX.mpr #[‹b.1›,‹b.2›,‹a.2›]
 .cases z
inductive ND:Prop
 |mk (t b X Y:Int) (ws:r3) (M0:MH) (ld:pd) (kvs:MP) (L:Vc->pd) (f:Nat) (_:sx=.tup (ws.map (L6 t b X Y))) (_:sy=.ref ld) (_:s_=.int (f:Int)) (_:MK t b X Y) (_:ws.length<=40) (_:(∀s_∈ws,Le s_)) (_:f<2*ws.length) (_:Q7 t b X Y ws (2*ws.length) M0 M ld kvs L) (_:Q (.int (bh ws f:Int)) M)
theorem ib(T:Tx K mg):Cal P w K mg base 5 "face_behind" (QP ND):=by
 refine lY (k:=4) T.ew bC λf _ _ _ s H _ r=>#[_,(aj (bO (ar (cf T).m r (ae (dv 0) (ae (dv 2) af))) (br rfl (aA (ay 3 bC.nd) (aA (ay 4 bC.nd) aU)))) (aj (aB 5 bC.nd (aw Dk (dv 2) ai)) (aj (aB 6 bC.nd (dv 5)) (aj (bD HY rfl (aN (ja (iK r) (dv 1) (dv 4) (by intro _ _;with_unfolding_all rfl))) (ay 7 bC.nd) (aq (bw (pO (jR (aI (jd r.units) (dv 7) (dv 5)) (gS (pO (BD (aI (bX r.units) (dv 6) (dv 5)) (xD (dH (ar (kq T).m r (ae (dv 4) (ae (dv 3) (ae (ax (ar (cf T).m r (ae (dv 0) (ae (dv 7) af))) ai) (ae (ax (ar (cf T).m r (ae (dv 0) (ae (dv 6) af))) ai) af)))))))))))) (aq (aB 6 bC.nd (dv 7))) aP))) (aq (az (dv 6))))))),λ_ _ _ M Q h=>?_];let[t,b,X,Y,ws,M0,ld,kvs,L,f,rfl,rfl,rfl,S,J,Z,u,V,k]:=h;have exf:Builtin.bitXor (f:Int) 1=((fx f:Nat):Int):=Ds f ()
 have n:∀g:Nat,g<2*ws.length->((0<=(fa ws g).1/\(fa ws g).1<=20)/\(0<=(fa ws g).2/\(fa ws g).2<=20))/\((0<=(fb ws g).1/\(fb ws g).1<=20)/\(0<=(fb ws g).2/\(fb ws g).2<=20)):=λg y=>by
  let[_,_,w3]:=aQ (ws:=ws) (k:=((g/2:Nat):Int)) () ()
  have W:=Z _ w3
  unfold fa fb fw
  by_cases h:g%2=0
  .rw[KQ h];exact #[#[W.a,W.b],W.c,W.d]
  .rw[KP h];exact #[#[W.c,W.d],W.a,W.b]
 have ne:Mu ws (2*ws.length) (fb ws f)≠[]:=by
  unfold Mu
  have:fx f∈(HK (2*ws.length)).filter λg=>decide (fa ws g=fb ws f):=Iw.mpr #[List.mem_range.mpr (me u),‹lT ws f›]
  intro z
  rw[List.map_eq_nil_iff]at z
  rw[z]at this
  cases this
 let[v1,N,v3,v4]:=V.some _ ne;exists 7,7,t,b,X,Y,ws,f,rfl,rfl,u,();exists 7,rfl,_,7,_,7,rfl;exists 7,trivial;dsimp only;rw[exf];exists 7;exists 7,7,ld,kvs,Py t b X Y (fb ws f),7,rfl,V.d,v1,(Mu ws (2*ws.length) (fb ws f)).map D.int,N;exists λj δ B=>B=M/\∃F,δ=[KJ (.tup (ws.map (L6 t b X Y))),KJ (.ref ld),KJ (.int (f:Int)),KJ (LS (LK t b X 1 (fw ws f).1) (LK t b Y 1 (fw ws f).2.1)),KJ (LS (LK t b X 1 (fw ws f).2.2.1) (LK t b Y 1 (fw ws f).2.2.2)),KJ (.int ((fx f:Nat):Int)),KJ (.int (((d8 ws f j).getD (fx f):Nat):Int)),F],#[rfl,7],λj δ B _ z=>by let[rfl,_]:=z;exact N,?_
 .rintro j d δ B hj hd ⟨rfl,F,rfl⟩;have hd:((((HK (2*ws.length)).filter λg=>decide (fa ws g=fb ws f)).map λg:Nat=>(g:Int)).map D.int)[j]?=KJ d:=hd;rw[HF,HF]at hd;cases C:((HK (2*ws.length)).filter λg=>decide (fa ws g=fb ws f))[j]? with
  |none=>rw[C]at hd;cases hd
  |some g=>
   rw[C]at hd
   cases hd
   have v:=Iw.mp (HE C)
   have y:g<2*ws.length:=‹v.1›
   have G:fa ws g=fb ws f:=‹v.2›
   have nx:d8 ws f (j+1)=if g=fx f then d8 ws f j else dQ (OC ws f) (d8 ws f j) g:=by
    unfold d8;rw[List.take_succ,C,Option.toList_some,List.filter_append,List.foldl_append];by_cases z:g=fx f
    .simp[z]
    .simp[z]
   have p:∀h,d8 ws f j=KJ h->h∈jK ws f:=λh e=>qR e
   generalize d8 ws f j=o at nx p ⊢
   by_cases z:g=fx f
   ·(try dsimp only[SD.fB,SD.dw,SD.aW,SD.f9,SD.fD,SD.c7,SD.dO,SD.tBD,SD.f7,SD.EndsD.nxt,SD.EndsD.lp])
    refine xM KO KO (λK l=>#[7,7,7,?_]) (λq=>absurd q ⋯) (lW rfl #[rfl,KJ (.int (g:Int)),?_])
    .rw[show(!decide ((g:Int)=((fx f:Nat):Int)))=KO by rw[z];simp];exact l
    .rw[nx,KQ z];rfl
   .rw[KP z]at nx
    have O:(!decide ((g:Int)=((fx f:Nat):Int)))=KN:=by
     have:¬((g:Int)=((fx f:Nat):Int)):=λq=>z ()
     rw[KR this];rfl
    cases o with
    |none=>
     (try dsimp only[SD.fB,SD.dw,SD.aW,SD.f9,SD.fD,SD.c7,SD.dO,SD.tBD,SD.f7,SD.EndsD.nxt,SD.EndsD.lp])
     refine xM KN KN (λK l=>#[7,7,7,by rw[O];exact l]) (λ_ K l=>Yq KN KN (λR i=>#[7,7,7,?_]) (λq=>absurd q ⋯) l) (rj rfl #[7,rfl,KJ (.int (g:Int)),?_])
     .rw[show decide ((((KL:Option Nat).getD (fx f):Nat):Int)=((fx f:Nat):Int))=KN by simp];exact i
     .rw[nx];rfl
    |some h=>
     have x:=cX.mp (p h rfl)
     have d1:fd ws (fx f)=((fa ws f).1-(fb ws f).1,(fa ws f).2-(fb ws f).2):=by unfold fd fa fb;rw[Bz];rfl
     have U:∀g,fa ws g=fb ws f->fd ws g=((fb ws g).1-(fb ws f).1,(fb ws g).2-(fb ws f).2):=λg e=>by rw[<-e];rfl
     have es:OC ws f g h=OQ ((fa ws f).1-(fb ws f).1,(fa ws f).2-(fb ws f).2) ((fb ws g).1-(fb ws f).1,(fb ws g).2-(fb ws f).2) ((fb ws h).1-(fb ws f).1,(fb ws h).2-(fb ws f).2):=by unfold OC;rw[d1,U g G,U h x.2.1]
     have I:decide ((((KJ h).getD (fx f):Nat):Int)=((fx f:Nat):Int))=KO:=KR (λq=>x.2.2 (by have q':((h:Nat):Int)=((fx f:Nat):Int):=q;omega))
     (try dsimp only[SD.fB,SD.dw,SD.aW,SD.f9,SD.fD,SD.c7,SD.dO,SD.tBD,SD.f7,SD.EndsD.nxt,SD.EndsD.lp])
     refine xM KN (KO||OC ws f g h) (λK l=>#[7,7,7,by rw[O];exact l]) (λ_ K l=>Yq KO (OC ws f g h) (λR i=>#[7,7,7,by rw[I];exact i]) (λ_ R i=>?_) l) ?_
     .exists 7,7,7,7,t,b,X,Y,ws,g,rfl,rfl,y,(),7,7,7,t,b,X,Y,ws,h,rfl,rfl,x.1,(),7,t,b,X,Y,fb ws f,fa ws f,fb ws g,fb ws h,rfl,rfl,rfl,rfl,S,(n f u).2.1,(n f u).2.2,(n f u).1.1,(n f u).1.2,(n g y).2.1,(n g y).2.2,(n h x.1).2.1,(n h x.1).2.2,7;rw[<-es];exact i
     .refine bF (λq=>?_) (λq=>?_)
      .exists 7,rfl,KJ (.int (g:Int));have q:OC ws f g h=KN:=‹q›
       have e:dQ (OC ws f) (KJ h) g=KJ g:=by unfold dQ;simp[q]
       rw[nx,e];rfl
      .exists rfl,KJ (.int (g:Int));have q:¬OC ws f g h=KN:=‹q›
       have e:dQ (OC ws f) (KJ h) g=KJ h:=by unfold dQ;simp[q]
       rw[nx,e];rfl
 .rintro δ B ⟨rfl,F,rfl⟩;have e:=rz ws f ((Mu ws (2*ws.length) (fb ws f)).map D.int).length (by simp[Mu]);dsimp only;rw[e];exact #[7,Lf k]
theorem dZ:L0 ["plot","leaving","face","ring","at"] ["plot","leaving","face"] (ao gN):=⋯
theorem tG{t b X Y:Int}{ws:r3}{i:Nat}{f M:MH}{ld:pd}{kvs:MP}{L:Vc->pd}{p:pd}{o:MO}(V:Q7 t b X Y ws i f M ld kvs L)(j:M p=KL):Q7 t b X Y ws i f (au M p o) ld kvs L:=#[by rw[ak (av V.d j)];exact V.d,λq h=>let⟨a,c,e,g⟩:=V.some q h;#[a,by rw[ak (av c j)];exact c,e,g],V.none,V.inj]
inductive NV:Prop
 |mk (t b X Y:Int) (ws:r3) (M0:MH) (ld:pd) (kvs:MP) (L:Vc->pd) (f:Nat) (_:sx=.tup (ws.map (L6 t b X Y))) (_:sy=.ref ld) (_:s_=.int (f:Int)) (_:MK t b X Y) (_:ws.length<=40) (_:(∀s_∈ws,Le s_)) (_:PF ws) (_:f<2*ws.length) (_:Q7 t b X Y ws (2*ws.length) M0 M ld kvs L) (_:∀(p:pd) (kk:Nat),M p=KL->NR ws f kk->bh ws (NT ws f kk)=f->Q (.ref p) (au M p (.lst ((rn ws f kk).map sg))))
theorem p9(T:Tx K mg):Cal P w K mg base 6 "ring_from" (QP NV):=by
 refine lY (k:=5) T.eH dZ λf _ _ _ s H _ n=>#[_,(aj (aB 3 dZ.nd (bK (ae (dv 2) af))) (aj (aB 4 dZ.nd (ar (ib T).m n (ae (dv 0) (ae (dv 1) (ae (dv 2) af))))) (aj (d6 HY (aI (jd n.units) (dv 4) (dv 2)) (aj (cu (bQ (dv 3) (ae (dv 4) af))) (aq (aB 4 dZ.nd (ar (ib T).m n (ae (dv 0) (ae (dv 1) (ae (dv 4) af)))))))) (aq (az (dv 3)))))),λ_ _ _ M Q h=>?_];let[t,b,X,Y,ws,r,ld,kvs,L,f,rfl,rfl,rfl,S,c,d,hF,i,V,k]:=h;refine #[7,L8 rfl,λp o=>?_];exists 7,7,7,t,b,X,Y,ws,r,ld,kvs,L,f,rfl,rfl,rfl,S,c,d,i,tG V o;exists λm δ j=>∃a,Wc (δ=[KJ (.tup (ws.map (L6 t b X Y))),KJ (.ref ld),KJ (.int (f:Int)),KJ (.ref p),KJ (.int ((NT ws f (a+1):Nat):Int))]) (j=au M p (.lst ((rn ws f a).map sg))) (NR ws f a) (m=2*ws.length-a),#[_,0,rfl,rfl,zk ws f,rfl];rintro m δ j ⟨a,rfl,rfl,q,rfl⟩;have v:=sX d hF i q;exists 7,7,7;refine bF (λh=>?_) (λh=>?_)
 .have ne:bh ws (NT ws f a)≠f:=λz=>by
   have:NT ws f (a+1)=f:=z
   rw[this]at h;simp at h
  have l:=Aa d hF i q ne;have u:=sX d hF i l;refine #[7,p,7,ag,7,_,7,ag,(by rw[Hw,jN];omega),?_];have e:au (au M p (.lst ((rn ws f a).map sg))) p (.lst (((rn ws f a).map sg)++[.int ((NT ws f (a+1):Nat):Int)]))=au M p (.lst ((rn ws f (a+1)).map sg)):=by rw[bg,zP,Iu];rfl
  rw[e];exists 7,7,7,t,b,X,Y,ws,r,ld,kvs,L,NT ws f (a+1),rfl,rfl,rfl,S,c,d,jy d hF i (a+1),tG V o;exact #[2*ws.length-(a+1),(),a+1,rfl,rfl,l,rfl]
 .have eq:bh ws (NT ws f a)=f:=by
   have:((NT ws f (a+1):Nat):Int)=(f:Int):=‹h›
   have e:NT ws f (a+1)=bh ws (NT ws f a):=rfl
   omega
  exact #[7,#[_,.refl,k p a o q eq]]
theorem b7:L0 ["plot","leaving","rings","gone_along","face","ring","part"] ["plot"] (ao ig):=⋯
theorem AR{t b X Y:Int}{ws:r3}{i:Nat}{f M j:MH}{ld:pd}{kvs:MP}{L:Vc->pd}(V:Q7 t b X Y ws i f M ld kvs L)(s:SD.Sub M j):Q7 t b X Y ws i f j ld kvs L:=#[s _ _ V.d,λq h=>let⟨a,c,e,g⟩:=V.some q h;#[a,s _ _ c,e,g],V.none,V.inj]
theorem gQ{M a:MH}(s:SD.Sub M a){p:pd}(h:a p=KL):M p=KL:=by
 cases z:M p with
 |none=>rfl
 |some o=>rw[s _ _ z]at h;cases h
inductive Nj:Prop
 |mk (t b X Y:Int) (ws:r3) (_:sx=.tup (ws.map (L6 t b X Y))) (_:MK t b X Y) (_:ws.length<=40) (_:(∀w∈ws,Le w)) (_:PF ws) (_:∀(M':MH) (lr:pd) (ps:rq) (rs:p_),SD.Sub M M'->M lr=KL->M' lr=KJ (.lst (ps.map D.ref))->WY ws (2*ws.length) rs->RL M' ps rs->(∀p∈ps,p≠lr/\M p=KL)->Q (.ref lr) M')
theorem r0(T:Tx K mg):Cal P w K mg base 7 "rings_of" (OM Nj):=by
 refine fH (k:=6) T.eL b7 λf _ _ _ s H _ C=>#[_,(aj (aB 1 b7.nd (ar (jC T).m C (ae (dv 0) af))) (aj (aB 2 b7.nd (bK af)) (aj (aB 3 b7.nd yM) (aj (i9 HY rfl rfl T.nq (ae (aw aH ai (aO cK rfl T.ma cG (ae (dv 0) af))) af) (ay 4 b7.nd) (aq (bw (sE (iK C) (dv 4) (dv 3)) (aj (aB 5 b7.nd (ar (p9 T).m C (ae (dv 0) (ae (dv 1) (ae (dv 4) af))))) (aj (cu (bQ (dv 2) (ae (dv 5) af))) (aq (bD HY rfl (aN (dv 5)) (ay 6 b7.nd) (aq (wZ (iK C) (dv 3) (dv 6) je)))))) aP))) (aq (az (dv 2))))))),λ_ M Q h=>?_];let[t,b,X,Y,ws,rfl,S,W,hU,hF,k]:=h;have g0:(ws.map (L6 t b X Y)).length=ws.length:=by simp
 refine #[7,t,b,X,Y,ws,rfl,S,W,λM1 ld kvs L Z V=>?_];refine #[L8 rfl,λl a0=>λy I=>?_];have J:y≠l:=λz=>by subst z;rw[ag]at I;cases I
 have c0:M1 y=KL:=by have h:=I;rw[ak J]at h;exact h
 exists 7,aL (bM ⋯),2*ws.length,(by rw[g0];simp),();exists λi δ r=>Yg λ(ps:rq) (x:p_) (n:Nat) (Sg:Int->Bool) (o4 o5 o6:r_)=>QM (δ=[KJ (.tup (ws.map (L6 t b X Y))),KJ (.ref ld),KJ (.ref l),KJ (.ref y),o4,o5,o6]) (SD.Sub M1 r) (r l=KJ (.lst (ps.map D.ref))) (r y=KJ (Pz n Sg)) (ps.length<=i) (n<=i*80) (∀g:Nat,Sg (g:Int)=decide (g∈x.flatten)) (WY ws i x) (RL r ps x) (∀p∈ps,p≠l/\p≠y/\M1 p=KL),?_,?_
 .exact #[[],[],0,λ_=>KO,_,_,7,.new I (.new a0 .refl),(by rw[ak J.symm,ag];rfl),ag,HD _,J3 _,λg=>by simp,rfl,.nil,λp N=>by cases N]
 .rintro i δ r hi ⟨ps,x,n,Sg,o4,o5,o6,rfl,sb,C,hg,h0,i0,hS,R,O,u⟩;(try dsimp only[SD.aW])
  refine RH λB hB=>?_;exists 7,7,(i:Int),y,n,Sg,rfl,rfl,hg,7;rw[hS];refine bF (λh=>?_) (λh=>hB _ _ #[ps,x,n,Sg,_,_,7,sb,C,hg,(),(),hS,#[x,R,.inl #[‹h›,rfl]],O,u]);have k0:i∉x.flatten:=‹h›
  refine #[7,7,7,t,b,X,Y,ws,M,ld,kvs,L,i,rfl,rfl,rfl,S,W,hU,hF,hi,AR V sb,λp j N nr eq=>?_];have kb:=sX hU hF hi nr;have c1:∀{a o G},r a=KJ o->(au r p G) a=KJ o:=λh=>by rw[ak (av h N)];exact h
  have d0:p≠l:=(av C N).symm;have b0:p≠y:=(av hg N).symm;refine #[7,l,7,c1 C,7,_,7,c1 C,(by simp;omega),?_];have c2:∀{a o G D'},r a=KJ o->a≠l->(au (au r p G) l D') a=KJ o:=λh n=>by rw[ak n];exact c1 h
  have e0:=c2 (G:=.lst ((rn ws i j).map sg)) (D':=.lst (ps.map D.ref++[.ref p])) hg J;have U:(au (au r p (.lst ((rn ws i j).map sg))) l (.lst (ps.map D.ref++[.ref p]))) p=KJ (.lst ((rn ws i j).map sg)):=by rw[ak d0,ag]
  have f0:(au (au r p (.lst ((rn ws i j).map sg))) l (.lst (ps.map D.ref++[.ref p]))) l=KJ (.lst (ps.map D.ref++[.ref p])):=ag;have c3:∀{a o},r a=KJ o->a≠l->(au (au r p (.lst ((rn ws i j).map sg))) l (.lst (ps.map D.ref++[.ref p]))) a=KJ o:=λh n=>c2 h n;clear c2;generalize au (au r p (.lst ((rn ws i j).map sg))) l (.lst (ps.map D.ref++[.ref p]))=N2 at e0 U f0 c3 ⊢;exists 7,(rn ws i j).map sg,U;exists λa δ v=>Q8 λ(F:Nat) (S':Int->Bool) (o6:r_)=>Yk (δ=[KJ (.tup (ws.map (L6 t b X Y))),KJ (.ref ld),KJ (.ref l),KJ (.ref y),KJ (.int (i:Int)),KJ (.ref p),o6]) (v y=KJ (Pz F S')) (∀c,c≠y->v c=N2 c) (F<=n+a) (∀g:Nat,S' (g:Int)=(decide (g∈x.flatten)||decide (g∈(rn ws i j).take a))),#[n,Sg,7,e0,λ_ _=>rfl,HD _,λg=>by rw[hS];simp],λa δ v _ z=>by let[_,_,_,_,_,z,_]:=z;show v p=_;rw[z p b0];exact U,?_
  .rintro a d δ v ha hd ⟨F,S',o6,rfl,h1,h2,h3,h4⟩;have n0:a<j+1:=by have:a<((rn ws i j).map sg).length:=ha;simpa[jN]using this
   have hd:((rn ws i j).map sg)[a]?=KJ d:=hd;rw[HF]at hd;cases eg:(rn ws i j)[a]? with
   |none=>rw[eg]at hd;cases hd
   |some g=>
    rw[eg]at hd
    cases hd
    exists 7,7,y,(g:Int),F,S',rfl,rfl,h1,()
    refine #[F+1,_,7,ag,λc hc=>by rw[ak hc];exact h2 c hc,(),λg'=>?_]
    rw[h4,List.take_succ,eg]
    have e:decide (((g':Nat):Int)=((g:Nat):Int))=decide (g'=g):=by rw[KU];omega
    rw[e]
    simp only[HX,Option.toList_some,J8,Bool.decide_or]
    cases decide (g'=g)<;>cases decide (g'∈x.flatten)<;>simp
  .rintro δ v ⟨F,S',o6,rfl,h1,h2,h3,h4⟩;have h3:F<=n+(j+1):=by simpa[jN]using h3
   have h4:∀g:Nat,S' (g:Int)=(decide (g∈x.flatten)||decide (g∈(rn ws i j).take ((rn ws i j).map sg).length)):=h4;have et:(rn ws i j).take ((rn ws i j).map sg).length=rn ws i j:=JN (by simp);rw[et]at h4;have c4:∀{a o},r a=KJ o->a≠l->a≠y->v a=KJ o:=λh n F=>by rw[h2 _ F];exact c3 h n
   refine hB _ _ #[ps++[p],x++[rn ws i j],F,S',_,_,7,λa o h=>c4 (sb _ _ h) (λz=>by subst z;rw[a0]at h;cases h) (λz=>by subst z;rw[c0]at h;cases h),(by rw[h2 l J.symm,Iu];exact f0),h1,by simp;omega,(),λg=>?_,#[x,R,.inr #[k0,_,#[j,nr,eq,rfl],rfl]],?_,λp' m0=>?_]
   .rw[h4];simp only[List.flatten_append,HX,Kp,List.flatten_nil,K7,Bool.decide_or]
   .exact(O.mono λq hq o e=>c4 e (u q hq).1 (u q hq).2.1).snoc (by rw[h2 p b0];exact U)
   .rcases HX.mp m0 with z|z
    .exact u p' z
    .have:p'=p:=‹z›
     subst this;exact #[d0,b0,gQ sb N]
 .rintro δ r ⟨ps,x,n,Sg,o4,o5,o6,rfl,sb,C,hg,h0,i0,hS,R,O,u⟩;exact #[7,#[r,.refl,k r l ps x (SD.Sub.trans Z sb) (gQ Z a0) C R O λp N=>#[(u p N).1,gQ Z (u p N).2.2]]]
theorem cy:L0 ["parts","common","part"] ["parts"] (ao dN):=⋯
inductive Mo:Prop
 |mk (p:pd) (qs:List Rat) (b:Nat) (_:sx=.ref p) (_:M p=KJ (.lst (qs.map LU))) (_:0<b) (_:b<=10^26) (_:(∀q∈qs,q.den ∣ b)) (_:∀c:Nat,0<c->c ∣ b->(∀q∈qs,q.den ∣ c)->Q (.int (c:Int)) M)
theorem gf(T:Tx K mg):Cal P w K mg base 2 "common_bottom" (OM Mo):=by
 refine fH (k:=1) T.eP cy λf _ _ _ s H _ F=>#[_,(aj (aB 1 cy.nd ai) (aj (bD HY rfl (aN (dv 0)) (ay 2 cy.nd) (aq (aB 1 cy.nd (aw aH (aw gh (dv 1) (ar (eE T).m F (ae (dv 1) (ae (ax (dv 2) ai) af)))) (ax (dv 2) ai))))) (aq (az (dv 1))))),λ_ M Q h=>?_];let[p,qs,b,rfl,C,a,u,l,k]:=h;exists 7,qs.map LU,C;exists λi δ o=>o=M/\Pu λ(c:Nat) (v:r_)=>Wc (δ=[KJ (.ref p),KJ (.int (c:Int)),v]) (0<c) (c ∣ b) (∀q∈qs.take i,q.den ∣ c),#[rfl,1,7,⋯,Nat.one_dvd _,λq l=>by simp at l],λi δ o _ z=>by let[rfl,_]:=z;exact C,?_
 .rintro i d δ o L hd ⟨rfl,c,v,rfl,c0,r,x⟩;have hd:(qs.map LU)[i]?=KJ d:=hd;rw[HF]at hd;cases t:qs[i]? with
  |none=>rw[t]at hd;cases hd
  |some q=>
   rw[t]at hd
   cases hd
   have g:=HE t
   have g0:0<Kl c q.den:=Nat.gcd_pos_of_pos_left _ c0
   have G:c<=b:=Nat.le_of_dvd a r
   have I:Kl c q.den<=c:=Nat.gcd_le_left _ c0
   have bd:∀{n:Nat},n<=10^26->Bd 100 (n:Int):=λ{n} h=>by show(n:Int).natAbs<2^100;omega
   have y:Bd 100 ((c:Int).fdiv ((Kl c q.den:Nat):Int)):=(bd (n:=c) ()).of_le (by rw[IK _ ()];exact Int.natAbs_ediv_le_natAbs _ _)
   have J:(c:Int).fdiv ((Kl c q.den:Nat):Int)*(q.den:Int)=((Nat.lcm c q.den:Nat):Int):=by
    rw[IK _ (),<-Int.natCast_ediv,<-Int.natCast_mul]
    congr 1
    rw[Nat.lcm,Nat.mul_comm c q.den,Nat.mul_div_assoc _ (Nat.gcd_dvd_left c q.den),Nat.mul_comm]
   exists 7,7,7,7,c,q.den,rfl,rfl,#[(),(bd ()).mono ⋯],7,7,eK (y.mono ⋯) ((bd (ID (Nat.le_of_dvd a (l q g)) u)).mono ⋯)
   dsimp only
   rw[J]
   refine #[rfl,Nat.lcm c q.den,7,Nat.lcm_pos c0 q.den_pos,Nat.lcm_dvd r (l q g),λB j=>?_]
   rw[List.take_succ,t]at j
   rcases HX.mp j with z|z
   .exact Nat.dvd_trans (x B z) (Nat.dvd_lcm_left c q.den)
   .have:B=q:=‹z›
    subst this;exact Nat.dvd_lcm_right c B.den
 .rintro δ o ⟨rfl,c,v,rfl,c0,r,x⟩;exact #[7,Lf (k c c0 r (by have e:qs.take (qs.map LU).length=qs:=JN (by simp);rw[<-e];exact x))]
theorem p7:L0 ["part","bottom"] ["part","bottom"] (ao iH):=⋯
inductive Ni:Prop
 |mk (q:Rat) (B:Int) (_:sx=LU q) (_:sy=.int B) (_:LL 200 q) (_:0<B) (_:B<=10^26) (_:Q (.int (q.num*B.fdiv (q.den:Int))) M)
theorem fK(T:Tx K mg):Cal P w K mg base 1 "top_over" (ME Ni):=by
 refine a9 (k:=0) T.eR p7 λf _ _ _ s H _ d=>#[_,(aq (az (aw aH (ax (dv 0) ai) (aw gh (dv 1) (ax (dv 0) ai))))),λ_ _ M Q h=>?_];let[q,B,rfl,rfl,a,h0,h1,k]:=h;have b:Bd 100 B:=by show B.natAbs<2^100;omega
 have c:(B.fdiv (q.den:Int)).natAbs<=B.natAbs:=by rw[IK _ ()];exact Int.natAbs_ediv_le_natAbs _ _
 exact #[7,7,7,7,7,#[LV q,a.2.mono ⋯],eK (a.1.mono ⋯) ((b.of_le c).mono ⋯),Lf k]
theorem aT:L0 ["plot","ring","ways","x_bottom","y_bottom","total","x","y","next_x","next_y"] ["plot","ring"] (ao fL):=⋯
theorem m5{I:OY}{js:q7}{l:My}{te:TD}{δ:DS}{c:MH}{Q:DK}(c0 a g0 g1:Nat->D)(q:I.n<=1000)(hC:∀p b,c p=KL->I.C (au c p (.lst b)))(k:∀i d,i<I.n->I.item i=KJ d->d=.tup [c0 i,a i]) (hw:∀i M R,i<I.n->R #[2,λj=>[c0 i,a i][j]?,λM=>Cc M (.tup [c0 i,a i]) [c0 i,a i]] M->l (cδ [KJ (.tup [c0 i,a i]),KL] js δ) M R) (h0:∀i M (K:DK),i<I.n->K (g0 i) M->te (cδ [KJ (.tup [c0 i,a i]),KJ (c0 i)] js δ) M K) (h1:∀i M (K:DK),i<I.n->K (g1 i) M->te (cδ [KJ (.tup [c0 i,a i]),KJ (a i)] js δ) M K) (r:∀p,c p=KL->Q (.ref p) (au c p (.lst ((HK I.n).flatMap λi=>[g0 i,g1 i])))):Fd I js l te δ c Q:=by
 refine #[q,λp m=>#[λi b M=>b=(HK i).flatMap (λi=>[g0 i,g1 i])/\M=au c p (.lst b),#[rfl,rfl],?_,?_,?_]]
 .rintro i b M _ ⟨_,rfl⟩;exact hC p b m
 .rintro i b d M f hd ⟨rfl,rfl⟩;obtain rfl:=k i d f hd;refine hw i _ _ f #[L8 rfl,λj g M=>g=(HK i).flatMap (λi=>[g0 i,g1 i])++[g0 i,g1 i].take j/\M=au c p (.lst g),#[by simp,rfl],λ_ _ _ _ _=>rfl,?_,?_]
  .rintro j g e M o h ⟨rfl,rfl⟩;have o:j<2:=o;have h:[c0 i,a i][j]?=KJ e:=h;rcases(():j=0\/j=1)with rfl|rfl
   .cases h;exact h0 i _ _ f #[_,.refl,ag,by simp,by rw[bg]]
   .cases h;exact h1 i _ _ f #[_,.refl,ag,by simp,by rw[bg]]
  .rintro g M ⟨rfl,rfl⟩;refine #[?_,rfl];rw[Ka,List.flatMap_append];simp
 .rintro b M ⟨rfl,rfl⟩;exact r p m
inductive NK:Prop
 |mk (t b X Y:Int) (ws:r3) (p:pd) (r:q7) (_:sx=.tup (ws.map (L6 t b X Y))) (_:sy=.ref p) (_:M p=KJ (.lst (r.map sg))) (_:MK t b X Y) (_:(∀w∈ws,Le w)) (_:ws.length<=40) (_:r.length<=80) (_:(∀g∈r,g<2*ws.length)) (_:∀tot B:Int,Q (.tup [.int tot,.int B]) M)
theorem oS(T:Tx K mg):Cal P w K mg base 3 "twice_area" (ME NK):=by
 refine a9 (k:=2) T.eT aT λf _ _ _ s H _ J=>#[_,(aj (dC 2 aT.nd (L4.of (xs:=["face"]) (js:=[0]) rfl) rfl (aN (dv 1)) (λ_ _ _ _=>bo) (λ_ _ _ _=>(ar (cf T).m J (ae (dv 1) (ae (dv 0) af))))) (aj (aB 3 aT.nd (ar (gf T).m J (ae (za (L4.of (xs:=["way","corner"]) (js:=[]) rfl) rfl (aN (dv 2)) (λ_ _ _ _=>(aN (dv 0))) (λ_ _ _ _=>(ax (dv 1) ai))) af))) (aj (aB 4 aT.nd (ar (gf T).m J (ae (za (L4.of (xs:=["way","corner"]) (js:=[]) rfl) rfl (aN (dv 2)) (λ_ _ _ _=>(aN (dv 0))) (λ_ _ _ _=>(ax (dv 1) ai))) af))) (aj (aB 5 aT.nd ai) (aj (bD HY rfl (aN (dv 2)) (br rfl (aA (br rfl (aA (ay 6 aT.nd) (aA (ay 7 aT.nd) aU))) (aA (br rfl (aA (ay 8 aT.nd) (aA (ay 9 aT.nd) aU))) aU))) (aj (rA 5 aT.nd xh (aw aH (ar (fK T).m J (ae (dv 6) (ae (dv 3) af))) (ar (fK T).m J (ae (dv 9) (ae (dv 4) af))))) (aq (rA 5 aT.nd Dq (aw aH (ar (fK T).m J (ae (dv 8) (ae (dv 3) af))) (ar (fK T).m J (ae (dv 7) (ae (dv 4) af)))))))) (aq (az (aE (ae (dv 5) (ae (aw aH (dv 3) (dv 4)) af)))))))))),λ_ _ M Q h=>?_];let[t,b,X,Y,ws,p,r,rfl,rfl,hp,S,hU,z0,a1,J,k]:=h;refine #[7,_,hp,comp_map (λj=>L6 t b X Y (fw ws ((r[j]?).getD 0))) (by show(r.map sg).length<=1000000;simp;omega) (λq ys V=>by show(au M q _) p=_;rw[ak (av hp V)];exact hp) ?_ (λF v0=>?_)]
 .intro j d M6 hj hd sb;have hd:(r.map sg)[j]?=KJ d:=hd;rw[HF]at hd;cases y:r[j]? with
  |none=>rw[y]at hd;cases hd
  |some g=>
   rw[y]at hd
   cases hd
   exact #[7,λK hK=>#[7,7,t,b,X,Y,ws,g,rfl,rfl,J g (HE y),(),hK _ .refl]]
 have e1:(HK (r.map sg).length).map (λj=>L6 t b X Y (fw ws ((r[j]?).getD 0)))=r.map λg=>L6 t b X Y (fw ws g):=by
  rw[Hw];apply List.ext_getElem
  .simp
  .intro i h1 h2;simp at h1;simp[h1]
 dsimp only;rw[e1];have C:(au M F (.lst (r.map λg=>L6 t b X Y (fw ws g)))) F=KJ (.lst (r.map λg=>L6 t b X Y (fw ws g))):=ag;have c0:SD.Sub M (au M F (.lst (r.map λg=>L6 t b X Y (fw ws g)))):=.new v0 .refl;generalize au M F (.lst (r.map λg=>L6 t b X Y (fw ws g)))=M1 at C c0 ⊢;have d0:(r.map λg=>L6 t b X Y (fw ws g)).length=r.length:=by simp
 refine #[7,_,C,m5 (λi=>LS (LK t b X 1 (fa ws ((r[i]?).getD 0)).1) (LK t b Y 1 (fa ws ((r[i]?).getD 0)).2)) (λi=>LS (LK t b X 1 (fb ws ((r[i]?).getD 0)).1) (LK t b Y 1 (fb ws ((r[i]?).getD 0)).2)) (λi=>LU (LK t b X 1 (fa ws ((r[i]?).getD 0)).1)) (λi=>LU (LK t b X 1 (fb ws ((r[i]?).getD 0)).1)) (by show(r.map λg=>L6 t b X Y (fw ws g)).length<=1000;omega) (λq ys V=>by show(au M1 q _) F=_;rw[ak (av C V)];exact C) (λi d L hd=>?_) (λi M R L h=>#[7,7,h]) (λi M K L h=>#[7,7,h]) (λi M K L h=>#[7,7,h]) (λpx e0=>?_)]
 .have hd:(r.map λg=>L6 t b X Y (fw ws g))[i]?=KJ d:=hd;rw[HF]at hd;cases y:r[i]? with
  |none=>rw[y]at hd;cases hd
  |some g=>
   rw[y]at hd
   cases hd
   rfl
 obtain⟨e,rfl⟩:∃e:Nat,b=(e:Int):=#[b.toNat,by have:=S.b0;omega];have N:0<e:=by have:=S.b0;omega
 have dv:∀(Z x:Int),(LK t (e:Int) Z 1 x).den ∣ e:=λZ x=>by
  have h:=Aj (n:=x*t+Z*1) (d:=(e:Int)*1) ()
  rw[Int.mul_one (e:Int)]at h
  unfold LK
  rw[Int.mul_one (e:Int)]
  exact Int.ofNat_dvd.mp h
 have eX:∀(Z:Int) (O:Vc->Int) (n:Nat),((HK n).flatMap λi=>[LU (LK t (e:Int) Z 1 (O (fa ws ((r[i]?).getD 0)))),LU (LK t (e:Int) Z 1 (O (fb ws ((r[i]?).getD 0))))])=((HK n).flatMap λi=>[LK t (e:Int) Z 1 (O (fa ws ((r[i]?).getD 0))),LK t (e:Int) Z 1 (O (fb ws ((r[i]?).getD 0)))]).map LU:=λZ O n=>by rw[List.map_flatMap];rfl
 have U:∀(Z:Int) (O:Vc->Int) (n:Nat) (q:Rat),q∈((HK n).flatMap λi=>[LK t (e:Int) Z 1 (O (fa ws ((r[i]?).getD 0))),LK t (e:Int) Z 1 (O (fb ws ((r[i]?).getD 0)))])->q.den ∣ e:=λZ O n q V=>by
  let[i,_,L]:=List.mem_flatMap.mp V;rcases II.mp L with z|z
  .rw[z];exact dv _ _
  .rw[show q=_ from by simpa using z];exact dv _ _
 have f0:e<=10^26:=by have:=S.b1;omega
 refine #[px,_,e,rfl,(by rw[ag];dsimp only;rw[d0];exact congrArg (λz=>KJ (MO.lst z)) (eX X (λv=>v.1) r.length)),N,f0,U X (λv=>v.1) _,λxb c1 w0 d1=>?_];have G:∀{o},(au M1 px o) F=KJ (.lst (r.map λg=>L6 t (e:Int) X Y (fw ws g))):=λ{o}=>by rw[ak (av C e0)];exact C
 have x0:∀{o},SD.Sub M (au M1 px o):=λ{o}=>.new e0 c0;refine #[7,_,G,m5 (λi=>LS (LK t (e:Int) X 1 (fa ws ((r[i]?).getD 0)).1) (LK t (e:Int) Y 1 (fa ws ((r[i]?).getD 0)).2)) (λi=>LS (LK t (e:Int) X 1 (fb ws ((r[i]?).getD 0)).1) (LK t (e:Int) Y 1 (fb ws ((r[i]?).getD 0)).2)) (λi=>LU (LK t (e:Int) Y 1 (fa ws ((r[i]?).getD 0)).2)) (λi=>LU (LK t (e:Int) Y 1 (fb ws ((r[i]?).getD 0)).2)) (by show(r.map λg=>L6 t (e:Int) X Y (fw ws g)).length<=1000;omega) (λq ys V=>by show(au _ q _) F=_;rw[ak (av G V)];exact G) (λi d L hd=>?_) (λi M R L h=>#[7,7,h]) (λi M K L h=>#[7,7,h]) (λi M K L h=>#[7,7,h]) (λpy g0=>?_)]
 .have hd:(r.map λg=>L6 t (e:Int) X Y (fw ws g))[i]?=KJ d:=hd;rw[HF]at hd;cases y:r[i]? with
  |none=>rw[y]at hd;cases hd
  |some g=>
   rw[y]at hd
   cases hd
   rfl
 refine #[py,_,e,rfl,(by rw[ag];dsimp only;rw[d0];exact congrArg (λz=>KJ (MO.lst z)) (eX Y (λv=>v.2) r.length)),N,f0,U Y (λv=>v.2) _,λyb f1 y0 g1=>?_];have i0:∀{o o'},py≠F->(au (au M1 px o) py o') F=KJ (.lst (r.map λg=>L6 t (e:Int) X Y (fw ws g))):=λne=>by rw[ak ne.symm];exact G
 have k0:py≠F:=(av G g0).symm;exists 7,_,i0 k0;have a0:=SD.Sub.new (o:=MO.lst ((HK (r.map λg=>L6 t (e:Int) X Y (fw ws g)).length).flatMap λi=>[LU (LK t (e:Int) Y 1 (fa ws ((r[i]?).getD 0)).2),LU (LK t (e:Int) Y 1 (fb ws ((r[i]?).getD 0)).2)])) g0 x0;dsimp only at a0 ⊢;have m0:=i0 (o:=MO.lst ((HK (r.map λg=>L6 t (e:Int) X Y (fw ws g)).length).flatMap λi=>[LU (LK t (e:Int) X 1 (fa ws ((r[i]?).getD 0)).1),LU (LK t (e:Int) X 1 (fb ws ((r[i]?).getD 0)).1)])) (o':=MO.lst ((HK (r.map λg=>L6 t (e:Int) X Y (fw ws g)).length).flatMap λi=>[LU (LK t (e:Int) Y 1 (fa ws ((r[i]?).getD 0)).2),LU (LK t (e:Int) Y 1 (fb ws ((r[i]?).getD 0)).2)])) k0;generalize au (au M1 px (MO.lst ((HK (r.map λg=>L6 t (e:Int) X Y (fw ws g)).length).flatMap λi=>[LU (LK t (e:Int) X 1 (fa ws ((r[i]?).getD 0)).1),LU (LK t (e:Int) X 1 (fb ws ((r[i]?).getD 0)).1)]))) py (MO.lst ((HK (r.map λg=>L6 t (e:Int) X Y (fw ws g)).length).flatMap λi=>[LU (LK t (e:Int) Y 1 (fa ws ((r[i]?).getD 0)).2),LU (LK t (e:Int) Y 1 (fb ws ((r[i]?).getD 0)).2)]))=M3 at a0 m0 ⊢;have l:(0:Int)<(xb:Int)/\(xb:Int)<=10^26:=by have:=Nat.le_of_dvd N w0;omega
 have u:(0:Int)<(yb:Int)/\(yb:Int)<=10^26:=by have:=Nat.le_of_dvd N y0;omega
 exists λi δ M'=>M'=M3/\Yh λ(I:Int) (o6 o7 o8 o9:r_)=>δ=[KJ (.tup (ws.map (L6 t (e:Int) X Y))),KJ (.ref p),KJ (.ref F),KJ (.int (xb:Int)),KJ (.int (yb:Int)),KJ (.int I),o6,o7,o8,o9],#[rfl,0,_,_,_,7],λi δ M' _ z=>by let[rfl,_]:=z;exact m0,?_
 .rintro i d δ M' L hd ⟨rfl,I,o6,o7,o8,o9,rfl⟩;have hd:(r.map λg=>L6 t (e:Int) X Y (fw ws g))[i]?=KJ d:=hd;rw[HF]at hd;cases y:r[i]? with
  |none=>rw[y]at hd;cases hd
  |some g=>
   rw[y]at hd
   cases hd
   have hg:=J g (HE y)
   let[_,_,w3]:=aQ (ws:=ws) (k:=((g/2:Nat):Int)) () ()
   have W:=hU _ w3
   have W6:∀{z:Int},(0<=z/\z<=20)->(-(10^6)<=z/\z<=10^6):=λ{z} h=>()
   have one:(0:Int)<1/\(1:Int)<=10^6:=⋯
   have rg:((0<=(fa ws g).1/\(fa ws g).1<=20)/\(0<=(fa ws g).2/\(fa ws g).2<=20))/\((0<=(fb ws g).1/\(fb ws g).1<=20)/\(0<=(fb ws g).2/\(fb ws g).2<=20)):=by
    unfold fa fb fw;by_cases h:g%2=0
    .rw[KQ h];exact #[#[W.a,W.b],W.c,W.d]
    .rw[KP h];exact #[#[W.c,W.d],W.a,W.b]
   have n0:LL 200 (LK t (e:Int) X 1 (fa ws g).1):=S.bx one (W6 rg.1.1)
   have o0:LL 200 (LK t (e:Int) Y 1 (fa ws g).2):=S.by' one (W6 rg.1.2)
   have q0:LL 200 (LK t (e:Int) X 1 (fb ws g).1):=S.bx one (W6 rg.2.1)
   have s0:LL 200 (LK t (e:Int) Y 1 (fb ws g).2):=S.by' one (W6 rg.2.2)
   have tb:∀{q:Rat} {B:Int},LL 200 q->0<B->B<=10^26->Bd 300 (q.num*B.fdiv (q.den:Int)):=λ{q B} h h0 h1=>by
    have bB:Bd 100 B:=by show B.natAbs<2^100;omega
    have dB:(B.fdiv (q.den:Int)).natAbs<=B.natAbs:=by rw[IK _ ()];exact Int.natAbs_ediv_le_natAbs _ _
    exact h.1.mul (bB.of_le dB)
   have m6:∀{z:Int},Bd 300 z->Bd 1000000 z:=λh=>h.mono ⋯
   exists 7,rfl,_,7,7,rfl,_,7,_,7,rfl,_,7,7,rfl,_,7,_,7,rfl,rfl
   (try dsimp only[SD.aW])
   refine RH λB hB=>?_
   exists I,rfl,7,7,LK t (e:Int) X 1 (fa ws g).1,(xb:Int),rfl,rfl,n0,l.1,l.2,7,7,LK t (e:Int) Y 1 (fb ws g).2,(yb:Int),rfl,rfl,s0,u.1,u.2,eK (m6 (tb n0 l.1 l.2)) (m6 (tb s0 u.1 u.2)),7
   exists 7,7,7,LK t (e:Int) X 1 (fb ws g).1,(xb:Int),rfl,rfl,q0,l.1,l.2,7,7,LK t (e:Int) Y 1 (fa ws g).2,(yb:Int),rfl,rfl,o0,u.1,u.2,eK (m6 (tb q0 l.1 l.2)) (m6 (tb o0 u.1 u.2)),7
   exact hB _ _ #[rfl,_,_,_,_,7]
 .rintro δ M' ⟨rfl,I,o6,o7,o8,o9,rfl⟩;have t0:Bd 100 (xb:Int):=by show(xb:Int).natAbs<2^100;omega
  have u0:Bd 100 (yb:Int):=by show(yb:Int).natAbs<2^100;omega
  exact #[7,7,7,eK (t0.mono ⋯) (u0.mono ⋯),L8 rfl,#[M,a0,k I _]]
theorem cL:L0 ["plot","outers","inners","ring"] ["plot"] (ao cY):=⋯
inductive MR:Prop
 |mk (t b X Y:Int) (ws:r3) (_:sx=.tup (ws.map (L6 t b X Y))) (_:MK t b X Y) (_:ws.length<=40) (_:(∀w∈ws,Le w)) (_:PF ws) (_:∀(M':MH) (lo li:pd) (ps qs:rq) (us vs:p_),SD.Sub M M'->(∀r∈us++vs,Wk ws r)->us.length<=80->vs.length<=80->M' lo=KJ (.lst (ps.map D.ref))->M' li=KJ (.lst (qs.map D.ref))->RL M' ps us->RL M' qs vs->M lo=KL->M li=KL->(∀p∈ps++qs,M p=KL)->Q (.tup [.ref lo,.ref li]) M')
theorem iR(T:Tx K mg):Cal P w K mg base 8 "outer_and_inner" (OM MR):=by
 refine fH (k:=7) T.e_ cL λf cdv A outer s H E N=>#[_,(aj (ix 1 2 rfl cL.nd (ae (bK af) (ae (bK af) af))) (aj (bD HY rfl (aN (ar (r0 T).m N (ae (dv 0) af))) (ay 3 cL.nd) (aq (bw (aI (gB N.units) (ax (ar (oS T).m N (ae (dv 0) (ae (dv 3) af))) ai) ai) (aq (cu (bQ (dv 1) (ae (dv 3) af)))) (aq (cu (bQ (dv 2) (ae (dv 3) af))))))) (aq (az (aE (ae (dv 1) (ae (dv 2) af))))))),λ_ M Q h=>?_];let[t,b,X,Y,ws,rfl,S,G,hU,hF,k]:=h;refine #[L8 rfl,λy O=>#[L8 rfl,λn U=>?_]];have q:y≠n:=av ag U;have I:M n=KL:=by have h:=U;rw[ak q.symm]at h;exact h
 exists _,7;refine #[7,t,b,X,Y,ws,rfl,S,G,hU,hF,λV lr pr rs W C b0 R c0 f0=>?_];have d0:V y=KJ (.lst []):=W _ _ (by rw[ak q,ag]);have e0:V n=KJ (.lst []):=W _ _ ag;have g0:SD.Sub M V:=SD.Sub.trans (.new U (.new O .refl)) W;have h0:lr≠y:=λz=>by subst z;rw[ak q,ag]at C;cases C
 have i0:lr≠n:=λz=>by subst z;rw[ag]at C;cases C
 have pn:∀p∈pr,p≠y/\p≠n/\M p=KL:=λp g=>by
  have h:=(f0 p g).2
  have a:p≠n:=λz=>by subst z;rw[ag]at h;cases h
  rw[ak a]at h
  have c:p≠y:=λz=>by subst z;rw[ag]at h;cases h
  rw[ak c]at h
  exact #[c,a,h]
 have k0:=ux R;have m0:=c0.len;have J:=oz hU hF (HD _) R;exists _,b0;exists λi δ F=>Yh λ(ps qs:rq) (us vs:p_) (o3:r_)=>QM (δ=[KJ (.tup (ws.map (L6 t b X Y))),KJ (.ref y),KJ (.ref n),o3]) (∀c,c≠y->c≠n->F c=V c) (F y=KJ (.lst (ps.map D.ref))) (F n=KJ (.lst (qs.map D.ref))) (RL V ps us) (RL V qs vs) (∀r∈us++vs,r∈rs) (ps.length<=i) (qs.length<=i) (∀p∈ps++qs,p∈pr),#[[],[],[],[],7,λ_ _ _=>rfl,d0,e0,.nil,.nil,(λr N=>by cases N),HD _,HD _,λp g=>by cases g],λi δ F _ z=>by let[_,_,_,_,_,_,z,_]:=z;show F lr=_;rw[z lr h0 i0];exact b0,?_
 .rintro i d δ F hi hd ⟨ps,qs,us,vs,o3,rfl,l,u,v,R1,R2,L,l1,l2,j⟩;have hi:i<pr.length:=by have:i<(pr.map D.ref).length:=hi;simpa using this
  have hd:(pr.map D.ref)[i]?=KJ d:=hd;rw[HF,Hy hi]at hd;cases hd;let[r,er,Z]:=c0.get hi;have a0:pr[i]∈pr:=IU hi;let[p1,p2,p3]:=pn _ a0;have A:=J r (HE er);refine #[7,7,t,b,X,Y,ws,pr[i],r,rfl,rfl,(by rw[l _ p1 p2];exact Z),S,hU,G,by have:=A.len;omega,A.lt,λn0 B=>?_];exists 7,trivial,7;have mr:=HE er;refine bF (λh=>?_) (λh=>?_)
  .refine #[7,y,7,u,7,_,7,u,(by rw[Hw];omega),?_];refine #[ps++[pr[i]],qs,us++[r],vs,7,λc a c2=>by rw[ak a];exact l c a c2,by rw[ag,Iu];rfl,by rw[ak q.symm];exact v,R1.snoc Z,R2,λx hx=>by simp only[HX,J8]at hx L;exact hx.elim (λh=>h.elim (λh=>L x (.inl h)) λh=>h▸mr) λh=>L x (.inr h),by simp;omega,(),λp g=>?_];rcases HX.mp g with z|z
   .rcases HX.mp z with z|z
    .exact j p (HX.mpr (.inl z))
    .rw[show p=pr[i] by simpa using z];exact a0
   .exact j p (HX.mpr (.inr z))
  .refine #[7,n,7,v,7,_,7,v,(by rw[Hw];omega),?_];refine #[ps,qs++[pr[i]],us,vs++[r],7,λc a c2=>by rw[ak c2];exact l c a c2,by rw[ak q];exact u,by rw[ag,Iu];rfl,R1,R2.snoc Z,λx hx=>by simp only[HX,J8]at hx L;exact hx.elim (λh=>L x (.inl h)) λh=>h.elim (λh=>L x (.inr h)) λh=>h▸mr,(),by simp;omega,λp g=>?_];rcases HX.mp g with z|z
   .exact j p (HX.mpr (.inl z))
   .rcases HX.mp z with z|z
    .exact j p (HX.mpr (.inr z))
    .rw[show p=pr[i] by simpa using z];exact a0
 .rintro δ F ⟨ps,qs,us,vs,o3,rfl,l,u,v,R1,R2,L,l1,l2,j⟩;have l1:ps.length<=(pr.map D.ref).length:=l1;rw[Hw]at l1;have l2:qs.length<=(pr.map D.ref).length:=l2;rw[Hw]at l2;have kp:∀p∈ps++qs,F p=V p:=λp g=>let z:=pn p (j p g);l p z.1 z.2.1
  refine #[7,7,L8 rfl,Lf (k F y n ps qs us vs (λa o h=>?_) (λr N=>J r (L r N)) (by have:=R1.len;omega) (by have:=R2.len;omega) u v (R1.mono λp g o e=>by rw[kp p (HX.mpr (.inl g))];exact e) (R2.mono λp g o e=>by rw[kp p (HX.mpr (.inr g))];exact e) O I λp g=>(pn p (j p g)).2.2)];rw[l a (λz=>by subst z;rw[O]at h;cases h) (λz=>by subst z;rw[I]at h;cases h)];exact g0 _ _ h
theorem mE:L0 ["one","other"] ["one","other"] (ao fP):=⋯
inductive NP:Prop
 |mk (c d g h:Rat) (_:sx=LS c d) (_:sy=LS g h) (_:LL 100000 c) (_:LL 100000 d) (_:LL 100000 g) (_:LL 100000 h) (_:∀s:Rat×Rat,s=(if LM c d g h then(c,d)else(g,h))->Q (LS s.1 s.2) M)
theorem iX(T:Tx K mg):Cal P w K mg base 3 "earlier_of" (ME NP):=by
 refine a9 (k:=2) T.fc mE λf _ _ _ s H _ b=>#[_,(aq (az (jT (dH (ar (c8 T).m b (ae (dv 0) (ae (dv 1) af)))) (dv 0) (dv 1)))),λ_ _ M Q h=>?_];let[c,d,g,a,rfl,rfl,h1,e,i,j,k]:=h;exists 7,7,c,d,g,a,rfl,rfl,h1,e,i,j,7;refine bF (λh=>?_) (λh=>?_)
 .have z:LM c d g a:=by simpa[LM]using h
  have:=k (c,d) (by rw[KQ z]);exact #[7,Lf this]
 .have z:¬LM c d g a:=by simpa[LM]using h
  have:=k (g,a) (by rw[KP z]);exact #[7,Lf this]
theorem cF:L0 ["plot","ring","first","face"] ["plot","ring"] (ao ef):=⋯
inductive Ms:Prop
 |mk (t b X Y:Int) (ws:r3) (p:pd) (r:q7) (_:sx=.tup (ws.map (L6 t b X Y))) (_:sy=.ref p) (_:M p=KJ (.lst (r.map sg))) (_:MK t b X Y) (_:(∀w∈ws,Le w)) (_:ws.length<=40) (_:0<r.length) (_:(∀g∈r,g<2*ws.length)) (_:∀c,MD c->Q (Lx t b X Y c) M)
theorem lz(T:Tx K mg):Cal P w K mg base 4 "first_corner" (ME Ms):=by
 refine a9 (k:=3) T.fC cF λf _ _ _ s H _ e=>#[_,(aj (aB 2 cF.nd (ax (ar (cf T).m e (ae (dv 0) (ae (ax (dv 1) ai) af))) ai)) (aj (bD HY rfl (aN (dv 1)) (ay 3 cF.nd) (aq (aB 2 cF.nd (ar (iX T).m e (ae (dv 2) (ae (ax (ar (cf T).m e (ae (dv 0) (ae (dv 3) af))) ai) af)))))) (aq (az (dv 2))))),λ_ _ M Q h=>?_];let[t,b,X,Y,ws,p,r,rfl,rfl,v,S,C,F,j,e,k]:=h
 obtain⟨g0,G,x⟩:∃g0 G,r=g0::G:=by
  cases r with
  |nil=>simp at j
  |cons a l=>exact #[a,l,rfl]
 have o:∀{z:Vc},MD z->LL 100000 (LK t b X 1 z.1)/\LL 100000 (LK t b Y 1 z.2):=λ{z} h=>by
  have one:(0:Int)<1/\(1:Int)<=10^6:=⋯
  exact #[(S.bx one (by have:=h.1;omega)).mono ⋯,(S.by' one (by have:=h.2;omega)).mono ⋯]
 exists 7,7,_,_,v,(show atI _ ((0:Nat):Int)=KJ (.int (g0:Int))from bz (by rw[x];rfl)),t,b,X,Y,ws,g0,rfl,rfl,e g0 (by rw[x];simp),(),7;exists 7,_,v;exists λi δ q=>q=M/\Pu λ(c:Vc) (y:r_)=>MD c/\δ=[KJ (.tup (ws.map (L6 t b X Y))),KJ (.ref p),KJ (Lx t b X Y c),y],#[rfl,fa ws g0,_,yz C (e g0 (by rw[x];simp)),rfl],λi δ q _ z=>by let[rfl,_]:=z;exact v,?_
 .rintro i d δ q u hd ⟨rfl,c,y,b1,rfl⟩;have u:i<r.length:=by have:i<(r.map sg).length:=u;simpa using this
  have hd:(r.map sg)[i]?=KJ d:=hd;rw[HF,Hy u]at hd;cases hd;have I:=e r[i] (IU u);have B:=yz C I;exists 7,7,7,t,b,X,Y,ws,r[i],rfl,rfl,I,(),7;refine #[_,_,_,7,rfl,(o b1).1,(o b1).2,(o B).1,(o B).2,λs n=>?_];have n:s=if LM (LK t b X 1 c.1) (LK t b Y 1 c.2) (LK t b X 1 (fa ws r[i]).1) (LK t b Y 1 (fa ws r[i]).2)then(LK t b X 1 c.1,LK t b Y 1 c.2)else(LK t b X 1 (fa ws r[i]).1,LK t b Y 1 (fa ws r[i]).2):=n;split at n
  .subst n;exact #[rfl,c,_,b1,rfl]
  .subst n;exact #[rfl,fa ws r[i],_,B,rfl]
 .rintro δ q ⟨rfl,c,y,b1,rfl⟩;exact #[7,Lf (k c b1)]
theorem yn:L0 ["wall","spot"] ["wall","spot"] (ao nU):=⋯
inductive Pw:Prop
 |mk (n:Nat) (a b c d x y:Rat) (_:sx=LJ a b c d) (_:sy=LS x y) (_:LL n a) (_:LL n b) (_:LL n c) (_:LL n d) (_:LL n x) (_:LL n y) (_:n<=100000) (_:Q (.bl (!decide (LM x y a b)&&decide (LM x y c d))) M)
theorem zQ(T:Tx K mg):Cal P w K mg base 3 "spans" (ME Pw):=by
 refine a9 (k:=2) T.f_ yn λf _ _ _ s H _ i=>#[_,(aq (az (jt (wx (ar (c8 T).m i (ae (dv 1) (ae (ax (dv 0) ai) af)))) (lG (ar (c8 T).m i (ae (dv 1) (ae (ax (dv 0) ai) af))))))),λ_ _ M Q h=>?_];let[n,a,b,c,d,x,y,rfl,rfl,j,l,o,hd,hx,hy,p,k]:=h;have e:∀{q:Rat},LL n q->LL 100000 q:=λz=>z.mono p;(try dsimp only[SD.fB,SD.dw,SD.aW,SD.f9,SD.fD,SD.c7,SD.dO,SD.tBD,SD.f7,SD.EndsD.nxt,SD.EndsD.lp])
 exact wC (!decide (LM x y a b)) (decide (LM x y c d)) (λK g=>#[7,7,7,x,y,a,b,rfl,rfl,e hx,e hy,e j,e l,7,g]) (λ_ K g=>#[7,7,7,x,y,c,d,rfl,rfl,e hx,e hy,e o,e hd,g]) (Lf k)
theorem qc:L0 ["one","other"] ["one","other"] (ao ip):=⋯
inductive Nw:Prop
 |mk (a b e f:Rat) (_:sx=LS a b) (_:sy=LS e f) (_:LL 100000 a) (_:LL 100000 b) (_:LL 100000 e) (_:LL 100000 f) (_:∀s:Rat×Rat,s=(if LM e f a b then(a,b)else(e,f))->Q (LS s.1 s.2) M)
theorem se(T:Tx K mg):Cal P w K mg base 3 "later_of" (ME Nw):=by
 refine a9 (k:=2) T.f' qc λf _ _ _ s H _ c=>#[_,(aq (az (jT (dH (ar (c8 T).m c (ae (dv 1) (ae (dv 0) af)))) (dv 0) (dv 1)))),λ_ _ M Q h=>?_];let[a,b,e,f,rfl,rfl,h1,d,g,i,k]:=h;exists 7,7,e,f,a,b,rfl,rfl,g,i,h1,d,7;refine bF (λh=>?_) (λh=>?_)
 .have z:LM e f a b:=by simpa[LM]using h
  have:=k (a,b) (by rw[KQ z]);exact #[7,Lf this]
 .have z:¬LM e f a b:=by simpa[LM]using h
  have:=k (e,f) (by rw[KP z]);exact #[7,Lf this]
theorem eQ:L0 ["one","other","start","end","place","deciding"] ["one","other"] (ao iA):=⋯
inductive Ny:Prop
 |mk (t b X Y:Int) (U V:Wl) (_:sx=L6 t b X Y U) (_:sy=L6 t b X Y V) (_:MK t b X Y) (_:Le U) (_:Le V) (_:Q (.bl (Ll U V)) M)
theorem lE(T:Tx K mg):Cal P w K mg base 4 "is_above" (ME Ny):=by
 refine a9 (k:=3) T.gq eQ λf _ _ _ s H _ x=>#[_,(aj (ix 2 3 rfl eQ.nd (ae (ar (se T).m x (ae (ax (dv 0) ai) (ae (ax (dv 1) ai) af))) (ae (ar (iX T).m x (ae (ax (dv 0) ai) (ae (ax (dv 1) ai) af))) af))) (aj (bw (nP (dH (ar (c8 T).m x (ae (dv 2) (ae (dv 3) af))))) (aq (az je)) aP) (aj (bO (jT (aI (bX x.units) (ax (dv 0) ai) (ax (dv 1) ai)) (aE (ae ai (ae (dv 3) af))) (aE (ae ai (ae (dv 2) af)))) (br rfl (aA (ay 4 eQ.nd) (aA (ay 5 eQ.nd) aU)))) (aj (bw (aI (bX x.units) (dv 5) (ax (dv 0) (dv 4))) (aq (az (bL (bX x.units) (ar (d3 T).m x (ae (dv 1) (ae (dv 5) af))) ai))) aP) (aq (az (bL (bX x.units) (ar (d3 T).m x (ae (dv 0) (ae (dv 5) af))) (pB jc ai)))))))),λ_ _ M Q h=>?_];let[t,b,X,Y,U,V,rfl,rfl,S,g,i,k]:=h;have C:=S.t0;have F:=S.b0;have one:(0:Int)<1/\(1:Int)<=10^6:=⋯
 have W6:∀{z:Int},(0<=z/\z<=20)->(-(10^6)<=z/\z<=10^6):=λ{z} h=>()
 have bx:∀{z:Int},(0<=z/\z<=20)->LL 200 (LK t b X 1 z):=λ{z} h=>S.bx one (W6 h);have by':∀{z:Int},(0<=z/\z<=20)->LL 200 (LK t b Y 1 z):=λ{z} h=>S.by' one (W6 h)
 have n:∀{q:Rat},LL 200 q->LL 100000 q:=λz=>z.mono ⋯
 have W:∃r u:Int,(if LM (LK t b X 1 V.1) (LK t b Y 1 V.2.1) (LK t b X 1 U.1) (LK t b Y 1 U.2.1)then(LK t b X 1 U.1,LK t b Y 1 U.2.1)else(LK t b X 1 V.1,LK t b Y 1 V.2.1))=(LK t b X 1 r,LK t b Y 1 u)/\(0<=r/\r<=20)/\(0<=u/\u<=20)/\la r u=max (l1 U) (l1 V)/\((l1 V<l1 U/\r=U.1/\u=U.2.1)\/(¬l1 V<l1 U/\r=V.1/\u=V.2.1)):=by
  have z:=oF (X:=X) (Y:=Y) (p:=V.1) (q:=V.2.1) (e:=U.1) (f:=U.2.1) C F i.b g.b
  by_cases y:la V.1 V.2.1<la U.1 U.2.1
  .exact #[U.1,U.2.1,by rw[KQ (z.mpr y)],g.a,g.b,by unfold l1;omega,.inl #[y,rfl,rfl]]
  .exact #[V.1,V.2.1,by rw[KP (λq=>y (z.mp q))],i.a,i.b,by unfold l1;omega,.inr #[y,rfl,rfl]]
 have G:∃ex v:Int,(if LM (LK t b X 1 U.2.2.1) (LK t b Y 1 U.2.2.2) (LK t b X 1 V.2.2.1) (LK t b Y 1 V.2.2.2)then(LK t b X 1 U.2.2.1,LK t b Y 1 U.2.2.2)else(LK t b X 1 V.2.2.1,LK t b Y 1 V.2.2.2))=(LK t b X 1 ex,LK t b Y 1 v)/\(0<=ex/\ex<=20)/\(0<=v/\v<=20)/\la ex v=min (l2 U) (l2 V)/\((l2 U<l2 V/\ex=U.2.2.1/\v=U.2.2.2)\/(¬l2 U<l2 V/\ex=V.2.2.1/\v=V.2.2.2)):=by
  have z:=oF (X:=X) (Y:=Y) (p:=U.2.2.1) (q:=U.2.2.2) (e:=V.2.2.1) (f:=V.2.2.2) C F g.d i.d
  by_cases y:la U.2.2.1 U.2.2.2<la V.2.2.1 V.2.2.2
  .exact #[U.2.2.1,U.2.2.2,by rw[KQ (z.mpr y)],g.c,g.d,by unfold l2;omega,.inl #[y,rfl,rfl]]
  .exact #[V.2.2.1,V.2.2.2,by rw[KP (λq=>y (z.mp q))],i.c,i.d,by unfold l2;omega,.inr #[y,rfl,rfl]]
 let[r,u,es,Z,I,ls,cs]:=W;let[ex,v,ee,a0,J,le,ce]:=G;refine #[7,7,7,7,_,_,_,7,rfl,n (bx g.a),n (by' g.b),n (bx i.a),n (by' i.b),λs1 c0=>?_];rw[es]at c0;subst c0;refine #[7,7,7,7,_,_,_,7,rfl,n (bx g.c),n (by' g.d),n (bx i.c),n (by' i.d),λs2 d0=>?_];rw[ee]at d0;subst d0;exists _,7;exists 7,7,LK t b X 1 r,LK t b Y 1 u,LK t b X 1 ex,LK t b Y 1 v,rfl,rfl,n (bx Z),n (by' I),n (bx a0),n (by' J),7;have L:=oF (X:=X) (Y:=Y) (p:=r) (q:=u) (e:=ex) (f:=v) C F I J;rw[ls,le]at L;refine bF (λh=>?_) (λh=>?_)
 .have N:¬(max (l1 U) (l1 V)<min (l2 U) (l2 V)):=λz=>by
   have z':=L.mpr z
   unfold LM at z'
   simp[z']at h
  have e:Ll U V=KO:=by unfold Ll;rw[KP N]
  rw[e]at k;exact Lf k
 have N:max (l1 U) (l1 V)<min (l2 U) (l2 V):=L.mp (Decidable.byContradiction λz=>h ((Bool.not_eq_true' _).mpr (KR z)));dsimp only[SD.c7];refine dn (λδ M'=>M'=M/\Yg λ(pl j l O B:Int) (o2 o3:r_)=>δ=[KJ (L6 t b X Y U),KJ (L6 t b X Y V),o2,o3,KJ (.int pl),KJ (LS (LK t b X 1 j) (LK t b Y 1 l))]/\atI [LS (LK t b X 1 U.1) (LK t b Y 1 U.2.1),LS (LK t b X 1 U.2.2.1) (LK t b Y 1 U.2.2.2)] pl=KJ (LS (LK t b X 1 O) (LK t b Y 1 B))/\(0<=j/\j<=20)/\(0<=l/\l<=20)/\(0<=B/\B<=20)/\(la j l=la O B->decide (0<sd V j l)=Ll U V)/\(la j l≠la O B->decide (sd U j l<0)=Ll U V)) ?_ (λhu=>?_);rotate_left
 .exists 7,7,7,7,_,_,Pd.of rfl,Pd.of rfl,rfl,rfl;rw[LR];exists 7;have q1:=jl (X:=X) (Y:=Y) (p:=U.1) (q:=U.2.1) (e:=V.1) (f:=V.2.1) C F g.b i.b;refine bF (λh=>?_) (λh=>?_)
  .have e1:l1 U=l1 V:=q1.mp ‹h›;exists 7,L8 rfl;exists 7,rfl,_,7,_,7,rfl;refine hu _ _ #[rfl,1,ex,v,U.2.2.1,U.2.2.2,_,7,rfl,a0,J,g.d,λz=>?_,λz=>?_]
   .rcases ce with⟨o,rfl,rfl⟩|⟨o,rfl,rfl⟩
    .unfold Ll;rw[KQ N,KQ e1,KQ o];rfl
    .have y1:Lj U V=0:=pJ g i z.symm;have y2:sd V V.2.2.1 V.2.2.2=0:=pJ i i rfl;unfold Ll;rw[KQ N,KQ e1,KP o,y1,y2]
   .rcases ce with⟨o,rfl,rfl⟩|⟨o,rfl,rfl⟩
    .exact absurd rfl z
    .unfold Ll;rw[KQ N,KQ e1,KP o];rfl
  .have e1:¬l1 U=l1 V:=λz=>h ‹q1.mpr z›;exists 7,L8 rfl;exists 7,rfl,_,7,_,7,rfl;refine hu _ _ #[rfl,0,r,u,U.1,U.2.1,_,7,rfl,Z,I,g.b,λz=>?_,λz=>?_]
   .rcases cs with⟨o,rfl,rfl⟩|⟨o,rfl,rfl⟩
    .unfold Ll;rw[KQ N,KP e1,KQ o];rfl
    .exact absurd z.symm e1
   .rcases cs with⟨o,rfl,rfl⟩|⟨o,rfl,rfl⟩
    .exact absurd rfl z
    .unfold Ll;rw[KQ N,KP e1,KP o];rfl
 rintro δ M' ⟨rfl,pl,j,l,O,B,o2,o3,rfl,f0,e0,R,g0,c1,c2⟩;exists 7,7,7,_,f0,_,_,Pd.of rfl,Pd.of rfl,rfl,rfl;rw[LR];have q2:=jl (X:=X) (Y:=Y) (p:=j) (q:=l) (e:=O) (f:=B) C F R g0;exists 7;refine bF (λh=>?_) (λh=>?_)
 .have z:la j l=la O B:=q2.mp ‹h›;exists 7,7,200,_,_,_,_,_,7,rfl,bx i.a,by' i.b,bx i.c,by' i.d,bx e0,by' R,⋯;rw[lQ C F];have e:decide (Ie (sd V j l)=1)=Ll U V:=by rw[<-c1 z,KU];exact Z3 _
  show Q6 Q (.bl (decide _)) _;rw[e];exact Lf k
 .have z:la j l≠la O B:=λq=>h ‹q2.mpr q›;exists 7,7,200,_,_,_,_,_,7,rfl,bx g.a,by' g.b,bx g.c,by' g.d,bx e0,by' R,⋯;rw[lQ C F];have e:decide (Ie (sd U j l)=-1)=Ll U V:=by rw[<-c2 z,KU];exact GH _
  show Q6 Q (.bl (decide _)) _;rw[e];exact Lf k
theorem eU:L0 ["walls","upper","wall"] ["walls"] (ao iP):=⋯
inductive Nh:Prop
 |mk (a:pd) (t b X Y:Int) (us:r3) (_:sx=.ref a) (_:M a=KJ (.lst (us.map (L6 t b X Y)))) (_:MK t b X Y) (_:(∀w∈us,Le w)) (_:us≠[]) (_:∀w∈us,Q (L6 t b X Y w) M)
theorem sG(T:Tx K mg):Cal P w K mg base 5 "upper_of" (OM Nh):=by
 refine fH (k:=4) T.gw eU λf _ _ _ s H _ q=>#[_,(aj (aB 1 eU.nd (ax (dv 0) ai)) (aj (bD HY rfl (aN (dv 0)) (ay 2 eU.nd) (aq (bw (dH (ar (lE T).m q (ae (dv 2) (ae (dv 1) af)))) (aq (aB 1 eU.nd (dv 2))) aP))) (aq (az (ar (lC T).m q (ae (dv 1) af)))))),λ_ M Q h=>?_];let[a,t,b,X,Y,us,rfl,n,S,o,ne,k]:=h;cases us with
 |nil=>exact absurd rfl ne
 |cons g us=>
  exists 7,_,_,n,bz (j:=0) (v:=L6 t b X Y g) rfl
  exists 7,(g::us).map (L6 t b X Y),n
  exists λi δ l=>l=M/\Pu λup p=>δ=[KJ (.ref a),KJ (L6 t b X Y up),p]/\up∈g::us,#[rfl,g,7,by simp],λi δ l _ z=>by let[rfl,_]:=z;exact n,?_
  .rintro i d δ l y hd ⟨rfl,up,p,rfl,e⟩;let[w,x,rfl]:=fo hd;have r:w∈g::us:=HE x;exists 7,7,t,b,X,Y,w,up,rfl,rfl,S,o w r,o up e,7;exact bF (λh=>#[7,rfl,w,7,r]) (λh=>#[rfl,up,7,e])
  .rintro δ l ⟨rfl,up,p,rfl,e⟩;have W:=o up e;have one:(0:Int)<1/\(1:Int)<=10^6:=⋯
   have u:∀{z:Int},(0<=z/\z<=20)->(-(10^6)<=z/\z<=10^6):=λ{z} h=>()
   have bx:∀{z:Int},(0<=z/\z<=20)->LL 8000 (LK t b X 1 z):=λ{z} h=>(S.bx one (u h)).mono ⋯;have by':∀{z:Int},(0<=z/\z<=20)->LL 8000 (LK t b Y 1 z):=λ{z} h=>(S.by' one (u h)).mono ⋯
   exact #[7,_,_,_,7,bx W.a,by' W.b,bx W.c,by' W.d,Lf (k up e)]
theorem gE:L0 ["walls","spot","below"] ["walls","spot"] (ao fj):=⋯
inductive NA:Prop
 |mk (t b X Y p q:Int) (ws:r3) (_:sx=.tup (ws.map (L6 t b X Y))) (_:sy=LS (LK t b X 1 p) (LK t b Y 1 q)) (_:MK t b X Y) (_:(∀w∈ws,Le w)) (_:ws.length<=40) (_:(0<=p/\p<=20)) (_:(0<=q/\q<=20)) (_:Q .non M) (_:∀w∈ws,Q (L6 t b X Y w) M)
theorem mG(T:Tx K mg):Cal P w K mg base 6 "upper_below" (ME NA):=by
 refine a9 (k:=5) T.gx gE λf _ _ _ s H _ o=>#[_,(aj (dC 2 gE.nd (L4.of (xs:=["wall"]) (js:=[1]) rfl) rfl (aN (dv 0)) (λ_ _ _ _=>(iW (pO (jR (dH (ar (zQ T).m o (ae (dv 0) (ae (dv 1) af)))) (gS (aI (bX o.units) (ar (d3 T).m o (ae (dv 0) (ae (dv 1) af))) ai)))))) (λ_ _ _ _=>(dv 0))) (aq (az (jT (yy (dv 2)) (ar (sG T).m o (ae (dv 2) af)) om)))),λ_ _ M Q h=>?_];let[t,b,X,Y,p,q,ws,rfl,rfl,S,y,B,C,D,J,L]:=h;have g:(ws.map (L6 t b X Y)).length=ws.length:=by simp
 have one:(0:Int)<1/\(1:Int)<=10^6:=⋯
 have F:∀{z:Int},(0<=z/\z<=20)->(-(10^6)<=z/\z<=10^6):=λ{z} h=>()
 have bx:∀{z:Int},(0<=z/\z<=20)->LL 200 (LK t b X 1 z):=λ{z} h=>S.bx one (F h);have by':∀{z:Int},(0<=z/\z<=20)->LL 200 (LK t b Y 1 z):=λ{z} h=>S.by' one (F h)
 obtain⟨T,N⟩:∃T:Wl->Bool,∀w,T w=((!decide (LM (LK t b X 1 p) (LK t b Y 1 q) (LK t b X 1 w.1) (LK t b Y 1 w.2.1))&&decide (LM (LK t b X 1 p) (LK t b Y 1 q) (LK t b X 1 w.2.2.1) (LK t b Y 1 w.2.2.2)))&&decide (LP (LO (LK t b X 1 w.1) (LK t b Y 1 w.2.1) (LK t b X 1 w.2.2.1) (LK t b Y 1 w.2.2.2) (LK t b X 1 p) (LK t b Y 1 q))=1)):=#[_,λ_=>rfl];refine #[7,ws.map (L6 t b X Y),rfl,oQ (λj=>(ws[j]?).bind λw=>if T w=KN then KJ (L6 t b X Y w)else KL) (by show(ws.map (L6 t b X Y)).length<=1000000;rw[g];omega) (λ_ _ _=>rfl) ?_ (λG i=>?_)]
 .intro a d O V hd Z;let[w,I,rfl]:=fo hd;have W:=y _ (HE I);have R:((ws[a]?).bind λw=>if T w=KN then KJ (L6 t b X Y w)else KL)=if T w=KN then KJ (L6 t b X Y w)else KL:=by rw[I];rfl
  rw[R];refine #[7,λK r=>?_,λv hv K r=>?_]
  .have n:K (T w) O:=by cases z:T w<;>rw[z]at r<;>exact r
   rw[N]at n;exact xM _ _ (λU e=>#[7,7,200,_,_,_,_,_,7,rfl,bx W.a,by' W.b,bx W.c,by' W.d,bx C,by' D,⋯,7,e]) (λ_ U e=>#[7,7,200,_,_,_,_,_,7,rfl,bx W.a,by' W.b,bx W.c,by' W.d,bx C,by' D,⋯,7,e]) n
  .cases z:T w with
   |false=>rw[z]at hv;cases hv
   |true=>
    rw[z]at hv
    cases hv
    exact #[7,r _ .refl]
 dsimp only;rw[g,qp,gZ];exists 7,G,7,ag;by_cases u:ws.filter T=[]
 .rw[u];exact lW rfl #[_,.new i .refl,J]
 .refine rj (by
   cases z:ws.filter T with
   |nil=>exact absurd z u
   |cons a l=>rfl) ?_
  exact #[7,G,t,b,X,Y,ws.filter T,rfl,ag,S,λw x=>y w (Iw.mp x).1,u,λw x=>#[_,.new i .refl,L w (Iw.mp x).1]]
theorem h8:L0 ["plot","lands","corner","wall"] ["plot","lands","corner"] (ao fQ):=⋯
inductive NO:Prop
 |mk (t b X Y:Int) (ws:r3) (l:pd) (L:q_) (c:Vc) (_:sx=.tup (ws.map (L6 t b X Y))) (_:sy=.ref l) (_:s_=Lx t b X Y c) (_:M l=KJ (.lst (L.map D.int))) (_:L.length=2*ws.length) (_:MK t b X Y) (_:(∀w∈ws,Le w)) (_:PF ws) (_:ws.length<=40) (_:MD c) (_:∀n:Int,Q (.int n) M)
theorem nT(T:Tx K mg):Cal P w K mg base 7 "land_about" (QP NO):=by
 refine lY (k:=6) T.gy h8 λf _ _ _ s H _ o=>#[_,(aj (aB 3 h8.nd (ar (mG T).m o (ae (dv 0) (ae (dv 2) af)))) (aq (az (jT (aI El (dv 3) om) ai (ax (dv 1) (aw aH ai (sj (iK o) (dv 0) (ae (dv 3) af)))))))),λ_ _ _ M Q h=>?_];let[t,b,X,Y,ws,l,L,c,rfl,rfl,rfl,r,x,S,g,hF,a,p,k]:=h;refine #[7,7,t,b,X,Y,c.1,c.2,ws,rfl,rfl,S,g,a,p.1,p.2,?_,λw q=>?_]
 .exact #[7,7,7,rj rfl (Lf (k 0))]
 .obtain⟨n,j⟩:=List.getElem?_of_mem q;have tn:=(HC.mp j).1;have u:2*n<L.length:=()
  refine #[7,7,7,lW rfl ?_];refine #[7,7,7,7,_,QR t b X Y w,n,rfl,(by simp;omega),Pd.of rfl,rfl,λi y z hy=>?_,?_]
  .obtain⟨U,d,rfl⟩:=fo hy;exists QR t b X Y U,Pd.of rfl,rfl;by_cases e:i=n
   .subst e;rw[j]at d;cases d;rw[yJ,KS rfl]
   .rw[KR e];exact C5 S.t0 S.b0 (g _ (HE d)) (g _ q) (hF i n _ _ e d j).ne
  .refine #[aL (bM ⋯),_,_,r,(by rw[show(2:Int)*((n:Nat):Int)=((2*n:Nat):Int) by omega];exact bz (v:=D.int L[2*n]) (by rw[HF,Hy u];rfl)),Lf (k _)]
theorem aK:L0 ["plot","outers","inners","lands","number","ring","face","ring_at","corner","land"] ["plot"] (ao dh):=⋯
inductive MZ:Prop
 |mk (t b X Y:Int) (ws:r3) (_:sx=.tup (ws.map (L6 t b X Y))) (_:MK t b X Y) (_:ws.length<=40) (_:(∀w∈ws,Le w)) (_:PF ws) (_:∀(M':MH) (z:pd) (L:q_),SD.Sub M M'->M z=KL->M' z=KJ (.lst (L.map D.int))->L.length=2*ws.length->Q (.ref z) M')
theorem jF(T:Tx K mg):Cal P w K mg base 9 "lands_of_faces" (OM MZ):=by
 refine fH (k:=8) T.g_ aK λf cdv A outer s H E U=>#[_,(aj (bO (ar (iR T).m U (ae (dv 0) af)) (br rfl (aA (ay 1 aK.nd) (aA (ay 2 aK.nd) aU)))) (aj (aB 3 aK.nd (aw AN (bK (ae ai af)) (aw aH ai (aO cK rfl T.ma cG (ae (dv 0) af))))) (aj (bD HY rfl (xg rfl T.l4 (ae (dv 1) af)) (br rfl (aA (ay 4 aK.nd) (aA (ay 5 aK.nd) aU))) (aq (bD HY rfl (aN (dv 5)) (ay 6 aK.nd) (aq (bO (dv 4) (oj (dv 3) (dv 6))))))) (aj (vL 7 aK.nd (iK U) (L4.of (xs:=["ring"]) (js:=[0]) rfl) rfl (aN (dv 2)) (λ_ _ _ _=>bo) (λ_ _ _ _=>(ar (lz T).m U (ae (dv 1) (ae (dv 0) af)))) (λ_ _ _ _=>(dv 0))) (aj (bD HY rfl (aN (ar (hZ T).m U (ae (cQ (lj rfl) rfl T.mu kX (ae (dv 7) af)) af))) (ay 8 aK.nd) (aj (aB 9 aK.nd (ar (nT T).m U (ae (dv 0) (ae (dv 3) (ae (dv 8) af))))) (aq (bD HY rfl (aN (ja (iK U) (dv 7) (dv 8) (by intro _ _;with_unfolding_all rfl))) (ay 6 aK.nd) (aq (bO (dv 9) (oj (dv 3) (dv 6)))))))) (aq (az (dv 3)))))))),λ_ M Q h=>?_];let[t,b,X,Y,ws,rfl,S,N,hU,hF,k]:=h;have d0:(ws.map (L6 t b X Y)).length=ws.length:=by simp
 refine #[7,t,b,X,Y,ws,rfl,S,N,hU,hF,λW lo li ps qs m0 ins n0 hA m1 n1 ho hi RO RI o1 p1 q1=>?_];exists 7,rfl,_,7,_,7,rfl;have o0:∀r∈m0,Wk ws r:=λr U=>hA r (List.mem_append_left _ U);have c0:∀r∈ins,Wk ws r:=λr U=>hA r (Ia _ U);have r1:=RO.len;have s1:=RI.len;refine #[L8 rfl,λz0 q0=>#[7,aL (bM ⋯),.int 0,ag,by rw[d0];omega,by rw[d0];omega,λz hz=>?_]];have O:SD.Sub W (au (au W z0 (.lst [.int 0])) z (.lst (Im ((2:Int)*((ws.map (L6 t b X Y)).length:Nat)).toNat (.int 0)))):=.new hz (.new q0 .refl);have s0:(au (au W z0 (.lst [.int 0])) z (.lst (Im ((2:Int)*((ws.map (L6 t b X Y)).length:Nat)).toNat (.int 0)))) z=KJ (.lst ((Im (2*ws.length) (0:Int)).map D.int)):=by rw[ag,d0,show((2:Int)*(ws.length:Nat)).toNat=2*ws.length by omega,List.map_replicate]
 have nz:∀{a o},W a=KJ o->a≠z:=λh e=>by
  subst e
  have h0:=SD.Sub.new (o:=.lst [.int 0]) q0 .refl _ _ h
  rw[hz]at h0;cases h0
 have fz:M z=KL:=by
  cases e:M z with
  |none=>rfl
  |some o=>exact absurd rfl (nz (n0 _ _ e))
 generalize au (au W z0 (.lst [.int 0])) z (.lst (Im ((2:Int)*((ws.map (L6 t b X Y)).length:Nat)).toNat (.int 0)))=M2 at O s0 ⊢;(try dsimp only[SD.aW])
 refine dn (λδ n=>∃o4 o5 I:r_,δ=[KJ (.tup (ws.map (L6 t b X Y))),KJ (.ref lo),KJ (.ref li),KJ (.ref z),o4,o5,I,KL,KL,KL]/\(∀c,c≠z->n c=M2 c)/\∃L:q_,L.length=2*ws.length/\n z=KJ (.lst (L.map D.int))) ?_ (λhu=>?_);rotate_left
 .exists 7,lo,ps.map D.ref,rfl,O _ _ ho,λi δ n=>∃o4 o5 I:r_,δ=[KJ (.tup (ws.map (L6 t b X Y))),KJ (.ref lo),KJ (.ref li),KJ (.ref z),o4,o5,I,KL,KL,KL]/\(∀c,c≠z->n c=M2 c)/\∃L:q_,L.length=2*ws.length/\n z=KJ (.lst (L.map D.int)),#[_,_,7,λ_ _=>rfl,_,List.length_replicate ..,s0],λi δ n _ q=>by let[_,_,_,_,q,_]:=q;show n lo=_;rw[q lo (nz ho)];exact O _ _ ho,?_
  .rintro i d δ n hi hd ⟨o4,o5,I,rfl,kM,L,hL,F⟩;have hi:i<ps.length:=by have:i<(ps.map D.ref).length:=hi;simpa using this
   have hd:((ps.map D.ref)[i]?).map (λd=>D.tup [.int ((i+1:Nat):Int),d])=KJ d:=hd;rw[HF,Hy hi]at hd;cases hd;let[r,er,e0]:=RO.get hi;have A:=o0 r (HE er);have R:M2 ps[i]=KJ (.lst (r.map sg)):=O _ _ e0;exists 7,rfl,_,7,_,7,rfl;(try dsimp only[SD.aW])
   refine RH λB hB=>?_;exists 7,r.map sg,(by show n ps[i]=_;rw[kM _ (nz e0)];exact R),λj δ l=>∃I:r_,δ=[KJ (.tup (ws.map (L6 t b X Y))),KJ (.ref lo),KJ (.ref li),KJ (.ref z),KJ (.int ((i+1:Nat):Int)),KJ (.ref ps[i]),I,KL,KL,KL]/\(∀c,c≠z->l c=M2 c)/\∃L:q_,L.length=2*ws.length/\l z=KJ (.lst (L.map D.int)),#[7,kM,L,hL,F],λj δ l _ q=>by let[_,_,q,_]:=q;show l ps[i]=_;rw[q _ (nz e0)];exact R,?_
   .rintro j d δ l hj hd ⟨I,rfl,J,L',C,u⟩;have hj:j<r.length:=by have:j<(r.map sg).length:=hj;simpa using this
    have hd:(r.map sg)[j]?=KJ d:=hd;rw[HF,Hy hj]at hd;cases hd;refine #[7,7,7,_,r[j],u,uf (by rw[Hw,C];exact A.lt _ (IU hj)),?_];exact #[7,λc hc=>by rw[ak hc];exact J c hc,L'.set r[j] ((i+1:Nat):Int),by rw[List.length_set];exact C,by rw[ag,List.map_set]]
   .rintro δ l ⟨I,rfl,J,L',C,u⟩;exact hB _ _ #[_,_,7,J,L',C,u]
  .rintro δ n ⟨o4,o5,I,rfl,kM,L,hL,F⟩;exact hu _ _ #[_,_,7,kM,L,hL,F]
 rintro δ M3 ⟨o4,o5,I,rfl,b1,L3,c1,f0⟩;have G:∀{a o},W a=KJ o->M3 a=KJ o:=λ{a o} h=>by rw[b1 a (nz h)];exact O _ _ h
 refine #[7,qs.map D.ref,G hi,by show(qs.map D.ref).length<=900000;rw[Hw];omega,λp hp=>?_];have np:∀{a o},M3 a=KJ o->a≠p:=λh=>av h hp;exists λi kvs n=>(∃cs,QH t b X Y qs i kvs cs)/\n=au M3 p (MW kvs),#[#[_,QH.nil ..],rfl],λi kvs n _ q=>by let[_,rfl]:=q;show(au M3 p _) li=_;rw[ak (np (G hi))];exact G hi,?_
 .rintro i kvs d n y hd ⟨⟨cs,V⟩,rfl⟩;have y:i<qs.length:=by have:i<(qs.map D.ref).length:=y;simpa using this
  have hd:(qs.map D.ref)[i]?=KJ d:=hd;rw[HF,Hy y]at hd;cases hd;let[r,er,u0]:=RI.get y;have A:=c0 r (HE er);exists 7;dsimp only[SD.cB];refine jL ?_;refine #[7,7,t,b,X,Y,ws,qs[i],r,rfl,rfl,(by rw[ak (np (G u0))];exact G u0),S,hU,N,A.pos,A.lt,λc hc=>?_];exact #[7,gk t b X Y c,sJ ..,ag,by have:=V.len;have:=V.kl;omega,V.put S.t0 S.b0 hc (IU y),by rw[bg]]
 rintro kvs M4 ⟨⟨ks,V⟩,rfl⟩;have Z:(au M3 p (MW kvs)) z=KJ (.lst (L3.map D.int)):=by rw[ak (np f0)];exact f0
 have g0:∀{a o},W a=KJ o->(au M3 p (MW kvs)) a=KJ o:=λ{a o} h=>by rw[ak (np (G h))];exact G h
 have i0:(au M3 p (MW kvs)) p=KJ (MW kvs):=ag
 have fp:W p=KL:=by
  cases e:W p with
  |none=>rfl
  |some o=>rw[G e]at hp;cases hp
 generalize au M3 p (MW kvs)=M4 at Z g0 i0 ⊢;refine #[7,.inr #[p,kvs,rfl,i0,λp2 R=>?_]]
 have ek:kvs.map (λx=>OL x.1)=ks.map (Lx t b X Y):=by
  have:=congrArg (Jp OL) V.ks
  rw[Jb,Jb]at this
  exact this
 have kl:ks.length<=(qs.map D.ref).length:=V.len;rw[Hw]at kl;have kl:ks.length<=80:=()
 refine #[p2,t,b,X,Y,ks,rfl,(by rw[ag,ek]),S,(),V.bd,V.nd,λM5 zc cs d1 k0 v0 pm up=>?_];have a0:∀{a o},M4 a=KJ o->M5 a=KJ o:=λ{a o} h=>d1 _ _ (by rw[ak (av h R)];exact h);have e1:=a0 Z;have f1:=a0 i0;have g1:zc≠z:=λe=>by subst e;rw[ak (av Z R)]at k0;rw[Z]at k0;cases k0
 have i1:p≠z:=λe=>by subst e;rw[f0]at hp;cases hp
 exists _,v0;exists λi δ n=>∃I o8 o9:r_,δ=[KJ (.tup (ws.map (L6 t b X Y))),KJ (.ref lo),KJ (.ref li),KJ (.ref z),o4,o5,I,KJ (.ref p),o8,o9]/\(∀c,c≠z->n c=M5 c)/\∃L:q_,L.length=2*ws.length/\n z=KJ (.lst (L.map D.int)),#[_,_,7,λ_ _=>rfl,L3,c1,e1],λi δ n _ q=>by let[_,_,_,_,q,_]:=q;show n zc=_;rw[q zc g1];exact v0,?_
 .rintro i d δ n y hd ⟨j1,o8,o9,rfl,kM,L,hL,F⟩;have y:i<cs.length:=by have:i<(cs.map (Lx t b X Y)).length:=y;simpa using this
  have hd:(cs.map (Lx t b X Y))[i]?=KJ d:=hd;rw[HF,Hy y]at hd;cases hd;have w0:=pm.mem_iff.mp (IU y);let[q,hq,ev]:=V.vs _ w0;let[j,ej]:=List.getElem?_of_mem hq;let[k1,ej]:=HC.mp ej;subst ej;let[r,er,x0]:=RI.get k1;have A:=c0 r (HE er);have y0:M5 qs[j]=KJ (.lst (r.map sg)):=a0 (g0 x0);have a1:=nz x0;(try dsimp only[SD.aW])
  refine RH λB hB=>?_;refine #[7,7,7,t,b,X,Y,ws,z,L,cs[i],rfl,rfl,rfl,F,hL,S,hU,hF,N,V.bd _ w0,λv=>?_];refine #[7,7,p,kvs,gk t b X Y cs[i],.ref qs[j],rfl,sJ ..,(by rw[kM p i1];exact f1),ev,r.map sg,(by show n qs[j]=_;rw[kM _ a1];exact y0),?_];exists λa δ l=>∃I:r_,δ=[KJ (.tup (ws.map (L6 t b X Y))),KJ (.ref lo),KJ (.ref li),KJ (.ref z),o4,o5,I,KJ (.ref p),KJ (Lx t b X Y cs[i]),KJ (.int v)]/\(∀c,c≠z->l c=M5 c)/\∃L:q_,L.length=2*ws.length/\l z=KJ (.lst (L.map D.int)),#[7,kM,L,hL,F],λa δ l _ q=>by let[_,_,q,_]:=q;show l qs[j]=_;rw[q _ a1];exact y0,?_
  .rintro a d δ l ha hd ⟨I,rfl,J,L',C,u⟩;have ha:a<r.length:=by have:a<(r.map sg).length:=ha;simpa using this
   have hd:(r.map sg)[a]?=KJ d:=hd;rw[HF,Hy ha]at hd;cases hd;refine #[7,7,7,_,r[a],u,uf (by rw[Hw,C];exact A.lt _ (IU ha)),?_];exact #[7,λc hc=>by rw[ak hc];exact J c hc,L'.set r[a] v,by rw[List.length_set];exact C,by rw[ag,List.map_set]]
  .rintro δ l ⟨I,rfl,J,L',C,u⟩;exact hB _ _ #[_,_,7,J,L',C,u]
 .rintro δ n ⟨j1,o8,o9,rfl,kM,L,hL,F⟩;refine #[7,Lf (k n _ _ (λa o h=>?_) fz F hL)];have h1:=n0 _ _ h;rw[kM a (nz h1)];exact a0 (g0 h1)
theorem mx:L0 ["plot"] ["plot"] (ao fm):=⋯
inductive NG:Prop
 |mk (t b X Y:Int) (ws:r3) (_:sx=.tup (ws.map (L6 t b X Y))) (_:MK t b X Y) (_:ws.length<=40) (_:(∀w∈ws,Le w)) (_:∀(M':MH) (z:pd) (as:rq),SD.Sub M M'->M' z=KJ (.lst (as.map D.ref))->as.length=ws.length->(∀(i:Nat) a w,as[i]?=KJ a->ws[i]?=KJ w->M' a=KJ (.lst (ws.map λv=>D.bl (Ll w v))))->Q (.ref z) M')
theorem mJ(T:Tx K mg):Cal P w K mg base 5 "above_table" (OM NG):=by
 refine fH (k:=4) T.hH mx λf _ _ _ s H _ W=>#[_,(aq (az (bN (L4.of (xs:=["one"]) (js:=[0]) rfl) rfl (aN (dv 0)) (λ_ _ _ _=>bo) (λ_ _ _ _=>(bN (L4.of (xs:=["other"]) (js:=[0]) rfl) rfl (aN (dv 1)) (λ_ _ _ _=>bo) (λ_ _ _ _=>(ar (lE T).m W (ae (dv 1) (ae (dv 0) af))))))))),λ_ M Q h=>?_];let[t,b,X,Y,ws,rfl,S,J,L,k]:=h;refine #[7,ws.map (L6 t b X Y),rfl,by show(ws.map (L6 t b X Y)).length<=1000000;rw[Hw];omega,λz N=>?_];exists λi x n=>∃c:rq,c.length=i/\x=c.map D.ref/\SD.Sub M n/\n z=KJ (.lst x)/\∀(j:Nat) a w,c[j]?=KJ a->ws[j]?=KJ w->n a=KJ (.lst (ws.map λv=>D.bl (Ll w v)))/\a≠z,#[[],rfl,rfl,.new N .refl,ag,λj a w h=>by simp at h],λi x n _ q=>rfl,?_
 .rintro i x d n hi hd ⟨c,B,rfl,C,g,F⟩;let[w,O,rfl]:=fo hd;exists 7;dsimp only[SD.cB];refine jL ?_;refine #[7,ws.map (L6 t b X Y),rfl,comp_map (λj=>((ws.map λv=>D.bl (Ll w v))[j]?).getD .non) (by show(ws.map (L6 t b X Y)).length<=1000000;rw[Hw];omega) (λp x hp=>rfl) ?_ (λq G=>?_)]
  .intro j e M6 hj Z a0;let[v,R,rfl]:=fo Z;refine #[7,λK hK=>?_];have y:=hK _ .refl;rw[getD_map R]at y;exact #[7,7,t,b,X,Y,w,v,rfl,rfl,S,L w (HE O),L v (HE R),y]
  .dsimp only
   have e:(HK (ws.map (L6 t b X Y)).length).map (λj=>((ws.map λv=>D.bl (Ll w v))[j]?).getD .non)=ws.map λv=>D.bl (Ll w v):=by
    have:=SD.range_getD (ws.map λv=>D.bl (Ll w v))
    rw[Hw]at this ⊢
    exact this
   rw[e];have u:z≠q:=av g G;have I:(au n q (.lst (ws.map λv=>D.bl (Ll w v)))) z=KJ (.lst (c.map D.ref)):=by rw[ak u];exact g
   refine #[_,.refl,I,c++[q],by simp[B],by simp,λa o h=>?_,ag,λj a v r hv=>?_]
   .rw[ak (av h N),ak (av (C _ _ h) G)];exact C _ _ h
   .rcases Nat.lt_or_ge j c.length with l|l
    .rw[IB l]at r;let[U,V]:=F j a v r hv;exact #[by rw[ak V,ak (av U G)];exact U,V]
    .rw[Iz l]at r
     have ej:j=i:=by
      have:=(HC.mp r).1
      simp at this;omega
     subst ej;rw[B,Nat.sub_self]at r;cases r;rw[O]at hv;cases hv;exact #[by rw[ak u.symm];exact ag,u.symm]
 .rintro x n ⟨c,B,rfl,C,g,F⟩;exact Lf (k n z c C g (by rw[B];exact Hw ..) λi a w r hw=>(F i a w r hw).1)
theorem cx:L0 ["plot","ends","above","left","rows","row"] ["plot","ends"] (ao cO):=⋯
def lq:Str:=(Kv "layers_of" (ao cO) 0 0 .none).qual++"<lambda>"
abbrev Tb(M:MH):Prop:=bW lq 372 #[264,36,264,62] M
def dS:Lz:=λe M Q=>match e with
 |[u,v]=>∃(t b X Y:Int) (ws:r3) (ps:List Vc) (l:pd),u=.tup (ws.map (L6 t b X Y))/\v=.ref l/\MK t b X Y/\ws.length<=40/\(∀w∈ws,Le w)/\PF ws/\M l=KJ (.lst (ws.map (ON ps)))/\ps.Pairwise MV/\(∀w∈ws,ea w∈ps)/\Tb M/\
  ∀(a:MH) (z:pd) (c:rq) (d:List (q_)),dg 372 M a->M z=KL->a z=KJ (.lst (c.map D.ref))->NI a c d->Lay ws ((HK ws.length).map λk:Nat=>(k:Int)) d->c.length<=ws.length->Tb a->Q (.ref z) a
 |_=>False
theorem oC:∀a M Q,dS a M Q->a.length=2:=λa M Q h=>by
 unfold dS at h;split at h
 .rfl
 .exact h.elim
def nZ(d:D):Lz:=λa M Q=>match a with
 |[x]=>∃(l:pd) (ws:r3) (ps:List Vc) (k:Int) (w:Wl),d=.ref l/\x=.int k/\M l=KJ (.lst (ws.map (ON ps)))/\0<=k/\ws[k.toNat]?=KJ w/\Q (.int (Mw ps (ea w):Int)) M
 |_=>False
theorem BY(d:D):∀a M Q,nZ d a M Q->a.length=1:=λa M Q h=>by
 unfold nZ at h;split at h
 .rfl
 .exact h.elim
theorem qw(T:Tx K mg):Cal P w K mg base 6 "layers_of" dS:=by
 refine E1 (k:=5) (N:=["plot","ends","above","left","rows","row"]) (ps:=["plot","ends"]) T.fc_layers_of cx (λ_ _ _ _ _ _ us hl=>match us,hl with|[_,_],_=>rfl) oC λf A outer s H E hr=>#[_,(aj (aB 2 cx.nd (ar (mJ T).m hr (ae (dv 0) af)))
  (aj (aB 3 cx.nd (pf rfl T.mu T.nq (ae (aO cK rfl T.ma cG (ae (dv 0) af)) af)))
  (aj (aB 4 cx.nd (bK af))
  (aj (d6 HY (yy (dv 3)) (aj (aB 5 cx.nd (bN (L4.of (xs:=["wall"]) (js:=[3,2]) rfl) rfl (aN (dv 3)) (λ_ _ _ _=>(iW (nP (dH (aO (C0 rfl) rfl T.lg Eb (ae (bN (L4.of (xs:=["other"]) (js:=[2,0]) rfl) rfl (aN (dv 1)) (λ_ _ _ _=>bo) (λ_ _ _ _=>(ax (ax (dv 1) (dv 2)) (dv 0)))) af)))))) (λ_ _ _ _=>(dv 0))))
  (aj (cu (bQ (dv 4) (ae (kf (k:=2) (lx:="wall") (y:="ends") (Pt:=372) (spg:=nZ) 1 rfl T.lm_layers_of (by refine #[rfl,rfl,rfl,⋯,rfl,rfl,?_,?_]<;>decide) (λ_ _ _ _ _ _ _=>rfl) BY (λbase g c c' d2 A outer s H hr=>#[_,(ax (ax (dv 1) (dv 0)) ai),λd1 M Q h=>?l]) hr T.n7 (ae (dv 5) af)) af)))
  (aq (aB 3 cx.nd (bN (L4.of (xs:=["wall"]) (js:=[5]) rfl) rfl (aN (dv 3)) (λ_ _ _ _=>(iW (aI (jn (iK hr)) (dv 0) (dv 1) (by with_unfolding_all rfl)))) (λ_ _ _ _=>(dv 0))))))))
  (aq (az (dv 4))))))),λds M Q h=>?r]
 case l=>
  unfold nZ at h
  let[l,ws,ps,k',w',rfl,rfl,hl,h0,hw,k]:=h
  obtain⟨j,rfl⟩:∃j:Nat,k'=(j:Int):=#[k'.toNat,(Int.toNat_of_nonneg h0).symm]
  have hw:ws[j]?=KJ w':=hw
  have ek:(ws.map (ON ps))[j]?=KJ (ON ps w'):=by rw[HF,hw];rfl
  exact #[7,7,_,_,hl,bz ek,7,k]
 case r=>
  unfold dS at h
  split at h
  case h_2=>exact h.elim
  let[t,b,X,Y,ws,ps,l,rfl,rfl,S,o0,hU,hF,hl,pw,b2,hT,k]:=h
  refine #[7,t,b,X,Y,ws,rfl,S,o0,hU,λM1 tb ab e1 d0 c2 fe=>?_]
  have e0:(ws.map (L6 t b X Y)).length=ws.length:=Hw ..
  refine #[7,7,by rw[e0];omega,λI u=>?_]
  rw[e0]
  have b0:SD.Sub M (au M1 I (.lst ((HK ws.length).map λi:Nat=>D.int (i:Int)))):=.new u e1
  have W:=Sub.new (o:=.lst ((HK ws.length).map λi:Nat=>D.int (i:Int))) u .refl tb _ d0
  have i0:∀(i:Nat) a w,ab[i]?=KJ a->ws[i]?=KJ w->(au M1 I (.lst ((HK ws.length).map λi:Nat=>D.int (i:Int)))) a=KJ (.lst (ws.map λv=>D.bl (Ll w v))):=λi a w h1 h2=>Sub.new u .refl _ _ (fe i a w h1 h2)
  have Z:(au M1 I (.lst ((HK ws.length).map λi:Nat=>D.int (i:Int)))) I=KJ (.lst (((HK ws.length).map λk:Nat=>(k:Int)).map D.int)):=by rw[ag,Jb];rfl
  generalize au M1 I (.lst ((HK ws.length).map λi:Nat=>D.int (i:Int)))=M2 at b0 W i0 Z ⊢
  clear fe d0 u e1 M1
  refine #[L8 rfl,λB R=>?_]
  have i1:=gQ b0 R
  have c0:SD.Sub M2 (au M2 B (.lst [])):=.new R .refl
  have e2:B≠372:=(hT.sub b0).neN R
  (try dsimp only[SD.aW])
  refine #[λm δ O=>∃(I:pd) (fs:q_) (G:rq) (rs:List (q_)) (o5:r_),δ=[KJ (.tup (ws.map (L6 t b X Y))),KJ (.ref l),KJ (.ref tb),KJ (.ref I),KJ (.ref B),o5]/\dg 372 M O/\O tb=KJ (.lst (ab.map D.ref))/\tb≠B/\(∀(i:Nat) a w,ab[i]?=KJ a->ws[i]?=KJ w->O a=KJ (.lst (ws.map λv=>D.bl (Ll w v)))/\a≠B)/\O I=KJ (.lst (fs.map D.int))/\I≠B/\O B=KJ (.lst (G.map D.ref))/\B∉G/\NI O G rs/\(∀z,Lay ws fs z->Lay ws ((HK ws.length).map λk:Nat=>(k:Int)) (rs++z))/\Fs ws fs/\Tb O/\G.length+fs.length<=ws.length/\m=fs.length,#[_,I,_,[],[],KL,rfl,(Sub.trans b0 c0).yK,c0 _ _ W,av W R,λi a w h1 h2=>#[c0 _ _ (i0 i a w h1 h2),av (i0 i a w h1 h2) R],c0 _ _ Z,av Z R,ag,by simp,.nil,λz h=>h,kT (rs:=[]) (by simp),(hT.sub b0).sub c0,by simp,rfl],?_]
  clear Z i0 W b0 c0 R I
  rintro m δ O ⟨I,fs,G,rs,o5,rfl,st,d0,j1,fe,u,f2,hz,m1,hR,t0,F,u0,n1,rfl⟩
  exists 7,I,7,u
  cases fs with
  |nil=>
   refine lW (by rfl) ?_
   exact #[7,Lf (k O B G rs st i1 hz hR (by simpa using t0 [] .nil) ‹n1› u0)]
  |cons x0 o1=>
   refine rj (by rfl) ?_
   let[k0,m0,kl]:=xj hU hF F (by simp)
   have p1:x0::o1≠[]:=by simp
   generalize w2:x0::o1=fs at u m0 kl n1 t0 F p1 ⊢
   have J:=F.b
   have v2:fs.length<=40:=ID F.len o0
   have bI:∀(a:Int) (pp:Int->Bool),(KJ a).bind (λa=>if pp a=KN then KJ (D.int a)else KL)=if pp a=KN then KJ (D.int a)else KL:=λ_ _=>rfl
   refine #[7,fs.map D.int,u,uo (λj=>(fs[j]?).bind λa=>if aS ws fs a=KN then KJ (.int a)else KL) (by show(fs.map D.int).length<=1000000;simp;omega) (λp ys hp=>by show(au O p _) I=_;rw[ak (av u hp)];exact u) ?_ (λU q1=>?_)]
   .intro a d M8 ha hd v0;let[one,ea,rfl]:=fo hd;have L:=HE ea;have w0:=v0 I _ u;let[k1,k2,k3]:=aQ (J one L).1 (J one L).2;obtain⟨j,rfl⟩:∃j:Nat,one=(j:Int):=#[one.toNat,(Int.toNat_of_nonneg (J one L).1).symm];have k1:ws[j]?=KJ (L7 ws (j:Int)):=k1;have hj:j<ab.length:=by rw[c2];have:=(J _ L).2;omega
    have f1:=(fe j _ _ (Hy hj) k1).1;refine #[7,λK hK=>?_,λe M9 _ he K hK=>?_]
    .rw[ea,bI (j:Int) λa=>aS ws fs a]at hK;refine #[7,fs.map D.int,w0,comp_map (λi=>((fs.map λo=>D.bl (Ll (L7 ws (j:Int)) (L7 ws o)))[i]?).getD .non) (by show(fs.map D.int).length<=1000000;simp;omega) (λp ys hp=>by show(au M8 p _) I=_;rw[ak (av w0 hp)];exact w0) ?_ (λp2 i2=>?_)]
     .intro a2 d2 M9 x2 m2 n0;let[two,r1,rfl]:=fo m2;have y0:=HE r1;let[t1,t2,t3]:=aQ (J two y0).1 (J two y0).2;refine #[7,λK2 n2=>?_];have q0:=n2 _ .refl;rw[getD_map r1]at q0;obtain⟨j2,rfl⟩:∃j2:Nat,two=(j2:Int):=#[two.toNat,(Int.toNat_of_nonneg (J two y0).1).symm];have t1:ws[j2]?=KJ (L7 ws (j2:Int)):=t1;exact #[7,7,_,.ref ab[j],n0 _ _ (v0 _ _ d0),bz (by rw[HF,Hy hj];rfl),7,_,_,n0 _ _ (v0 _ _ f1),bz (by rw[HF,t1];rfl),q0]
     .dsimp only
      have e:(HK (fs.map D.int).length).map (λi=>((fs.map λo=>D.bl (Ll (L7 ws (j:Int)) (L7 ws o)))[i]?).getD .non)=(fs.map λo=>Ll (L7 ws (j:Int)) (L7 ws o)).map D.bl:=by
       have:=SD.range_getD (fs.map λo=>D.bl (Ll (L7 ws (j:Int)) (L7 ws o)))
       rw[Hw]at this ⊢
       rw[this,Jb];rfl
      rw[e];exists _,ag,7;have u1:=hK (au M8 p2 (.lst ((fs.map λo=>Ll (L7 ws (j:Int)) (L7 ws o)).map D.bl))) (.new i2 .refl);have ee:(!((fs.map λo=>Ll (L7 ws (j:Int)) (L7 ws o)).any id))=aS ws fs (j:Int):=by unfold aS;rw[List.any_map,Bool.eq_iff_iff];simp
      rw[ee];cases z:aS ws fs (j:Int)<;>rw[z]at u1<;>exact u1
    .rw[ea,bI (j:Int) λa=>aS ws fs a]at he;cases z:aS ws fs (j:Int)with
     |false=>rw[z]at he;cases he
     |true=>
      rw[z]at he
      cases he
      exact #[7,hK _ .refl]
   .dsimp only;rw[oH];have C:SD.Sub O (au O U (.lst ((fs.filter (aS ws fs)).map D.int))):=.new q1 .refl;have f0:(au O U (.lst ((fs.filter (aS ws fs)).map D.int))) U=KJ (.lst ((fs.filter (aS ws fs)).map D.int)):=ag;have o2:U≠B:=(av hz q1).symm;generalize au O U (.lst ((fs.filter (aS ws fs)).map D.int))=M5 at C f0 ⊢;have z0:=u0.sub C;have q2:M5 l=KJ (.lst (ws.map (ON ps))):=C _ _ (st _ _ (hT.neL hl) hl);have Yc:(fs.filter (aS ws fs)).length<=fs.length:=List.length_filter_le _ _;exists 7,B,G.map D.ref,rfl,C _ _ hz;refine #[7,U,(fs.filter (aS ws fs)).map D.int,((fs.filter (aS ws fs)).map λa=>(Mw ps (ea (L7 ws a)):Int)).map D.int,_,.ref l,rfl,f0,z0.neL f0,rfl,z0,by simp,.nums (Hw ..) (by rw[Hw];omega),λi d n M6 Q' hd hn s6 q=>?_,λp y2 M6 v1 ho r2 s6=>?_]
    .obtain⟨a,ha,rfl⟩:=fo hd;rw[Jb,HF,ha]at hn;cases hn;have L:=HE ha;have b:=J a (Iw.mp L).1;exact #[l,ws,ps,a,L7 ws a,rfl,rfl,s6 _ _ (hT.neL hl) q2,b.1,(aQ b.1 b.2).1,q]
    .obtain⟨sr,rfl,hb⟩:=ho;have pr:sr.Perm (fs.filter (aS ws fs)):=hb.perm (Hw ..);have s2:=BQ hU hF F pw b2 pr hb.up;have V:M6 B=KJ (.lst (G.map D.ref)):=s6 _ _ e2 (C _ _ hz)
     have u2:sr≠[]:=λe=>by
      rw[e]at pr
      have:=Iw.mpr #[m0,kl]
      rw[List.nil_perm.mp pr]at this
      cases this
     have w1:p≠B:=λe=>by
      subst e
      rw[v1]at V
      have V:sr.map D.int=G.map D.ref:=by injection V with h;injection h
      cases sr with
      |nil=>exact u2 rfl
      |cons s0 s1=>
       cases G with
       |nil=>cases V
       |cons a0 a1=>simp at V
     refine #[_,7,V,by rw[Hw];omega,?_];have Oi:dg 372 O M6:=λa o na e=>s6 _ _ na (C _ _ e);have kM:∀a (ds:r8),a≠B->O a=KJ (.lst ds)->(au M6 B (.lst (G.map D.ref++[.ref p]))) a=KJ (.lst ds):=λa ds na e=>by rw[ak na];exact Oi _ _ (u0.neL e) e
     have x1:(au M6 B (.lst (G.map D.ref++[.ref p]))) p=KJ (.lst (sr.map D.int)):=by rw[ak w1];exact v1
     have y1:(au M6 B (.lst (G.map D.ref++[.ref p]))) U=KJ (.lst ((fs.filter (aS ws fs)).map D.int)):=by rw[ak o2];exact s6 _ _ (z0.neL f0) f0
     have b1:(au M6 B (.lst (G.map D.ref++[.ref p]))) B=KJ (.lst ((G++[p]).map D.ref)):=by rw[ag,Iu];rfl
     have z1:Tb (au M6 B (.lst (G.map D.ref++[.ref p]))):=r2.upd V;have Mv:dg 372 M (au M6 B (.lst (G.map D.ref++[.ref p]))):=λa o na e=>by rw[ak (av e i1)];exact Oi _ _ na (st _ _ na e)
     generalize au M6 B (.lst (G.map D.ref++[.ref p]))=M7 at kM x1 y1 b1 z1 Mv ⊢;have g0:=kM I _ f2 u;refine #[7,fs.map D.int,g0,oQ (λj=>(fs[j]?).bind λa=>if(!aS ws fs a)=KN then KJ (.int a)else KL) (by show(fs.map D.int).length<=1000000;simp;omega) (λp ys hp=>by show(au M7 p _) I=_;rw[ak (av g0 hp)];exact g0) ?_ (λq hq=>?_)]
     .intro i d M9 hi hd n0;let[one,c1,rfl]:=fo hd;have L:=HE c1;refine #[7,λK hK=>?_,λe he K hK=>?_]
      .rw[c1,bI one λa=>!aS ws fs a]at hK;refine #[7,7,uC one (λb=>!b) _ (n0 _ _ y1) #[7,?_]]
       have ee:((fs.filter (aS ws fs)).any λz=>z==one)=aS ws fs one:=by
        rw[Bool.eq_iff_iff,List.any_eq_true];constructor
        .rintro⟨x,hx,e⟩;rw[<-eq_of_beq e];exact(Iw.mp hx).2
        .exact λh=>#[one,Iw.mpr #[L,h],beq_self_eq_true _]
       rw[ee];cases z:aS ws fs one<;>rw[z]at hK<;>exact hK
      .rw[c1,bI one λa=>!aS ws fs a]at he;cases z:aS ws fs one with
       |true=>rw[z]at he;cases he
       |false=>
        rw[z]at he
        cases he
        exact #[7,hK _ .refl]
     .dsimp only;rw[oH fs λa=>!aS ws fs a];have kL:∀a (ds:r8),M7 a=KJ (.lst ds)->(au M7 q (.lst ((fs.filter λa=>!aS ws fs a).map D.int))) a=KJ (.lst ds):=λa ds e=>by rw[ak (av e hq)];exact e
      refine #[_,kZ #[k0,m0,kl],q,fs.filter λa=>!aS ws fs a,G++[p],rs++[sr],7,dg.trans Mv (Sub.yK (.new hq .refl)),kL _ _ (kM _ _ j1 d0),j1,λi a w h1 h2=>?_,ag,(av b1 hq).symm,kL _ _ b1,?_,?_,Lay.step t0 p1 pr s2,F.filter _,z1.new hq,by have:=kZ (p:=aS ws fs) #[k0,m0,kl];rw[IJ,List.length_singleton];omega,rfl]
      .obtain⟨g1,g2⟩:=fe i a w h1 h2;exact #[kL _ _ (kM _ _ g2 g1),g2]
      .simp only[HX,J8,not_or];exact #[m1,λe=>w1 e.symm]
      .exact(hR.to λa ds ha e=>kL _ _ (kM _ _ (λz=>m1 (z▸ha)) e)).more (kL _ _ x1)
theorem aZ:L0 ["things","guides","low","high","middle","word","number","before","past"] ["things","guides","low","high"] (ao dF):=⋯
def nL(n:Nat):Lz:=λf M Q=>match f with
 |[x,y,l,h]=>∃(p q:pd) (a e:r8) (c b:Nat),x=.ref p/\y=.ref q/\l=.int (c:Int)/\h=.int (b:Int)/\M p=KJ (.lst a)/\M q=KJ (.lst e)/\(∀d∈a,∃(x:Str) (k:Nat),d=.tup [.str x,.int (k:Int)])/\e.length=a.length+1/\a.length<=100/\c<=b/\b<=a.length/\b-c<2^n/\∀d,Q d M
 |_=>False
theorem A8(n:Nat):∀a M Q,nL n a M Q->a.length=4:=λa M Q h=>by
 unfold nL at h;split at h
 .rfl
 .exact h.elim
def jO:Lz:=nL 7
theorem Ej(T:Tx K mg):∀n:Nat,Cal P w K mg base (n+1) "guide_between" (nL n)
 |0=>by
  refine vz (k:=0) T.hQ aZ (λ_ _ _ _ _ _ us t=>match us,t with|[_,_,_,_],_=>rfl) (A8 0) λf cdv A outer s H E j=>#[_,(aj (bw (aI (bX j.units) (dv 2) (dv 3)) (aq (az (ax (dv 1) (dv 2)))) aP) vV),λF M Q h=>?r]
  case r=>
   unfold nL at h
   split at h
   case h_2=>exact h.elim
   let[p,q,i,g,a,d,rfl,rfl,rfl,rfl,m,l,o,u,b,le,lt,y,k]:=h
   have e:a=d:=by simp at y;omega
   subst e
   refine #[7,7,7,rj (KS rfl) ?_]
   have v:g[a]?=KJ g[a]:=Hy ()
   exact #[7,7,_,_,l,bz v,Lf (k _)]
 |n+1=>by
  have z:=Ej T n
  refine vz (k:=n+1) (N:=["things","guides","low","high","middle","word","number","before","past"]) (ps:=["things","guides","low","high"]) T.hQ aZ (λ_ _ _ _ _ _ us t=>match us,t with|[_,_,_,_],_=>rfl) (A8 (n+1)) λf cdv A outer s H E j=>#[_,(aj (bw (aI (bX j.units) (dv 2) (dv 3)) (aq (az (ax (dv 1) (dv 2)))) aP)
   (aj (aB 4 aZ.nd (aw gh (aw aR (dv 2) (dv 3)) ai))
   (aj (bO (ax (dv 0) (dv 4)) (br rfl (aA (ay 5 aZ.nd) (aA (ay 6 aZ.nd) aU))))
   (aj (aB 7 aZ.nd (ar z j (ae (dv 0) (ae (dv 1) (ae (dv 2) (ae (dv 4) af))))))
   (aj (aB 8 aZ.nd (ar z j (ae (dv 0) (ae (dv 1) (ae (aw aR (dv 4) ai) (ae (dv 3) af))))))
   (aq (az (aE (ae ft (ae (dv 5) (ae (dv 6) (ae (dv 7) (ae (dv 8) af))))))))))))),λF M Q h=>?r]
  case r=>
   unfold nL at h
   split at h
   case h_2=>exact h.elim
   let[p,q,i,g,a,d,rfl,rfl,rfl,rfl,m,l,o,u,b,le,lt,y,k]:=h
   exists 7,7,7
   refine bF (λe=>?_) (λe=>?_)
   .have e:a=d:=by have:(a:Int)=(d:Int):=‹e›;omega
    subst e
    have v:g[a]?=KJ g[a]:=Hy ()
    exact #[7,7,_,_,l,bz v,Lf (k _)]
   have e:a<d:=by have:¬(a:Int)=(d:Int):=‹e›;omega
   (try dsimp only[SD.aW])
   have B:((a:Int)+(d:Int)).fdiv 2=(((a+d)/2:Nat):Int):=by rw[IK _ ⋯];omega
   generalize C:(a+d)/2=c at B
   have D:i[c]?=KJ i[c]:=Hy ()
   let[x,I,G]:=o _ (IU (():c<i.length))
   exists 7,7,#[⋯,bM ⋯]
   dsimp only
   rw[B]
   rw[G]at D
   have J:2^(n+1)=2^n*2:=Nat.pow_succ ..
   exists 7,7,_,_,m,bz D,7,rfl,_,7,_,7,rfl
   refine #[7,7,7,7,p,q,i,g,a,c,rfl,rfl,rfl,rfl,m,l,o,u,b,(),(),(),λL=>?_]
   refine #[7,7,7,7,p,q,i,g,c+1,d,rfl,rfl,rfl,rfl,m,l,o,u,b,(),(),(),λO=>?_]
   exact #[7,7,7,7,L8 rfl,Lf (k _)]
theorem kh(T:Tx K mg):Cal P w K mg base 8 "guide_between" jO:=Ej T 7
theorem g9:L0 ["things","guides"] ["things","guides"] (ao cJ):=⋯
inductive ML(x y:D)(M:MH)(Q:DK):Prop
 |mk (p q:pd) (ts gs:r8) (_:x=.ref p) (_:y=.ref q) (_:M p=KJ (.lst ts)) (_:M q=KJ (.lst gs)) (_:(∀d∈ts,∃(x:Str) (k:Nat),d=.tup [.str x,.int (k:Int)])) (_:gs.length=ts.length+1) (_:ts.length<=100) (_:∀d,Q d M)
theorem iG(T:Tx K mg):Cal P w K mg base 9 "guide_by_halving" (ME ML):=by refine a9 (k:=8) T.hV g9 λf _ _ _ s H _ e=>#[_,(aq (az (ar (kh T).m e (ae (dv 0) (ae (dv 1) (ae ai (ae (aO cK rfl T.ma cG (ae (dv 0) af)) af))))))),λ_ _ M Q h=>?_];let[p,q,b,g,rfl,rfl,c,i,j,l,a,k]:=h;exact #[7,7,7,_,c,p,q,b,g,0,b.length,rfl,rfl,rfl,rfl,c,i,j,l,a,J3 _,HD _,(),λd=>Lf (k d)]
theorem fE:L0 ["wall","ends","lands","below","at_wall"] ["wall","ends","lands","below"] (ao dD):=⋯
inductive Mn(x y z d:D)(M:MH)(Q:DK):Prop
 |mk (k e f:Nat) (p q:pd) (es ls:r8) (v:D) (_:x=.int (k:Int)) (_:y=.ref p) (_:z=.ref q) (_:M p=KJ (.lst es)) (_:M q=KJ (.lst ls)) (_:es[k]?=KJ (.tup [.int (e:Int),.int (f:Int)])) (_:ls[2*k]?=KJ v) (_:∀d',Q d' M)
theorem kH(T:Tx K mg):Cal P w K mg base 1 "guide_of_wall" (We Mn):=by refine xJ (k:=0) T.hW fE λf _ _ _ s H _ j=>#[_,(aj (aB 4 fE.nd (aE (ae ft (ae ft (ae (dv 0) (ae (dv 3) (ae (aE (ae ft (ae (aE (ae ft (ae (ax (dv 2) (aw aH ai (dv 0))) af))) af))) af))))))) (aq (az (aE (ae ft (ae ft (ae (ax (ax (dv 1) (dv 0)) ai) (ae (dv 4) (ae (dv 3) af))))))))),λ_ _ _ _ M Q h=>?_];let[k,e,f,p,q,l,a,v,rfl,rfl,rfl,b,c,d,g,i]:=h;exists 7,7,7,7,aL (bM ⋯),_,_,c,(show atI a (2*(k:Int))=_ from by rw[show 2*(k:Int)=((2*k:Nat):Int) by omega];exact bz g),L8 rfl,L8 rfl,L8 rfl;exact #[7,7,_,_,b,bz d,7,7,7,L8 rfl,Lf (i _)]
theorem eY:L0 ["row","ends","lands","below","things"] ["row","ends","lands","below"] (ao c9):=⋯
inductive Md(x y z d:D)(M:MH)(Q:DK):Prop
 |mk (r p q:pd) (ks:q7) (ws:r3) (ps:List Vc) (L:q_) (_:x=.ref r) (_:y=.ref p) (_:z=.ref q) (_:M r=KJ (.lst (ks.map λk:Nat=>D.int (k:Int)))) (_:M p=KJ (.lst (ws.map (ON ps)))) (_:M q=KJ (.lst (L.map D.int))) (_:ks.length<=40) (_:(∀k∈ks,k<ws.length)) (_:(∀w∈ws,ea w∈ps/\eb w∈ps)) (_:L.length=2*ws.length) (_:∀d' M',SD.Sub M M'->Q d' M')
theorem jq(T:Tx K mg):Cal P w K mg base 10 "guide_of_layer" (We Md):=by
 refine xJ (k:=9) T.hY eY λf _ _ _ s H _ O=>#[_,(aj (dC 4 eY.nd (L4.of (xs:=["wall"]) (js:=[1]) rfl) rfl (aN (dv 0)) (λ_ _ _ _=>bo) (λ_ _ _ _=>(aE (ae ft (ae (ax (ax (dv 1) (dv 0)) ai) af))))) (aq (az (ar (iG T).m O (ae (dv 4) (ae (aw aR (bK (ae (dv 3) af)) (bN (L4.of (xs:=["wall"]) (js:=[1,2,3]) rfl) rfl (aN (dv 0)) (λ_ _ _ _=>bo) (λ_ _ _ _=>(ar (kH T).m O (ae (dv 0) (ae (dv 1) (ae (dv 2) (ae (dv 3) af)))))))) af)))))),λ_ _ _ _ M Q h=>?_];let[r,p,q,ks,ws,ps,L,rfl,rfl,rfl,c,R,Z,hl,S,he,hL,k]:=h;rename_i d0;have u:(ks.map λk:Nat=>D.int (k:Int)).length=ks.length:=Hw ..
 have U:∀k,k∈ks->(ws.map (ON ps))[k]?=KJ (ON ps (L7 ws (k:Int)))/\L7 ws (k:Int)∈ws:=λk hm=>by
  let[V,_,w3]:=aQ (ws:=ws) (k:=(k:Int)) () (by have:=S k hm;omega)
  rw[Ju]at V
  exact #[by rw[HF,V];rfl,w3]
 refine #[7,_,c,comp_map (λi=>((ks.map λk:Nat=>D.tup [.str "corner",.int (Mw ps (ea (L7 ws (k:Int))):Int)])[i]?).getD .non) (by show(ks.map λk:Nat=>D.int (k:Int)).length<=1000000;omega) (λz g o=>Qo c o) ?_ (λv J=>?_)]
 .intro i e x hi hd sb;let[j,F,rfl]:=fo hd;refine #[7,λK hK=>?_];have y:=hK _ .refl;rw[getD_map F]at y;let[e1,_]:=U j (HE F);exact #[7,7,_,_,sb _ _ R,bz e1,7,L8 rfl,y]
 have e1:(HK (ks.map λk:Nat=>D.int (k:Int)).length).map (λi=>((ks.map λk:Nat=>D.tup [.str "corner",.int (Mw ps (ea (L7 ws (k:Int))):Int)])[i]?).getD .non)=ks.map λk:Nat=>D.tup [.str "corner",.int (Mw ps (ea (L7 ws (k:Int))):Int)]:=by
  have:=SD.range_getD (ks.map λk:Nat=>D.tup [.str "corner",.int (Mw ps (ea (L7 ws (k:Int))):Int)])
  rw[Hw]at this ⊢
  exact this
 dsimp only;rw[e1];have W:SD.Sub M (au M v (.lst (ks.map λk:Nat=>D.tup [.str "corner",.int (Mw ps (ea (L7 ws (k:Int))):Int)]))):=.new J .refl;have n:(au M v (.lst (ks.map λk:Nat=>D.tup [.str "corner",.int (Mw ps (ea (L7 ws (k:Int))):Int)]))) v=KJ (.lst (ks.map λk:Nat=>D.tup [.str "corner",.int (Mw ps (ea (L7 ws (k:Int))):Int)])):=ag;generalize au M v (.lst (ks.map λk:Nat=>D.tup [.str "corner",.int (Mw ps (ea (L7 ws (k:Int))):Int)]))=G at W n ⊢;refine #[7,7,L8 rfl,λa ha=>?_];have N:SD.Sub G (au G a (.lst [d0])):=.new ha .refl;have B:(au G a (.lst [d0])) a=KJ (.lst [d0]):=ag;generalize au G a (.lst [d0])=I at N B ⊢;have b:SD.Sub M I:=SD.Sub.trans W N;refine #[7,_,b _ _ c,by show(ks.map λk:Nat=>D.int (k:Int)).length<=1000000;omega,λz o=>?_];exists λi g x=>g.length=i/\x=au I z (.lst g),#[rfl,rfl],λi g x _ q=>by let[_,rfl]:=q;exact Qo (b _ _ c) o,?_
 .rintro i g d x hi hd ⟨t,rfl⟩;let[j,F,rfl]:=fo hd;have X:=HE F;let[e1,_]:=U j X;have kl:=S j X;have ev:(L.map D.int)[2*j]?=KJ (.int (L[2*j]'())):=by rw[HF,Hy ()];rfl
  exists 7;dsimp only[SD.cB];refine jL ?_;refine #[7,7,7,7,j,_,_,p,q,_,_,7,rfl,rfl,Qo (b _ _ R) o,Qo (b _ _ Z) o,e1,ev,λd'=>?_];exact #[_,.refl,ag,by simp[t],bg]
 .rintro g x ⟨t,rfl⟩;have t:g.length=ks.length:=by rw[t];exact u
  refine #[_,_,Qo B o,ag,(by have:1000<=HR:=L8 rfl;rw[t];show 1+_<=_;omega),λl C=>?_];have Y:SD.Sub I (au I z (.lst g)):=.new o .refl;refine #[v,l,_,[d0]++g,rfl,rfl,Qo (Y _ _ (N _ _ n)) C,ag,λd h=>?_,by simp[t],by rw[Hw];omega,λd=>Lf (k d _ (SD.Sub.trans b (SD.Sub.trans Y (.new C .refl))))];let[j,a0,rfl]:=IZ.mp h;exact #["corner",7]
theorem gX:L0 ["n","many"] ["n"] (ao l7):=⋯
theorem AG(n:Nat)(h:0<n):hv n=hv (n/2)+1:=by
 have key:∀f,f<hv n↔f<hv (n/2)+1:=λf=>by
  rw[<-By];cases f with
  |zero=>simp;omega
  |succ f=>
   rw[Nat.add_lt_add_iff_right,<-By,Nat.pow_succ]
   omega
 have a:=key (hv n);have b:=key (hv (n/2)+1);have c:=key (hv (n/2));omega
inductive OT:Prop
 |mk (n:Nat) (_:sx=.int (n:Int)) (_:Q (.int (hv n:Int)) M)
theorem yG(T:Tx K mg):Cal P w K mg base 1 "halves" (OM OT):=by
 refine fH (k:=0) T.h5 gX λf _ _ _ s H _ c=>#[_,(aj (aB 1 gX.nd ai) (aj (d6 HY (aI (gB c.units) (dv 0) ai) (aj (aB 0 gX.nd (aw gh (dv 0) ai)) (aq (rA 1 gX.nd xh ai)))) (aq (az (dv 1))))),λ_ M Q h=>?_];let[n,rfl,k]:=h;(try dsimp only[SD.fB,SD.dw,SD.aW,SD.f9,SD.fD,SD.c7,SD.dO,SD.tBD,SD.f7,SD.EndsD.nxt,SD.EndsD.lp])
 exists λm δ b=>b=M/\∃(y:Nat),δ=[KJ (.int (m:Int)),KJ (.int (y:Int))]/\y+hv m=hv n,#[n,rfl,0,rfl,()];rintro m δ b ⟨rfl,y,rfl,hy⟩;exists 7,trivial,7;refine bF (λh=>?_) (λh=>?_)
 .have a:0<m:=‹h›
  (try dsimp only[SD.fB,SD.dw,SD.aW,SD.f9,SD.fD,SD.c7,SD.dO,SD.tBD,SD.f7,SD.EndsD.nxt,SD.EndsD.lp])
  exists 7,#[⋯,bM ⋯],7,7;exists m/2,(),rfl,y+1,?_
  .dsimp only;rw[show((m:Int)).fdiv 2=((m/2:Nat):Int)from by rw[IK _ ⋯];omega];rfl
  .have:=AG m a;omega
 .have a:m=0:=by
   have:¬0<(m:Int):=‹h›
   omega
  subst a;exists 7;rw[show y=hv n from by have:hv 0=0:=rfl;omega];exact Lf k
theorem bR:L0 ["self","plot","ends","lands","row"] ["self","plot"] (ao cV):=⋯
def bV(K:Ht):Lz:=λh M Q=>match h with
 |[s,u]=>∃(a:pd) (t b X Y:Int) (ws:r3),s=.ref a/\u=.tup (ws.map (L6 t b X Y))/\M a=KJ (dU (cl K "Layers") [])/\MK t b X Y/\ws.length<=40/\(∀w∈ws,Le w)/\PF ws/\Tb M/\
  ∀(d:MH) (ps:List Vc) (g m:D) (z:pd) (f:rq) (e:List (q_)),(∀c o,c≠a->c≠372->M c=KJ o->d c=KJ o)->d a=KJ (dU (cl K "Layers") (QS (.tup (ws.map (L6 t b X Y))) (ps.map (Lx t b X Y)) g m (.ref z)))->d z=KJ (.lst (f.map D.ref))->NI d f e->Lay ws ((HK ws.length).map λk:Nat=>(k:Int)) e->e.length<=ws.length->Tb d->Q .non d
 |_=>False
theorem iI(K:Ht):∀a M Q,(bV K) a M Q->a.length=2:=λa M Q h=>by
 unfold bV at h;split at h
 .rfl
 .exact h.elim
theorem eV(T:Tx K mg):va P w K mg base 11 "Layers" (cl K "Layers") (bV K):=by
 refine EU (k:=10) (N:=["self","plot","ends","lands","row"]) (ps:=["self","plot"]) T.pa bR (λ_ _ _ _ _ _ us hl=>by let[_,_,rfl]:=SD.rP hl;rfl) (iI K) λf _ _ _ s H _ hr=>#[_,(aj (cu (z5 ((l0 T).mono ⋯) hr (ae (dv 0) (ae (dv 1) af)))) (aj (aB 2 bR.nd (ar (jI T).m hr (ae (dW (dv 0)) (ae (dW (dv 0)) af)))) (aj (aB 3 bR.nd (ar (jF T).m hr (ae (dW (dv 0)) af))) (aj (eJ (ar (qw T).m hr (ae (dW (dv 0)) (ae (dv 2) af))) (dv 0)) (aj (eJ (aE (ae ft (ae (aE (ae ft (ae ai af))) af))) (dv 0)) (aj (bD HY rfl (aN (dW (dv 0))) (ay 4 bR.nd) (aq (eJ (ar (jq T).m hr (ae (dv 4) (ae (dv 2) (ae (dv 3) (ae (dW (dv 0)) af))))) (dv 0)))) (aq (eJ (aO (C3 rfl) rfl T.n_ Dz (ae (bN (L4.of (xs:=["row"]) (js:=[]) rfl) rfl (aN (dW (dv 0))) (λ_ _ _ _=>bo) (λ_ _ _ _=>(aw aR (ar (yG T).m hr (ae (aO cK rfl T.ma cG (ae (dv 0) af)) af)) ai))) af)) (dv 0))))))))),λds M Q h=>?r]
 case r=>
  unfold bV at h
  split at h
  case h_2=>exact h.elim
  let[a,t,b,X,Y,ws,rfl,rfl,ha,S,x,hU,hF,hT,k]:=h
  refine #[7,7,a,t,b,X,Y,ws,rfl,rfl,ha,S,x,hU,λM1 ps s1 I pm pw=>?_]
  have e0:Tb M1:=hT.ins K ha s1
  have nd:ps.Nodup:=pw.imp λz e=>by subst e;exact zD _ z
  have pl:ps.length<=80:=by have:=pm.length_eq;have:=k8 ws ws.length;omega
  refine #[7,a,_,_,7,I,T.cl_Layers,T.na_plot,rfl,7,a,_,_,7,I,T.cl_Layers,T.na_corners,rfl,t,b,X,Y,ws,ps,rfl,rfl,S,x,λu=>pm.mem_iff,nd,(),λM2 ze s2 f0 g0=>?_]
  have a0:=s2 _ _ I
  refine #[7,a,_,_,7,a0,T.cl_Layers,T.na_plot,rfl,t,b,X,Y,ws,rfl,S,x,hU,hF,λM3 zl L s3 h0 b0 il=>?_]
  have J:=s3 _ _ a0
  have y:=s3 _ _ g0
  have C:Tb M3:=(e0.sub s2).sub s3
  refine #[7,a,_,_,7,J,T.cl_Layers,T.na_plot,rfl,7,t,b,X,Y,ws,ps,ze,rfl,rfl,S,x,hU,hF,y,pw,λw O=>by let[j,hj]:=List.getElem?_of_mem O;exact pm.mem_iff.mpr ((fM _).mpr #[j,w,(HC.mp hj).1,hj,.inl rfl]),C,λM4 F R rs s4 q0 hz hR i0 y0 s0=>?_]
  have t0:=i0.rows (kT (rs:=[]) (by simp))
  have B:=s4 _ _ (C.neI K J) J
  have U:=s4 _ _ (C.neL y) y
  have V:=s4 _ _ (C.neL b0) b0
  have sc:∀c o,c≠a->c≠372->M c=KJ o->M4 c=KJ o:=λc o h1 h2 h=>s4 _ _ h2 (s3 _ _ (s2 _ _ (s1 _ _ h1 h)))
  clear hT e0 C s1 s2 s3 s4 q0 h0 f0 I a0 J g0 y b0
  exists 7,a,_,7,B,T.cl_Layers,T.na_layer_rows,(⋯:4<1000)
  have e1:QE "layer_rows" (D.ref F) (Yl (.tup (ws.map (L6 t b X Y))) (ps.map (Lx t b X Y)) .non .non)=QS (.tup (ws.map (L6 t b X Y))) (ps.map (Lx t b X Y)) .non .non (.ref F):=rfl
  rw[e1]
  exists L8 rfl,L8 rfl,7,a,_,7,ag,T.cl_Layers,T.na_guide,(⋯:5<1000)
  rw[bg]
  have e2:QE "guide" (D.tup [.str "told",.tup [.str "land",.int 0]]) (QS (.tup (ws.map (L6 t b X Y))) (ps.map (Lx t b X Y)) .non .non (.ref F))=QS (.tup (ws.map (L6 t b X Y))) (ps.map (Lx t b X Y)) (D.tup [.str "told",.tup [.str "land",.int 0]]) .non (.ref F):=rfl
  rw[e2]
  have kM:∀(v:MH) fs,dg a M4 v->v a=KJ (dU (cl K "Layers") fs)->Tb v/\NI v R rs/\v F=KJ (.lst (R.map D.ref))/\v ze=KJ (.lst (ws.map (ON ps)))/\v zl=KJ (.lst (L.map D.int)):=λv fs h n=>#[s0.ins K B h,hR.to λc l _ e=>h _ _ (Aw B e) e,h _ _ (Aw B hz) hz,h _ _ (Aw B U) U,h _ _ (Aw B V) V]
  have QO:∀o,dg a M4 (au M4 a o):=λo c u W h=>by rw[ak W];exact h
  have u0:=λfs=>(kM _ fs (QO _) ag).2.2.1
  (try dsimp only[SD.aW])
  exists 7,a,_,_,7,ag,T.cl_Layers,T.na_layer_rows,rfl,R.map D.ref,u0 _,λi δ v=>Pu λ(g:D) (o4:r_)=>δ=[KJ (.ref a),KJ (.tup (ws.map (L6 t b X Y))),KJ (.ref ze),KJ (.ref zl),o4]/\dg a M4 v/\v a=KJ (dU (cl K "Layers") (QS (.tup (ws.map (L6 t b X Y))) (ps.map (Lx t b X Y)) g .non (.ref F))),#[_,7,QO _,ag],λi δ v _ q=>?_,?_
  .obtain⟨g,o4,rfl,st,n⟩:=q;exact(kM v _ st n).2.2.1
  .rintro i d δ v hi hd ⟨g,o4,rfl,st,n⟩;let[ra,G,rfl]:=fo hd;let[_,c0,_,k0,m0]:=kM v _ st n;have li:i<rs.length:=by rw[<-hR.1];exact(HC.mp G).1
   have er:=Hy li;have n0:=c0.2 i ra _ G er;let[Fr,_,_]:=t0 _ (HE er);have rb:=Fr.b;have rl:=Fr.len;rw[zf λk hk=>(rb k hk).1]at n0;have wk:∀(j:Nat) (w:Wl),ws[j]?=KJ w->ea w∈ps/\eb w∈ps:=λj w O=>#[pm.mem_iff.mpr ((fM _).mpr #[j,w,(HC.mp O).1,O,.inl rfl]),pm.mem_iff.mpr ((fM _).mpr #[j,w,(HC.mp O).1,O,.inr rfl])];refine #[7,7,7,7,a,_,_,7,n,T.cl_Layers,T.na_guide,rfl,ra,ze,zl,rs[i].map Int.toNat,ws,ps,L,rfl,rfl,rfl,n0,k0,m0,by rw[Hw];omega,λk hk=>?_,λw O=>?_,il,λd' M5 s5=>?_]
   .obtain⟨k',v0,rfl⟩:=IZ.mp hk;have:=rb k' v0;omega
   .obtain⟨j,hj⟩:=List.getElem?_of_mem O;exact wk j w hj
   .exists 7,a,_,7,s5 _ _ n,T.cl_Layers,T.na_guide,(⋯:5<1000);exact #[_,7,λc u W h=>by rw[ak W];exact s5 _ _ (st _ _ W h),ag]
  .rintro δ v ⟨g,o4,rfl,st,n⟩;let[_,c0,d0,_,_]:=kM v _ st n;have al:(R.map D.ref).length=rs.length:=by rw[Hw,hR.1]
   have rl:rs.length<=40:=by have:=hR.1;omega
   refine #[7,a,_,_,7,n,T.cl_Layers,T.na_layer_rows,rfl,R.map D.ref,d0,comp_map (λi=>(((rs.map λr=>((hv r.length+2:Nat):Int)).map D.int)[i]?).getD .non) (by show(R.map D.ref).length<=1000000;omega) (λp ys hp=>by show(au v p _) F=_;rw[ak (av d0 hp)];exact d0) ?_ (λp o0=>?_)]
   .intro i d M9 hi hd w0;let[ra,G,rfl]:=fo hd;have li:i<rs.length:=by rw[<-hR.1];exact(HC.mp G).1
    have er:=Hy li;refine #[7,λK2 x0=>?_];have Z:=x0 _ .refl;rw[Jb,getD_map er]at Z;exact #[7,_,w0 _ _ (c0.2 i ra _ G er),rs[i].length,by rw[Hw],Z]
   .dsimp only
    have e:(HK (R.map D.ref).length).map (λi=>(((rs.map λr=>((hv r.length+2:Nat):Int)).map D.int)[i]?).getD .non)=(rs.map λr=>((hv r.length+2:Nat):Int)).map D.int:=by
     have:=SD.range_getD ((rs.map λr=>((hv r.length+2:Nat):Int)).map D.int)
     rw[Hw,Hw]at this
     rw[al]
     exact this
    rw[e];have hb:∀o,(au v p o) a=KJ (dU (cl K "Layers") (QS (.tup (ws.map (L6 t b X Y))) (ps.map (Lx t b X Y)) g .non (.ref F))):=λo=>by rw[ak (av n o0)];exact n
    exists _,ag,7,a,_,7,hb _,T.cl_Layers,T.na_most_looks,(⋯:5<1000);have QN:∀o o',dg a M4 (au (au v p o) a o'):=λo o' c u W h=>by rw[ak W,ak (av (st _ _ W h) o0)];exact st _ _ W h
    have e3:QE "most_looks" (D.int (rs.map λr=>((hv r.length+2:Nat):Int)).sum) (QS (.tup (ws.map (L6 t b X Y))) (ps.map (Lx t b X Y)) g .non (.ref F))=QS (.tup (ws.map (L6 t b X Y))) (ps.map (Lx t b X Y)) g (.int (rs.map λr=>((hv r.length+2:Nat):Int)).sum) (.ref F):=rfl;rw[e3];let[z1,z2,z3,_,_]:=kM _ _ (QN _ _) ag;exact Lf (k _ ps g _ F R rs (λc o h1 h2 h=>QN _ _ _ _ h1 (sc c o h1 h2 h)) ag z3 z2 i0 (by have:=hR.1;omega) z1)
theorem eM:L0 ["_law_top","_law_bottom","_law_one","_law_other"] ["_law_top","_law_bottom"] (ao iF):=⋯
inductive Nv:Prop
 |mk (t:_) (b:_) (_:sx=.int t) (_:sy=.int b) (_:0<b) (_:Bd 8000 t) (_:Bd 8000 b) (_:Q (LU (Rat.divInt t b)) M)
theorem lA(T:Tx K mg):Cal P w K mg base 1 "_law_frac" (ME Nv):=by
 refine a9 (k:=0) T.h7 eM λf _ _ _ s H _ i=>#[_,(aj (aB 2 eM.nd (aO qL rfl T.lb sA (ae (dv 0) af))) (aj (aB 3 eM.nd (dv 1)) (aj (d6 HY (aI (gB i.units) (dv 3) ai) (aq (ix 2 3 rfl eM.nd (ae (dv 3) (ae (aw fI (dv 2) (dv 3)) af))))) (aq (az (aE (ae (aw gh (dv 0) (dv 2)) (ae (aw gh (dv 1) (dv 2)) af)))))))),λ_ _ M Q h=>?_];let[t,b,rfl,rfl,j,o,d,q]:=h;obtain⟨n,rfl⟩:∃n:Nat,b=(n:Int):=#[b.toNat,()];have p:=Ma.fF (t:=t) (show(n:Int)≠0 by omega);have c:Bd 8000 ((Kl t.natAbs (n:Int).natAbs:Nat):Int):=d.of_le ‹Nat.gcd_le_right t.natAbs (():0<(n:Int).natAbs)›;exists 7,7;exists λm δ g=>g=M/\∃x y:Nat,δ=[KJ (.int t),KJ (.int n),KJ (.int x),KJ (.int y)]/\Kl x y=Kl t.natAbs (n:Int).natAbs/\m=y,#[7,_,n,rfl,rfl,rfl];rintro m δ g ⟨rfl,x,y,rfl,a,l⟩;exists 7,trivial,7;refine bF (λh=>?_) (λh=>?_)
 .have e:0<y:=by
   have:(0:Int)<(y:Int):=‹h›
   omega
  have hy:(y:Int)≠0:=()
  exists 7,7,7,hy,_,7;refine #[x%y,by rw[l];exact Nat.mod_lt _ e,rfl,y,x%y,?_,?_,rfl]
  .rw[<-Ma.tY];rfl
  .rw[<-a,Nat.gcd_comm x y,Nat.gcd_rec y x,Nat.gcd_comm]
 .have hy:y=0:=by
   have:¬(0:Int)<(y:Int):=‹h›
   omega
  subst hy;rw[Nat.gcd_zero_right]at a;subst a;let[e1,e2]:=Ma.tV (t:=t) j;exists 7,7,#[(),c],7,7,#[(),c],L8 rfl;dsimp only;rw[e1,e2];exact Lf q
theorem cS:L0 ["_law_frame_here","_law_spot","_law_p","_law_q","_law_s","_law_t"] ["_law_frame_here","_law_spot"] (ao gj):=⋯
inductive NW:Prop
 |mk (t b x y p q:Int) (_:sx=Wq t b x y) (_:sy=.tup [.int p,.int q]) (_:MK t b x y) (_:(-(10^6)<=p/\p<=10^6)) (_:(-(10^6)<=q/\q<=10^6)) (_:Q (LS (LK t b x 1 p) (LK t b y 1 q)) M)
theorem j4(T:Tx K mg):Cal P w K mg base 2 "_law_given" (ME NW):=by
 refine a9 (k:=1) T.h_ cS λf _ _ _ s H _ c=>#[_,(aj (bO (dv 0) (br rfl (aA (ay 2 cS.nd) (aA (ay 3 cS.nd) (aA (ay 4 cS.nd) (aA (ay 5 cS.nd) aU)))))) (aq (az (aE (ae (ar (lA T).m c (ae (aw aR (aw aH (ax (dv 1) ai) (dv 2)) (dv 4)) (ae (dv 3) af))) (ae (ar (lA T).m c (ae (aw aR (aw aH (ax (dv 1) ai) (dv 2)) (dv 5)) (ae (dv 3) af))) af)))))),λ_ _ M Q h=>?_];let[t,b,x,y,p,q,rfl,rfl,S,d,e,k]:=h;have i:Bd 100 t:=by have:=S.t0;have:=S.t1;show t.natAbs<2^100;omega
 have a:∀{z:Int},(-(10^6)<=z/\z<=10^6)->Bd 64 z:=λ{z} h=>by show z.natAbs<2^64;omega
 have g:Bd 8000 b:=by have:=S.b0;have:=S.b1;exact Bd.mono (m:=100) (by show b.natAbs<2^100;omega) ⋯
 have big:∀{z w:Int},(-(10^6)<=z/\z<=10^6)->(-(10^30)<=w/\w<=10^30)->Bd 8000 (z*t+w):=λ{z w} h1 l=>by
  have e1:Bd 164 (z*t):=(a h1).mul i
  have e2:Bd 164 w:=by show w.natAbs<2^164;omega
  exact(e1.add e2).mono ⋯
 have j:b≠0:=by have:=S.b0;omega
 exists 7,7,rfl,_,7,_,7,_,7,_,7,rfl;exists 7,7,7,aL (a d),7,7,p*t+x,b,rfl,rfl,S.b0,big d #[S.x0,S.x1],g;exists 7,7,7,aL (a e),7,7,q*t+y,b,rfl,rfl,S.b0,big e #[S.y0,S.y1],g,L8 rfl;rw[Ma.xC,Ma.xC];exact Lf k
theorem qA:L0 ["_law_frame_here","_law_shuts"] ["_law_frame_here","_law_shuts"] (ao ij):=⋯
inductive Nt:Prop
 |mk (t b x y:Int) (l:pd) (ws:List (Int×Int×Int×Int)) (_:sx=Wq t b x y) (_:sy=.ref l) (_:M l=KJ (.lst (ws.map uw))) (_:MK t b x y) (_:ws.length<=1000) (_:(∀w∈ws,Yt (10^6) w)) (_:Q (.tup (ws.map (L6 t b x y))) M)
theorem sT(T:Tx K mg):Cal P w K mg base 3 "_law_plot" (ME Nt):=by
 refine a9 (k:=2) T.ia qA λf _ _ _ s H _ n=>#[_,(aq (az (cQ lP rfl T.ox lJ (ae (p6 (L4.of (xs:=["_law_first","_law_second"]) (js:=[0]) rfl) rfl (aN (dv 1)) (λ_ _ _ _=>bo) (λ_ _ _ _=>(aE (ae (ar (j4 T).m n (ae (dv 2) (ae (dv 0) af))) (ae (ar (j4 T).m n (ae (dv 2) (ae (dv 1) af))) af))))) af)))),λ_ _ M Q h=>?_];let[t,b,x,y,l,ws,rfl,rfl,g,S,C,o,k]:=h;refine #[7,ws.map uw,g,comp_map (λi=>((ws.map (L6 t b x y))[i]?).getD .non) (by simp;omega) (λp D j=>?_) ?_ (λp j=>#[_,ag,?_])]
 .show(au M p _) l=_;rw[ak (av g j)];exact g
 .intro i e q F a _;have a:(ws.map uw)[i]?=KJ e:=a;rw[HF]at a;cases d:ws[i]? with
  |none=>rw[d]at a;cases a
  |some w=>
   rw[d]at a
   cases a
   let[r,u,v,z]:=o w (HE d)
   refine #[_,#[7,rfl,rfl],λK B=>?_]
   have c:=B q .refl
   rw[getD_map d]at c
   exists 7,7,t,b,x,y,w.1,w.2.1,rfl,rfl,S,r,u
   exact #[7,7,t,b,x,y,w.2.2.1,w.2.2.2,rfl,rfl,S,v,z,L8 rfl,c]
 .exists _,.new j .refl
  have e:(HK (ws.map uw).length).map (λi=>((ws.map (L6 t b x y))[i]?).getD .non)=ws.map (L6 t b x y):=by
   have:=SD.range_getD (ws.map (L6 t b x y))
   rw[Hw]at this ⊢
   exact this
  dsimp only;rw[e];exact k
theorem dY:L0 ["_law_pot_here","_law_many","_law_kind","_law_far"] ["_law_pot_here","_law_many"] (ao gv):=⋯
inductive NX:Prop
 |mk (r:pd) (n:Nat) (m:Int) (_:sx=.ref r) (_:sy=.int m) (_:Lq M r n) (_:n<700000) (_:∀(t b x y:Int) M',MK t b x y->t<=10^20->b<=10^25->(-(10^27)<=x/\x<=10^27)->(-(10^27)<=y/\y<=10^27)->Kx [r] M M'->Lq M' r (n+5)->Q (Wq t b x y) M')
theorem pE(T:Tx K mg):Cal P w K mg base 2 "_law_frame" (ME NX):=by
 refine a9 (k:=1) T.i7 dY λf _ _ _ s H _ U=>#[_,(aj (aB 2 dY.nd (ar (aG T).m U (ae (dv 0) (ae ai af)))) (aj (bw (aI (cU U.units) (dv 2) ai) (aq (az (aE (ae ai (ae ai (ae ai (ae ai af))))))) aP) (aj (bw (pO (jR (aI (bX U.units) (dv 2) ai) (gS (aI (cU U.units) (dv 1) ai)))) (aj (dC 3 dY.nd (L4.of (xs:=["_law_k"]) (js:=[0]) rfl) rfl (gU rfl T.nq (ae ai af)) (λ_ _ _ _=>bo) (λ_ _ _ _=>(aw bf (ar (aG T).m U (ae (dv 1) (ae (aw aR (aw aH ai (aw gA ai ai)) ai) af))) (aw gA ai ai)))) (aq (az (aE (ae (aw aR ai (ar (aG T).m U (ae (dv 0) (ae (aw gA ai ai) af)))) (ae (aw aR ai (ar (aG T).m U (ae (dv 0) (ae (aw gA ai ai) af)))) (ae (ax (dv 3) ai) (ae (ax (dv 3) ai) af)))))))) aP) (aj (dC 3 dY.nd (L4.of (xs:=["_law_k"]) (js:=[0]) rfl) rfl (gU rfl T.nq (ae ai af)) (λ_ _ _ _=>bo) (λ_ _ _ _=>(aw bf (ar (aG T).m U (ae (dv 1) (ae (aw aR (aw aH ai (aw gA ai ai)) ai) af))) (aw gA ai ai)))) (aq (az (aE (ae (aw aR ai (ar (aG T).m U (ae (dv 0) (ae (aw gA ai ai) af)))) (ae (aw aR ai (ar (aG T).m U (ae (dv 0) (ae (aw gA ai ai) af)))) (ae (ax (dv 3) ai) (ae (ax (dv 3) ai) af))))))))))),λ_ _ M Q h=>?_];let[r,n,m,rfl,rfl,P0,hn,k]:=h;refine #[7,r,16,n,rfl,rfl,P0,(),⋯,bM ⋯,λkd o h0 h1 V=>?_];have q:Kx [r] M (au M r o):=Kx.refl.upd (by simp);generalize au M r o=M1 at V q ⊢;exists 7,trivial,7;refine bF (λ_=>?_) (λ_=>?_)
 .exact #[L8 rfl,Lf (k 1 1 0 0 M1 #[⋯,⋯,⋯,⋯,⋯,⋯,⋯,⋯] ⋯ ⋯ ⋯ ⋯ q (V.le ()))]
 (try dsimp only[SD.fB,SD.dw,SD.aW,SD.f9,SD.fD,SD.c7,SD.dO,SD.tBD,SD.f7,SD.EndsD.nxt,SD.EndsD.lp])
 exists 7,7;refine bF (λ_=>?_) (λ_=>?_)
 .exists 7,trivial,7;refine bF (λ_=>?_) (λ_=>?_)
  .exists 2,rfl,⋯;refine #[by show 2<=1000000;omega,λp G=>?_];have b:r≠p:=V.ne G;exists λj I c=>∃us:q_,I=us.map D.int/\us.length=j/\(∀u∈us,-(10^27)<=u/\u<=10^27)/\Kx [r] M c/\c p=KJ (.lst I)/\Lq c r (n+1+j),#[[],rfl,rfl,λu hu=>absurd hu (by simp),q.new G,ag,V.new G],λ_ _ _ _ _=>trivial,?_
   .rintro j I d c W hd ⟨us,rfl,N,J,e,g,t⟩;have W:j<2:=W;exists 7;dsimp only[SD.cB];refine jL ?_;refine #[7,#[⋯,⋯,⋯],aL (bM ⋯),r,2*10^27+1,n+1+j,rfl,rfl,t,(),⋯,Bd.mono (m:=100) (by show(2*10^27+1:Int).natAbs<2^100;decide) ⋯,λv l a0 a1 L=>?_];have B:(au c r l) p=KJ (.lst (us.map D.int)):=by rw[ak b.symm];exact g
    have C:Kx [r] M (au c r l):=e.upd (by simp);generalize au c r l=M5 at B C L ⊢;refine #[#[⋯,⋯,⋯],trivial,M5,.refl,B,us++[v-10^27],by simp,by simp[N],λx hx=>?_,?_,ag,L.upd b]
    .rcases HX.mp hx with z|z
     .exact J x z
     .have:x=v-10^27:=‹z›
      subst this;omega
    .intro a X Y ea
     have O:a≠p:=λz=>by
      subst z
      have:=q a X Y ea
      rw[G]at this;cases this
     rw[ak O];exact C a X Y ea
   rintro I R ⟨us,rfl,i,J,e,g,t⟩;have i:us.length=2:=i;have t:Lq R r (n+3):=t
   obtain⟨x,y,rfl⟩:∃x y,us=[x,y]:=by
    match us,i with
    |[x,y],_=>exact #[x,y,rfl]
   have hx:=J x (by simp);have hy:=J y (by simp);refine #[7,#[⋯,⋯,⋯],r,10^20,n+3,rfl,rfl,t,(),⋯,Bd.mono (m:=100) (by show(10^20:Int).natAbs<2^100;decide) ⋯,λv l a0 a1 L=>?_];refine #[7,#[⋯,⋯,⋯],r,10^25,n+4,rfl,rfl,L,(),⋯,Bd.mono (m:=100) (by show(10^25:Int).natAbs<2^100;decide) ⋯,λv2 Z b0 b1 P6=>?_];have F:(au (au R r l) r Z) p=KJ (.lst ([x,y].map D.int)):=by rw[ak b.symm,ak b.symm];exact g
   have S:Kx [r] M (au (au R r l) r Z):=(e.upd (by simp)).upd (by simp);exists 7,_,_,F,rfl,7,_,_,F,rfl,L8 rfl;exact Lf (k (1+v) (1+v2) x y _ #[(),(),(),(),(),(),(),()] () () () () S P6)
  .exists 2,rfl,⋯;refine #[by show 2<=1000000;omega,λp G=>?_];have b:r≠p:=V.ne G;exists λj I c=>∃us:q_,I=us.map D.int/\us.length=j/\(∀u∈us,-(10^6)<=u/\u<=10^6)/\Kx [r] M c/\c p=KJ (.lst I)/\Lq c r (n+1+j),#[[],rfl,rfl,λu hu=>absurd hu (by simp),q.new G,ag,V.new G],λ_ _ _ _ _=>trivial,?_
   .rintro j I d c W hd ⟨us,rfl,N,J,e,g,t⟩;have W:j<2:=W;exists 7;dsimp only[SD.cB];refine jL ?_;refine #[7,#[⋯,⋯,⋯],aL (bM ⋯),r,2*10^6+1,n+1+j,rfl,rfl,t,(),⋯,Bd.mono (m:=100) (by show(2*10^6+1:Int).natAbs<2^100;decide) ⋯,λv l a0 a1 L=>?_];have B:(au c r l) p=KJ (.lst (us.map D.int)):=by rw[ak b.symm];exact g
    have C:Kx [r] M (au c r l):=e.upd (by simp);generalize au c r l=M5 at B C L ⊢;refine #[#[⋯,⋯,⋯],trivial,M5,.refl,B,us++[v-10^6],by simp,by simp[N],λx hx=>?_,?_,ag,L.upd b]
    .rcases HX.mp hx with z|z
     .exact J x z
     .have:x=v-10^6:=‹z›
      subst this;omega
    .intro a X Y ea
     have O:a≠p:=λz=>by
      subst z
      have:=q a X Y ea
      rw[G]at this;cases this
     rw[ak O];exact C a X Y ea
   rintro I R ⟨us,rfl,i,J,e,g,t⟩;have i:us.length=2:=i;have t:Lq R r (n+3):=t
   obtain⟨x,y,rfl⟩:∃x y,us=[x,y]:=by
    match us,i with
    |[x,y],_=>exact #[x,y,rfl]
   have hx:=J x (by simp);have hy:=J y (by simp);refine #[7,#[⋯,⋯,⋯],r,10^4,n+3,rfl,rfl,t,(),⋯,Bd.mono (m:=100) (by show(10^4:Int).natAbs<2^100;decide) ⋯,λv l a0 a1 L=>?_];refine #[7,#[⋯,⋯,⋯],r,10^4,n+4,rfl,rfl,L,(),⋯,Bd.mono (m:=100) (by show(10^4:Int).natAbs<2^100;decide) ⋯,λv2 Z b0 b1 P6=>?_];have F:(au (au R r l) r Z) p=KJ (.lst ([x,y].map D.int)):=by rw[ak b.symm,ak b.symm];exact g
   have S:Kx [r] M (au (au R r l) r Z):=(e.upd (by simp)).upd (by simp);exists 7,_,_,F,rfl,7,_,_,F,rfl,L8 rfl;exact Lf (k (1+v) (1+v2) x y _ #[(),(),(),(),(),(),(),()] () () () () S P6)
 .exists 2,rfl,⋯;refine #[by show 2<=1000000;omega,λp G=>?_];have b:r≠p:=V.ne G;exists λj I c=>∃us:q_,I=us.map D.int/\us.length=j/\(∀u∈us,-(10^6)<=u/\u<=10^6)/\Kx [r] M c/\c p=KJ (.lst I)/\Lq c r (n+1+j),#[[],rfl,rfl,λu hu=>absurd hu (by simp),q.new G,ag,V.new G],λ_ _ _ _ _=>trivial,?_
  .rintro j I d c W hd ⟨us,rfl,N,J,e,g,t⟩;have W:j<2:=W;exists 7;dsimp only[SD.cB];refine jL ?_;refine #[7,#[⋯,⋯,⋯],aL (bM ⋯),r,2*10^6+1,n+1+j,rfl,rfl,t,(),⋯,Bd.mono (m:=100) (by show(2*10^6+1:Int).natAbs<2^100;decide) ⋯,λv l a0 a1 L=>?_];have B:(au c r l) p=KJ (.lst (us.map D.int)):=by rw[ak b.symm];exact g
   have C:Kx [r] M (au c r l):=e.upd (by simp);generalize au c r l=M5 at B C L ⊢;refine #[#[⋯,⋯,⋯],trivial,M5,.refl,B,us++[v-10^6],by simp,by simp[N],λx hx=>?_,?_,ag,L.upd b]
   .rcases HX.mp hx with z|z
    .exact J x z
    .have:x=v-10^6:=‹z›
     subst this;omega
   .intro a X Y ea
    have O:a≠p:=λz=>by
     subst z
     have:=q a X Y ea
     rw[G]at this;cases this
    rw[ak O];exact C a X Y ea
  rintro I R ⟨us,rfl,i,J,e,g,t⟩;have i:us.length=2:=i;have t:Lq R r (n+3):=t
  obtain⟨x,y,rfl⟩:∃x y,us=[x,y]:=by
   match us,i with
   |[x,y],_=>exact #[x,y,rfl]
  have hx:=J x (by simp);have hy:=J y (by simp);refine #[7,#[⋯,⋯,⋯],r,10^4,n+3,rfl,rfl,t,(),⋯,Bd.mono (m:=100) (by show(10^4:Int).natAbs<2^100;decide) ⋯,λv l a0 a1 L=>?_];refine #[7,#[⋯,⋯,⋯],r,10^4,n+4,rfl,rfl,L,(),⋯,Bd.mono (m:=100) (by show(10^4:Int).natAbs<2^100;decide) ⋯,λv2 Z b0 b1 P6=>?_];have F:(au (au R r l) r Z) p=KJ (.lst ([x,y].map D.int)):=by rw[ak b.symm,ak b.symm];exact g
  have S:Kx [r] M (au (au R r l) r Z):=(e.upd (by simp)).upd (by simp);exists 7,_,_,F,rfl,7,_,_,F,rfl,L8 rfl;exact Lf (k (1+v) (1+v2) x y _ #[(),(),(),(),(),(),(),()] () () () () S P6)
theorem qr:L0 ["_law_found","_law_due"] ["_law_found","_law_due"] (ao ir):=⋯
inductive Nr:Prop
 |mk (P:_) (_:Pd M sx P) (_:Pd M sy P) (_:yA P=KN) (_:Yd P) (_:Q (.bl KN) M)
theorem sD(T:Tx K mg):Cal P w K mg base 1 "_law_same" (ME Nr):=by refine a9 (k:=0) T.i_ qr λf _ _ _ s H _ a=>#[_,(aq (az (bL D7 (aO (tu a.gd a.units) rfl T.nv tj (ae (dv 0) af)) (aO (tu a.gd a.units) rfl T.nv tj (ae (dv 1) af))))),λ_ _ M Q h=>?_];let[P,b,c,di,S,k]:=h;exact #[7,P,b,di,S,7,P,c,di,S,rfl,Lf k]
theorem cC:L0 ["_law_shut","_law_x","_law_a","_law_b","_law_c","_law_d"] ["_law_shut","_law_x"] (ao fS):=⋯
inductive NN:Prop
 |mk (g h:Int) (w:Wl) (x:Int) (_:sx=L9 g h w) (_:sy=.int (g*x-h)) (_:Gs g h) (_:Le w) (_:(0<=x/\x<=20)) (_:Q (.tup [.int (MF (raw g h w) (g*x-h)),.int (MB (raw g h w))]) M)
theorem iY(T:Tx K mg):Cal P w K mg base 1 "_law_height" (ME NN):=by
 refine a9 (k:=0) T.j_ cC λf _ _ _ s H _ j=>#[_,(aj (bO (ax (dv 0) ai) (br rfl (aA (ay 2 cC.nd) (aA (ay 3 cC.nd) aU)))) (aj (bO (ax (dv 0) ai) (br rfl (aA (ay 4 cC.nd) (aA (ay 5 cC.nd) aU)))) (aj (bw (aI (bX j.units) (dv 2) (dv 4)) (aq (az (aE (ae (dv 3) (ae ai af))))) aP) (aq (az (aE (ae (aw aR (aw aH (dv 3) (aw bf (dv 4) (dv 2))) (aw aH (aw bf (dv 5) (dv 3)) (aw bf (dv 1) (dv 2)))) (ae (aw bf (dv 4) (dv 2)) af)))))))),λ_ _ M Q h=>?_];let[g,h,w,x,rfl,rfl,G,W,hx,k]:=h;have l:=g8 G W.a;have i:=g8 G W.b;have m:=g8 G W.c;have bd:=g8 G W.d;have bx:=g8 G hx;exists 7,7,7,rfl,_,7,_,7,rfl;exists 7,7,7,rfl,_,7,_,7,rfl;exists 7,7,7;refine bF (λe=>?_) (λe=>?_)
 .have e:g*(ea w).1-h=g*(eb w).1-h:=‹e›
  have e:g*w.1-h=g*w.2.2.1-h:=e;have e1:MF (raw g h w) (g*x-h)=g*w.2.1-h:=by unfold MF raw;rw[KQ e]
  have e2:MB (raw g h w)=1:=by unfold MB raw;rw[KQ e]
  rw[e1,e2]at k;exact #[7,L8 rfl,Lf k]
 .have e:¬g*(ea w).1-h=g*(eb w).1-h:=‹e›
  have e:¬g*w.1-h=g*w.2.2.1-h:=e;have e1:MF (raw g h w) (g*x-h)=(g*w.2.1-h)*(g*w.2.2.1-h-(g*w.1-h))+(g*w.2.2.2-h-(g*w.2.1-h))*(g*x-h-(g*w.1-h)):=by unfold MF raw;rw[KP e]
  have e2:MB (raw g h w)=g*w.2.2.1-h-(g*w.1-h):=by unfold MB raw;rw[KP e]
  rw[e1,e2]at k;exact #[7,7,7,trivial,aL (i.mono ⋯),7,7,trivial,7,7,trivial,aL ((bd.sub i).mono ⋯),7,7,trivial,L8 rfl,Lf k]
theorem bG:L0 ["_law_one","_law_other","_law_x","_law_top","_law_bottom","_law_last","_law_under","_law_ways","_law_steeper"] ["_law_one","_law_other","_law_x"] (ao fV):=⋯
inductive NM:Prop
 |mk (g h:Int) (U V:Wl) (x:Int) (_:sx=L9 g h U) (_:sy=L9 g h V) (_:s_=.int (g*x-h)) (_:Gs g h) (_:Le U) (_:Le V) (_:(0<=x/\x<=20)) (_:∀M',SD.Sub M M'->Q (.bl (OV U V x)) M')
theorem n9(T:Tx K mg):Cal P w K mg base 2 "_law_higher" (QP NM):=by
 refine lY (k:=1) T.ke bG λf _ _ _ s H _ c=>#[_,(aj (bO (ar (iY T).m c (ae (dv 0) (ae (dv 2) af))) (br rfl (aA (ay 3 bG.nd) (aA (ay 4 bG.nd) aU)))) (aj (bO (ar (iY T).m c (ae (dv 1) (ae (dv 2) af))) (br rfl (aA (ay 5 bG.nd) (aA (ay 6 bG.nd) aU)))) (aj (bw (aI (jd c.units) (aw aH (dv 3) (dv 6)) (aw aH (dv 5) (dv 4))) (aq (az (bL (gB c.units) (aw aH (dv 3) (dv 6)) (aw aH (dv 5) (dv 4))))) aP) (aj (dC 7 bG.nd (L4.of (xs:=["_law_shut"]) (js:=[]) rfl) rfl (aN (aE (ae (dv 0) (ae (dv 1) af)))) (λ_ _ _ _=>bo) (λ_ _ _ _=>(aE (ae (aw bf (ax (ax (dv 0) ai) ai) (ax (ax (dv 0) ai) ai)) (ae (aw bf (ax (ax (dv 0) ai) ai) (ax (ax (dv 0) ai) ai)) af))))) (aj (aB 8 bG.nd (bL (gB c.units) (aw aH (ax (ax (dv 7) ai) ai) (ax (ax (dv 7) ai) ai)) (aw aH (ax (ax (dv 7) ai) ai) (ax (ax (dv 7) ai) ai)))) (aq (az (bL (bX c.units) (dv 8) (bL (bX c.units) (ax (ax (dv 0) ai) ai) (dv 2)))))))))),λ_ _ _ M Q h=>?_];let[g,h,U,V,x,rfl,rfl,rfl,G,l,n,hx,k]:=h;exists 7,7,g,h,U,x,rfl,rfl,G,l,hx,7,rfl,_,7,_,7,rfl;exists 7,7,g,h,V,x,rfl,rfl,G,n,hx,7,rfl,_,7,_,7,rfl;have o:∀{w:Wl},Le w->Bd 30 (MF (raw g h w) (g*x-h)):=λ{w} W=>DU G W hx;exists 7,7,aL ((o l).mono ⋯),7,7,aL ((o n).mono ⋯),7;rw[<-D9 (h:=h) G.g0]at k;refine bF (λe=>?_) (λe=>?_)
 .have e:¬MF (raw g h U) (g*x-h)*MB (raw g h V)=MF (raw g h V) (g*x-h)*MB (raw g h U):=‹e›
  have e1:OV (raw g h U) (raw g h V) (g*x-h)=decide (MF (raw g h V) (g*x-h)*MB (raw g h U)<MF (raw g h U) (g*x-h)*MB (raw g h V)):=by unfold OV;rw[KP e]
  rw[e1]at k;exact #[7,7,aL ((o l).mono ⋯),7,7,aL ((o n).mono ⋯),trivial,Lf (k _ .refl)]
 have e:MF (raw g h U) (g*x-h)*MB (raw g h V)=MF (raw g h V) (g*x-h)*MB (raw g h U):=‹e›
 have e1:OV (raw g h U) (raw g h V) (g*x-h)=(Qa (raw g h U) (raw g h V)==decide ((raw g h U).1=g*x-h)):=by unfold OV;rw[KQ e]
 rw[e1]at k;refine #[7,7,L8 rfl,[L9 g h U,L9 g h V],rfl,comp_map (λi=>if i=0 then Qk g h U else Qk g h V) (L8 rfl) (λ_ _ _=>rfl) ?_ (λp t=>?_)]
 .intro i d v q hd _;have q:i<2:=q;have hd:[L9 g h U,L9 g h V][i]?=KJ d:=hd;refine #[7,λK u=>?_];have j:=u _ .refl;rcases(():i=0\/i=1)with rfl|rfl
  .cases hd;exact #[7,7,7,7,7,7,trivial,7,7,7,7,7,7,trivial,L8 rfl,j]
  .cases hd;exact #[7,7,7,7,7,7,trivial,7,7,7,7,7,7,trivial,L8 rfl,j]
 have r:∀{w:Wl},Le w->Bd 13 (g*w.2.2.2-h-(g*w.2.1-h)):=λ{w} W=>(g8 G W.d).sub (g8 G W.b);dsimp only;have a:(au M p (.lst [Qk g h U,Qk g h V])) p=KJ (.lst [Qk g h U,Qk g h V]):=ag;exists 7,_,_,a,rfl,7,7,_,_,a,rfl,7,aL ((r l).mono ⋯),7,_,_,a,rfl,7,7,_,_,a,rfl,7,aL ((r n).mono ⋯),trivial;exact #[7,7,7,7,7,Lf (k _ (.new t .refl))]
theorem iZ:L0 ["_law_one","_law_other","_law_spot"] ["_law_one","_law_other"] (ao gz):=⋯
inductive NZ:Prop
 |mk (g h:Int) (U V:Wl) (_:sx=L9 g h U) (_:sy=L9 g h V) (_:Gs g h) (_:Le U) (_:Le V) (_:Lv U V) (_:∀M',SD.Sub M M'->Q (.bl (Ll U V)) M')
theorem qy(T:Tx K mg):Cal P w K mg base 3 "_law_above" (ME NZ):=by
 refine a9 (k:=2) T.km iZ λf _ _ _ s H _ j=>#[_,(aj (aB 2 iZ.nd (aO (oh rfl j.units) rfl T.m4 rC (ae (ax (dv 0) ai) (ae (ax (dv 1) ai) af)))) (aq (az (jt (bL (cU j.units) (dv 2) (aO (oI rfl j.units) rfl T.m_ sO (ae (ax (dv 0) ai) (ae (ax (dv 1) ai) af)))) (lG (ar (n9 T).m j (ae (dv 0) (ae (dv 1) (ae (ax (dv 2) ai) af))))))))),λ_ _ M Q h=>?_];let[g,h,U,V,rfl,rfl,G,c,i,F,k]:=h;exists 7,7,7,7,[g*U.1-h,g*U.2.1-h],[g*V.1-h,g*V.2.1-h],rfl,rfl
 obtain⟨P,o,p,r,t⟩:∃P:Wl,Le P/\l1 P=max (l1 U) (l1 V)/\(if l1 V<=l1 U then U.1 else V.1)=P.1/\(if LY [g*V.1-h,g*V.2.1-h] [g*U.1-h,g*U.2.1-h]=KN then[g*V.1-h,g*V.2.1-h]else[g*U.1-h,g*U.2.1-h])=[g*P.1-h,g*P.2.1-h]:=by
  rw[sY G.g0,Bv i.b c.b];by_cases z:la U.1 U.2.1<la V.1 V.2.1
  .have l:l1 U<l1 V:=z;exact #[V,i,(),by rw[KP ()],by rw[KQ (KS z)]]
  .have l:¬l1 U<l1 V:=z;exact #[U,c,(),by rw[KQ ()],by rw[KP ‹z›]]
 obtain⟨R,u,q,v⟩:∃R:Wl,Le R/\l2 R=min (l2 U) (l2 V)/\(if LX [g*V.2.2.1-h,g*V.2.2.2-h] [g*U.2.2.1-h,g*U.2.2.2-h]=KN then[g*V.2.2.1-h,g*V.2.2.2-h]else[g*U.2.2.1-h,g*U.2.2.2-h])=[g*R.2.2.1-h,g*R.2.2.2-h]:=by
  rw[kR G.g0,mY i.d c.d];by_cases z:la V.2.2.1 V.2.2.2<la U.2.2.1 U.2.2.2
  .have l:l2 V<l2 U:=z;exact #[V,i,(),by rw[KQ (KS z)]]
  .have l:¬l2 V<l2 U:=z;exact #[U,c,(),by rw[KP ‹z›]]
 rw[t];(try dsimp only[SD.aW])
 exists 7,7,7,7,7,[g*U.2.2.1-h,g*U.2.2.2-h],[g*V.2.2.1-h,g*V.2.2.2-h],rfl,rfl;rw[v];exists [g*P.1-h,g*P.2.1-h],[g*R.2.2.1-h,g*R.2.2.2-h],rfl,rfl,7;rw[kR G.g0,mY o.b u.d];refine bF (λz=>?_) (λz=>?_)
 .have n:max (l1 U) (l1 V)<min (l2 U) (l2 V):=by rw[<-p,<-q];exact of_decide_eq_true z
  refine #[7,7,7,7,g,h,U,V,P.1,rfl,rfl,rfl,G,c,i,o.a,λx y=>?_];have e:=CJ c i F n;rw[r]at e;rw[e];exact Lf (k x y)
 .have n:¬max (l1 U) (l1 V)<min (l2 U) (l2 V):=by rw[<-p,<-q];exact of_decide_eq_false (eq_false_of_ne_true z)
  have e:Ll U V=KO:=by unfold Ll;rw[KP n]
  rw[e]at k;exact Lf (k M .refl)
theorem fy:L0 ["_law_shuts","_law_number","_law_others","_law_other"] ["_law_shuts","_law_number","_law_others"] (ao dM):=⋯
inductive Mj:Prop
 |mk (l lf:pd) (g h:Int) (ws:r3) (fs:q_) (n:Int) (_:sx=.ref l) (_:sy=.int n) (_:s_=.ref lf) (_:Gs g h) (_:M l=KJ (.lst (ws.map (L9 g h)))) (_:M lf=KJ (.lst (fs.map D.int))) (_:(∀w∈ws,Le w)) (_:PF ws) (_:ws.length<=40) (_:Fs ws fs) (_:n∈fs) (_:∀M',SD.Sub M M'->Q (.bl (!aS ws fs n)) M')
theorem ku(T:Tx K mg):Cal P w K mg base 4 "_law_stands_on" (QP Mj):=by
 refine lY (k:=3) T.kz fy λf _ _ _ s H _ v=>#[_,(aj (bD HY rfl (aN (dv 2)) (ay 3 fy.nd) (aq (bw (pO (jR (aI (jd v.units) (dv 3) (dv 1)) (gS (dH (ar (qy T).m v (ae (ax (dv 0) (dv 1)) (ae (ax (dv 0) (dv 3)) af))))))) (aq (az je)) aP))) (aq (az je))),λ_ _ _ M Q h=>?_];let[l,R,g,h,ws,fs,n,rfl,rfl,rfl,G,B,j,C,hF,Y,F,I,k]:=h;exists 7,fs.map D.int,j,λi δ p=>SD.Sub M p/\(∀o∈fs.take i,Ll (L7 ws n) (L7 ws o)=KO)/\∃u,δ=[KJ (.ref l),KJ (.int n),KJ (.ref R),u],#[.refl,by simp,7],λi δ p _ q=>q.1 _ _ j,?_;rotate_left
 .rintro δ p ⟨a,z,u,rfl⟩
  have e:aS ws fs n=KN:=by
   unfold aS
   rw[Jo]
   intro o S
   have:fs.take (fs.map D.int).length=fs:=by rw[Hw,List.take_length]
   have z:=z o (by rw[this];exact S)
   rw[z];rfl
  rw[e]at k;exact Lf (k p a)
 rintro i d δ p Z hd ⟨a,z,u,rfl⟩;let[o,J,rfl]:=fo hd;have c:=HE J;have N:=F.b n I;have O:=F.b o c;have U:fs.take (i+1)=fs.take i++[o]:=by rw[List.take_add_one,J];rfl
 have r:Ll (L7 ws n) (L7 ws o)=KO->∀x∈fs.take (i+1),Ll (L7 ws n) (L7 ws x)=KO:=λe x hx=>by
  rw[U]at hx;rcases HX.mp hx with y|y
  .exact z x y
  .rw[J8.mp y];exact e
 have L:=C _ (aQ N.1 N.2).2.2;have V:=C _ (aQ O.1 O.2).2.2;exists 7,7,7;refine bF (λne=>?_) (λeq=>?_)
 .have ne:¬o=n:=‹ne›
  refine #[7,7,_,_,a _ _ B,WU N.1 N.2,7,7,_,_,a _ _ B,WU O.1 O.2,g,h,L7 ws n,L7 ws o,rfl,rfl,G,L,V,yW hF F I c (λe=>ne e.symm),λW t=>#[7,?_]];refine bF (λe=>?_) (λe=>?_)
  .have X:aS ws fs n=KO:=by
    cases q:aS ws fs n with
    |false=>rfl
    |true=>
     unfold aS at q
     have:=Jo.mp q o c
     rw[e]at this;cases this
   rw[X]at k;exact Lf (k W (SD.Sub.trans a t))
  .exact #[SD.Sub.trans a t,r (eq_false_of_ne_true e),7]
 .have eq:o=n:=‹eq›
  refine lW rfl ?_;exact #[a,r (by rw[eq];exact lX L),7]
theorem cD:L0 ["_law_shuts","_law_left","_law_found","_law_row"] ["_law_shuts"] (ao cn):=⋯
def Zj:Str:=(Kv "_law_layers" (ao cn) 0 0 .none).qual++"<lambda>"
abbrev OR(M:MH):Prop:=bW Zj 527 #[389,47,389,93] M
def dr:Lz:=λd M Q=>match d with
 |[u]=>∃(l:pd) (g h:Int) (ws:r3),u=.ref l/\Gs g h/\M l=KJ (.lst (ws.map (L9 g h)))/\(∀w∈ws,Le w)/\PF ws/\ws.length<=40/\OR M/\
  ∀(a:MH) (z:pd) (b:rq) (c:List (q_)),dg 527 M a->a z=KJ (.lst (b.map D.ref))->NI a b c->Lay ws ((HK ws.length).map λk:Nat=>(k:Int)) c->OR a->Q (.ref z) a
 |_=>False
theorem mK:∀a M Q,dr a M Q->a.length=1:=λa M Q h=>by
 unfold dr at h;split at h
 .rfl
 .exact h.elim
def kP(d:D):Lz:=λa M Q=>match a with
 |[x]=>∃(l:pd) (g h:Int) (ws:r3) (k:Int),d=.ref l/\x=.int k/\M l=KJ (.lst (ws.map (L9 g h)))/\0<=k/\k<ws.length/\Q (.tup [.int (QT g h ws k).1,.int (QT g h ws k).2]) M
 |_=>False
theorem Ae(d:D):∀a M Q,kP d a M Q->a.length=1:=λa M Q h=>by
 unfold kP at h;split at h
 .rfl
 .exact h.elim
theorem oB(T:Tx K mg):Cal P w K mg base 5 "_law_layers" dr:=by
 refine E1 (k:=4) (N:=["_law_shuts","_law_left","_law_found","_law_row"]) (ps:=["_law_shuts"]) T.fc_law_layers cD (λ_ _ _ _ _ _ us Z=>match us,Z with|[_],_=>rfl) mK λf A outer s H E hr=>#[_,(aj (aB 1 cD.nd (pf rfl T.mu T.nq (ae (aO cK rfl T.ma cG (ae (dv 0) af)) af)))
  (aj (aB 2 cD.nd (bK af))
  (aj (d6 HY (aI (jd hr.units) (dv 1) (bK af)) (aj (aB 3 cD.nd (bN (L4.of (xs:=["_law_number"]) (js:=[0,1]) rfl) rfl (aN (dv 1)) (λ_ _ _ _=>(iW (nP (dH (ar (ku T).m hr (ae (dv 1) (ae (dv 0) (ae (dv 2) af)))))))) (λ_ _ _ _=>(dv 0))))
  (aj (cu (bQ (dv 2) (ae (kf (k:=1) (lx:="_law_number") (y:="_law_shuts") (Pt:=527) (spg:=kP) 0 rfl T.lm_law_layers (by refine #[rfl,rfl,rfl,⋯,rfl,rfl,?_,?_]<;>decide) (λ_ _ _ _ _ _ _=>rfl) Ae (λbase g c c' d2 A outer s H hr=>#[_,(ax (ax (dv 1) (dv 0)) ai),λd1 M Q h=>?l]) hr T.n7 (ae (dv 3) af)) af)))
  (aq (aB 1 cD.nd (bN (L4.of (xs:=["_law_number"]) (js:=[3]) rfl) rfl (aN (dv 1)) (λ_ _ _ _=>(iW (aI (jn (iK hr)) (dv 0) (dv 1) (by with_unfolding_all rfl)))) (λ_ _ _ _=>(dv 0))))))))
  (aq (az (dv 2)))))),λds M Q h=>?r]
 case l=>
  unfold kP at h
  let[l,g,h',ws,k',rfl,rfl,Z,h0,h1,k]:=h
  exact #[7,7,_,_,Z,WU h0 h1,7,k]
 case r=>
  unfold dr at h
  split at h
  case h_2=>exact h.elim
  let[l,g,h',ws,rfl,G,Z,hU,hF,f0,hT,k]:=h
  have e0:(ws.map (L9 g h')).length=ws.length:=Hw ..
  refine #[7,_,Z,ws.length,by rw[e0],(),λI t=>?_]
  have S:SD.Sub M (au M I (.lst ((HK ws.length).map λi:Nat=>D.int (i:Int)))):=.new t .refl
  have R:(au M I (.lst ((HK ws.length).map λi:Nat=>D.int (i:Int)))) I=KJ (.lst (((HK ws.length).map λk:Nat=>(k:Int)).map D.int)):=by rw[ag,Jb];rfl
  generalize au M I (.lst ((HK ws.length).map λi:Nat=>D.int (i:Int)))=M2 at S R ⊢
  clear t
  refine #[L8 rfl,λu V=>?_]
  have m1:=gQ S V
  have b0:SD.Sub M2 (au M2 u (.lst [])):=.new V .refl
  have n1:u≠527:=(hT.sub S).neN V
  (try dsimp only[SD.aW])
  refine #[λm δ C=>∃(I:pd) (fs:q_) (v:rq) (rs:List (q_)) (o3:r_),δ=[KJ (.ref l),KJ (.ref I),KJ (.ref u),o3]/\dg 527 M C/\C I=KJ (.lst (fs.map D.int))/\I≠u/\C u=KJ (.lst (v.map D.ref))/\u∉v/\NI C v rs/\(∀z,Lay ws fs z->Lay ws ((HK ws.length).map λk:Nat=>(k:Int)) (rs++z))/\Fs ws fs/\OR C/\v.length+fs.length<=ws.length/\m=fs.length,#[_,I,_,[],[],KL,rfl,(Sub.trans S b0).yK,b0 _ _ R,av R V,ag,by simp,.nil,λz h=>h,kT (rs:=[]) (by simp),(hT.sub S).sub b0,by simp,rfl],?_]
  clear R S b0 V I
  rintro m δ C ⟨I,fs,v,rs,o3,rfl,st,t,o1,hz,v0,hR,g0,F,U,p1,rfl⟩
  refine #[7,L8 rfl,λze w0=>?_]
  have J:SD.Sub C (au C ze (.lst [])):=.new w0 .refl
  exists _,_,.lst (J _ _ t) (jm fs),.lst ag .nil,shaped_ints fs,rfl,7
  replace st:=dg.trans st J.yK
  replace t:=J _ _ t
  replace hz:=J _ _ hz
  replace hR:NI (au C ze (.lst [])) v rs:=hR.to λc l _ h=>J _ _ h
  replace U:=U.sub J
  generalize au C ze (.lst [])=C at st t hz hR U ⊢
  clear J w0
  cases fs with
  |nil=>
   refine lW (by rfl) ?_
   exact #[7,Lf (k C u v rs st hz hR (by simpa using g0 [] .nil) U)]
  |cons x0 y0=>
   refine rj (by rfl) ?_
   have i0:x0::y0≠[]:=by simp
   generalize w1:x0::y0=fs at t p1 g0 F i0 ⊢
   let[k0,m0,kl]:=xj hU hF F i0
   have v1:fs.length<=40:=ID F.len f0
   have bI:∀(a:Int) (pp:Int->Bool),(KJ a).bind (λa=>if pp a=KN then KJ (D.int a)else KL)=if pp a=KN then KJ (D.int a)else KL:=λ_ _=>rfl
   refine #[7,fs.map D.int,t,uo (λj=>(fs[j]?).bind λa=>if aS ws fs a=KN then KJ (.int a)else KL) (by show(fs.map D.int).length<=1000000;simp;omega) (λp ys hp=>by show(au C p _) I=_;rw[ak (av t hp)];exact t) ?_ (λL z0=>?_)]
   .intro a d M8 ha hd b1;let[one,ea,rfl]:=fo hd;have n0:=HE ea;refine #[7,λK hK=>?_,λe M9 _ W K hK=>?_]
    .rw[ea,bI one λa=>aS ws fs a]at hK;refine #[7,7,7,l,I,g,h',ws,fs,one,rfl,rfl,rfl,G,b1 _ _ (st _ _ (hT.neL Z) Z),b1 _ _ t,hU,hF,f0,F,n0,λM9 o0=>#[7,?_]];have c1:=hK M9 o0;cases z:aS ws fs one<;>rw[z]at c1<;>exact c1
    .rw[ea,bI one λa=>aS ws fs a]at W;cases z:aS ws fs one with
     |false=>rw[z]at W;cases W
     |true=>
      rw[z]at W
      cases W
      exact #[7,hK _ .refl]
   .dsimp only;rw[oH];have B:SD.Sub C (au C L (.lst ((fs.filter (aS ws fs)).map D.int))):=.new z0 .refl;have X:(au C L (.lst ((fs.filter (aS ws fs)).map D.int))) L=KJ (.lst ((fs.filter (aS ws fs)).map D.int)):=ag;have q1:L≠u:=(av hz z0).symm;generalize au C L (.lst ((fs.filter (aS ws fs)).map D.int))=M5 at B X ⊢;have q0:=U.sub B;have r1:M5 l=KJ (.lst (ws.map (L9 g h'))):=B _ _ (st _ _ (hT.neL Z) Z);have Yc:(fs.filter (aS ws fs)).length<=fs.length:=List.length_filter_le _ _;have F5:=F.filter (aS ws fs);exists 7,u,v.map D.ref,rfl,B _ _ hz;refine #[7,L,(fs.filter (aS ws fs)).map D.int,((fs.filter (aS ws fs)).map (QT g h' ws)).map Wf,_,.ref l,rfl,X,q0.neL X,rfl,q0,by simp,.prs (CN G hU hF F5 nY ()) (by simp),λi d n M6 Q' hd hn hs q=>?_,λp x1 M6 c0 ho t1 s6=>?_]
    .obtain⟨a,ea,rfl⟩:=fo hd;have b:=F5.b a (HE ea);rw[Jb,HF,ea]at hn;cases hn;exact #[l,g,h',ws,a,rfl,rfl,hs _ _ (hT.neL Z) r1,b.1,b.2,q]
    .obtain⟨π,rfl,d0,hu⟩:=ho;rw[Hw]at d0 hu;let[e1,pr]:=vX d0;have f1:=D2 G hU F5 d0 hu;rw[e1]at c0;generalize (π.toList.map λi=>(fs.filter (aS ws fs)).getD i 0)=sr at pr f1 c0;clear e1 d0 hu;have O:M6 u=KJ (.lst (v.map D.ref)):=s6 _ _ n1 (B _ _ hz)
     have u1:sr≠[]:=λe=>by
      rw[e]at pr
      have:=Iw.mpr #[m0,kl]
      rw[List.nil_perm.mp pr]at this
      cases this
     have g1:p≠u:=λe=>by
      subst e
      rw[c0]at O
      have O:sr.map D.int=v.map D.ref:=by injection O with h;injection h
      cases sr with
      |nil=>exact u1 rfl
      |cons s0 s1=>
       cases v with
       |nil=>cases O
       |cons a0 a1=>simp at O
     refine #[_,7,O,by rw[Hw];omega,?_];have Oi:dg 527 C M6:=λa o na e=>s6 _ _ na (B _ _ e);have kM:∀a (ds:r8),a≠u->C a=KJ (.lst ds)->(au M6 u (.lst (v.map D.ref++[.ref p]))) a=KJ (.lst ds):=λa ds na e=>by rw[ak na];exact Oi _ _ (U.neL e) e
     have i1:(au M6 u (.lst (v.map D.ref++[.ref p]))) p=KJ (.lst (sr.map D.int)):=by rw[ak g1];exact c0
     have j1:(au M6 u (.lst (v.map D.ref++[.ref p]))) L=KJ (.lst ((fs.filter (aS ws fs)).map D.int)):=by rw[ak q1];exact s6 _ _ (q0.neL X) X
     have t0:(au M6 u (.lst (v.map D.ref++[.ref p]))) u=KJ (.lst ((v++[p]).map D.ref)):=by rw[ag,Iu];rfl
     have k1:OR (au M6 u (.lst (v.map D.ref++[.ref p]))):=t1.upd O;have Mv:dg 527 M (au M6 u (.lst (v.map D.ref++[.ref p]))):=λa o na e=>by rw[ak (av e m1)];exact Oi _ _ na (st _ _ na e)
     generalize au M6 u (.lst (v.map D.ref++[.ref p]))=M7 at kM i1 j1 t0 k1 Mv ⊢;have Y:=kM I _ o1 t;refine #[7,fs.map D.int,Y,oQ (λj=>(fs[j]?).bind λa=>if(!aS ws fs a)=KN then KJ (.int a)else KL) (by show(fs.map D.int).length<=1000000;simp;omega) (λp ys hp=>by show(au M7 p _) I=_;rw[ak (av Y hp)];exact Y) ?_ (λq hq=>?_)]
     .intro i d M9 hi hd o0;let[one,u0,rfl]:=fo hd;have n0:=HE u0;refine #[7,λK hK=>?_,λe W K hK=>?_]
      .rw[u0,bI one λa=>!aS ws fs a]at hK;refine #[7,7,uC one (λb=>!b) _ (o0 _ _ j1) #[7,?_]]
       have ee:((fs.filter (aS ws fs)).any λz=>z==one)=aS ws fs one:=by
        rw[Bool.eq_iff_iff,List.any_eq_true];constructor
        .rintro⟨x,hx,e⟩;rw[<-eq_of_beq e];exact(Iw.mp hx).2
        .exact λh=>#[one,Iw.mpr #[n0,h],beq_self_eq_true _]
       rw[ee];cases z:aS ws fs one<;>rw[z]at hK<;>exact hK
      .rw[u0,bI one λa=>!aS ws fs a]at W;cases z:aS ws fs one with
       |true=>rw[z]at W;cases W
       |false=>
        rw[z]at W
        cases W
        exact #[7,hK _ .refl]
     .dsimp only;rw[oH fs λa=>!aS ws fs a];have kL:∀a (ds:r8),M7 a=KJ (.lst ds)->(au M7 q (.lst ((fs.filter λa=>!aS ws fs a).map D.int))) a=KJ (.lst ds):=λa ds e=>by rw[ak (av e hq)];exact e
      refine #[_,kZ #[k0,m0,kl],q,fs.filter λa=>!aS ws fs a,v++[p],rs++[sr],7,dg.trans Mv (Sub.yK (.new hq .refl)),ag,(av t0 hq).symm,kL _ _ t0,?_,?_,Lay.step g0 i0 pr f1,F.filter _,k1.new hq,by have:=kZ (p:=aS ws fs) #[k0,m0,kl];rw[IJ,List.length_singleton];omega,rfl]
      .simp only[HX,J8,not_or];exact #[v0,λe=>g1 e.symm]
      .exact(hR.to λa ds ha e=>kL _ _ (kM _ _ (λz=>v0 (z▸ha)) e)).more (kL _ _ i1)
theorem fZ:L0 ["_law_script","_law_k","_law_pot_here","_law_shuts","_law_found","_law_row","_law_one","_law_other"] ["_law_script"] (ao xU):=⋯
inductive Px(x:D)(M:MH)(Q:DK):Prop
 |mk (ns:_) (hh0:x=.rol (Jp D.int ns)) (hh1:ns.length<=63) (hh2:Tb M) (hh3:OR M) (hh4:∀M',Q (.bl KN) M'):Px x M Q
def jz:Lz:=λa M Q=>match a with
 |[x]=>Px x M Q
 |_=>False
theorem Dm:∀a M Q,jz a M Q->a.length=1:=λa M Q h=>by
 unfold jz at h;split at h
 .rfl
 .exact h.elim
theorem FA{P:HW}{w:IA}{K:Ht}{mg:Str->Option Hu}{fa:pd}(T:Tx K mg)(d2:mg "law"=KJ (.ref fa)):∃fd,(∀(s:Hv) (u:Hu),BindsTo s fd #[[u],[]] [("_law_script",u)])/\∀base:pq,MA P w K mg base Mt 13 fa fd ["_law_script"] (dJ K jz):=by
 refine Gv (k:=12) (N:=["_law_script","_law_k","_law_pot_here","_law_shuts","_law_found","_law_row","_law_one","_law_other"]) T.k_ d2 fZ (λ_ _ _ _ _ _ us U=>by let[_,rfl]:=SD.xw U;rfl) Dm λbase f cdv A outer s H E C=>#[_,(aj (i9 HY rfl rfl T.nq (ae (aw aR ai (aO (oI rfl C.units) rfl T.m_ sO (ae ai (ae (aO cK rfl T.ma cG (ae (dv 0) af)) af)))) af) (ay 1 fZ.nd) (aj (aB 2 fZ.nd (ar (vG T).m C (ae (dv 0) (ae (dv 1) af)))) (aj (aB 3 fZ.nd (ar (jM T).m C (ae (dv 2) (ae ai af)))) (aj (bw (aI (bX C.units) (ar (aG T).m C (ae (dv 2) (ae ai af))) ai) (aq (aB 3 fZ.nd (ar (mL T).m C (ae (dv 2) (ae ai af))))) aP) (aj (aB 4 fZ.nd (pW T.cl_Layers ((gb T).mono ⋯) C (uE ((eV T).mono ⋯) C (ae (ar (sT T).m C (ae (ar (pE T).m C (ae (dv 2) (ae (aO cK rfl T.ma cG (ae (dv 3) af)) af))) (ae (dv 3) af))) af)))) (aj (bw (nP (dH (ar (sD T).m C (ae (dv 4) (ae (ar (oB T).m C (ae (dv 3) af)) af))))) (aq (az je)) aP) (aq (bD HY rfl (aN (dv 4)) (ay 5 fZ.nd) (aq (bD HY rfl (wo rfl T.oy (ae (dv 5) (ae (qH (dv 5) (tU ai) uD) af))) (br rfl (aA (ay 6 fZ.nd) (aA (ay 7 fZ.nd) aU))) (aq (bw (aI (cU C.units) (ax (ax (dv 3) (dv 7)) ai) (ax (ax (dv 3) (dv 6)) ai)) (aq (az je)) aP)))))))))))) (aq (az (bL (bX C.units) (pW T.cl_Layers ((gb T).mono ⋯) C (uE ((eV T).mono ⋯) C (ae (aE af) af))) (bK af))))),λds M Q h=>?r]
 case r=>
  unfold jz at h
  split at h
  case h_2=>exact h.elim
  let[ns,rfl,t2,y0,z0,k]:=h
  obtain⟨m,hm,u2⟩:∃m:Nat,1+min (3:Int) ((Jp D.int ns).length:Nat)=(m:Int)/\m<=4:=#[(1+min (3:Int) ((Jp D.int ns).length:Nat)).toNat,(),()]
  refine #[7,m,(by rw[hm]),(),λi δ M=>Tb M/\OR M/\∃T:r4,δ=KJ (.rol (Jp D.int ns))::T/\T.length=7,#[y0,z0,7,rfl],?_,λδ M q=>?_]
  rotate_left
  .obtain⟨hT,hS,T',rfl,_⟩:=q;refine #[L8 rfl,λa ha=>?_];refine #[a,1,1,0,0,[],rfl,rfl,ag,#[⋯,⋯,⋯,⋯,⋯,⋯,⋯,⋯],⋯,(by intro w hw;cases hw),xu,hT.new ha,λI ps g m z as rs _ b1 hz hR _ U _=>#[rfl,?_]];cases rs with
   |cons r rs=>exact absurd U (by simp)
   |nil=>
    have:=hR.1
    have e:as=[]:=JF.mp this
    subst e
    refine #[a,7,b1,rfl,a,z,_,[],[],rfl,b1,rfl,hz,hR,by simp,by simp,λM2 p bs s2 c1 e2=>?_]
    have e:bs=[]:=JF.mp e2.1
    subst e
    refine #[L8 rfl,λe he=>?_]
    exists _,_,.lst (by rw[ak (av c1 he)];exact c1) .nil,.lst ag .nil,rfl,rfl
    exact Lf (k _)
  rintro i δ M hi ⟨hT,hS,T',rfl,hL⟩
  refine Qb hL λo1 T' hL=>?_
  refine Hs hL λo2 o3 o4 o5 V W=>?_
  (try dsimp only[SD.aW])
  refine RH λB hB=>?_
  refine #[7,7,ns,(i:Int),rfl,rfl,(),λr ob C P0=>?_]
  have k0:Tb (au M r ob):=hT.new C
  have m0:OR (au M r ob):=hS.new C
  generalize au M r ob=Ma at P0 k0 m0 ⊢
  clear hT y0 hS z0
  refine #[7,r,0,8,rfl,rfl,⋯,P0,⋯,λl ws Mb O fl kx U X hF F P1=>?_]
  have d1:Tb Mb:=k0.pot P0 kx
  have e1:OR Mb:=m0.pot P0 kx
  clear k0 m0
  (try dsimp only[SD.aW])
  refine dn (λδ I=>Wa λ(g h:Int) (l:pd) (ws:r3)=>QM (Gs g h) (δ=[KJ (.rol (Jp D.int ns)),KJ (.int (i:Int)),KJ (.ref r),KJ (.ref l),o4,o5,V,W]) (r≠l) (I l=KJ (.lst (ws.map (L9 g h)))) (∀w∈ws,Le w) (PF ws) (ws.length<=40) (Lq I r 500) (Tb I) (OR I)) ?_ (λhu=>?_)
  rotate_left
  .refine #[7,r,10,0+400,rfl,rfl,P1,(),⋯,bM ⋯,λv o h0 h1 P2=>#[7,?_]];have f1:Tb (au Mb r o):=d1.pot P1 (Kx.refl.upd (by simp));have g1:OR (au Mb r o):=e1.pot P1 (Kx.refl.upd (by simp));refine bF (λ_=>?_) (λ_=>hu _ _ #[6,24,l,ws,#[⋯,⋯,⋯,⋯],rfl,O,by rw[ak O.symm];exact U,X,hF,(),P2.le (),f1,g1]);exact #[7,r,0+400+1,rfl,rfl,P2,(),λl2 g2 M4 n2 f2 i1 h2 U2 F2 j1 P3=>hu _ _ #[12,0,l2,g2,#[⋯,⋯,⋯,⋯],rfl,n2,h2,U2,F2,j1,P3.le (),f1.pot P2 i1,g1.pot P2 i1]]
  clear U O fl kx X hF F P1 d1 e1 P0
  rintro δ M3 ⟨g,h,l,ws,G,rfl,O,U,X,hF,F,P3,k1,m1⟩
  refine #[7,7,_,U,r,500,7,rfl,P3,(),λt b x y M4 S ht hb hx hy Y P4=>?_]
  have J:=Y l _ ‹O.symm› U
  have Z:Tb M4:=k1.pot P3 Y
  have n1:OR M4:=m1.pot P3 Y
  clear U Y P3 k1 m1
  refine #[7,t,b,x,y,l,ws.map (raw g h),rfl,rfl,(by rw[xp];exact J),S,by rw[Hw];omega,λw hw=>?_,?_]
  .obtain⟨w0,j2,rfl⟩:=IZ.mp hw;let[a1,a2,a3,a4]:=DP G (X w0 j2);exact #[(),(),(),()]
  rw[wV]
  have S':=AO S G ht hb hx hy
  refine λa ha=>?_
  refine #[a,_,_,_,_,ws,rfl,rfl,ag,S',F,X,hF,Z.new ha,λM5 ps gd md z as rs kp n0 p1 q1 f0 v2 r1=>#[rfl,?_]]
  have o0:=f0.rows (kT (rs:=[]) (by simp))
  have s1:OR M5:=(n1.new (o:=dU (cl K "Layers") []) ha).FG K (Z.new ha) ⋯ ag kp
  have i0:M5 l=KJ (.lst (ws.map (L9 g h))):=kp l _ (av J ha) (Z.neL J) (by rw[ak (av J ha)];exact J)
  clear kp Z n1 J P4 ha S S' ht hb hx hy
  have k2:rs.length<=40:=()
  have t1:∀r∈rs,r.length<=40:=λr C=>ID (o0 r C).1.len F
  refine #[a,7,n0,rfl,a,z,_,as,rs,rfl,n0,rfl,p1,q1,k2,t1,λM6 p bs s6 q0 u1=>?_]
  have a0:=s6 _ _ i0
  have v1:Tb M6:=r1.sub s6
  have L:OR M6:=s1.sub s6
  clear s6 n0 p1 q1 i0 r1 s1 ps gd md M5
  refine #[7,7,l,g,h,ws,rfl,G,a0,X,hF,F,L,λM7 z7 w2 b0 s7 w1 x1 y1 m2=>?_]
  have e7:=y1.uniq f0
  subst e7
  have p2:Tb M7:=v1.Fb K L ⋯ s7
  have r2:=s7 _ _ (L.neL a0) a0
  have s0:=s7 _ _ (L.neL q0) q0
  have t0:NI M7 bs b0:=u1.to λc l' _ h=>s7 _ _ (L.neL h) h
  exists sW b0,tH s0 t0,tH w1 x1,rfl,yf (λr C k hk=>by have:=(o0 r C).1.b k hk;exact #[(),()]) () t1,7
  refine lW rfl ?_
  clear a0 q0 u1 v1 L s7 M6 w1 x1
  exists 7,bs.map D.ref,s0,λj δ I=>SD.Sub M7 I/\Q8 λo5 V W=>δ=[KJ (.rol (Jp D.int ns)),KJ (.int (i:Int)),KJ (.ref r),KJ (.ref l),KJ (.ref p),o5,V,W],#[.refl,_,_,7],λj δ I _ q=>q.1 _ _ s0,?_
  rotate_left
  .rintro δ I ⟨sb,o5,V,W,rfl⟩;exact hB _ _ #[p2.sub sb,m2.sub sb,7,rfl]
  rintro j d δ I hj hd ⟨sb,o5,V,W,rfl⟩
  let[ra,z1,rfl]:=fo hd
  have li:j<b0.length:=by rw[<-t0.1];exact(HC.mp z1).1
  have er:=Hy li
  have c0:=sb _ _ (t0.2 j ra _ z1 er)
  let[Fr,Lr,ur]:=o0 _ (HE er)
  generalize b0[j]=n at c0 Fr Lr ur
  refine #[7,7,7,_,c0,λq2 b2=>?_]
  rw[mS]
  have u0:(au I q2 (.lst ((n.drop 1).map D.int))) ra=KJ (.lst (n.map D.int)):=by rw[ak (av c0 b2)];exact c0
  have v0:(au I q2 (.lst ((n.drop 1).map D.int))) q2=KJ (.lst ((n.drop 1).map D.int)):=ag
  have x0:SD.Sub M7 (au I q2 (.lst ((n.drop 1).map D.int))):=.new b2 sb
  generalize au I q2 (.lst ((n.drop 1).map D.int))=M9 at u0 v0 x0 ⊢
  have c2:=x0 _ _ r2
  exists ra,q2,n.map D.int,(n.drop 1).map D.int,rfl,u0,v0
  exists λi' δ d0=>d0=M9/\Pu λV W=>δ=[KJ (.rol (Jp D.int ns)),KJ (.int (i:Int)),KJ (.ref r),KJ (.ref l),KJ (.ref p),KJ (.ref ra),V,W],#[rfl,_,7],λi' δ d0 _ z=>by let[rfl,_]:=z;exact #[u0,v0],?_
  rotate_left
  .rintro δ d0 ⟨e,V,W,rfl⟩;subst e;exact #[x0,_,_,7]
  rintro i2 d δ d0 e0 hd ⟨e,V,W,rfl⟩
  subst e
  have e0:i2<min (n.map D.int).length ((n.drop 1).map D.int).length:=e0
  have hd:((n.map D.int)[i2]?).bind (λd=>(((n.drop 1).map D.int)[i2]?).map λe=>D.tup [d,e])=KJ d:=hd
  have iu:i2<n.length:=by simp at e0;omega
  have iv:1+i2<n.length:=by simp at e0;omega
  rw[HF,Hy iu,HF,List.getElem?_drop,Hy iv]at hd
  cases hd
  have nx:=yC X hF Fr Lr ur (Hy iu) (Hy iv)
  have A:=Fr.b _ (IU iu)
  have B':=Fr.b _ (IU iv)
  have UA:=X _ (aQ A.1 A.2).2.2
  have UB:=X _ (aQ B'.1 B'.2).2.2
  generalize n[i2]=one at nx A UA
  generalize n[1+i2]=R at nx B' UB
  exists 7,rfl,_,7,_,7,rfl
  exists 7,7,_,_,c2,WU B'.1 B'.2,7,7,7,_,_,c2,WU A.1 A.2,7,[g*(L7 ws R).1-h,g*(L7 ws R).2.1-h],[g*(L7 ws one).2.2.1-h,g*(L7 ws one).2.2.2-h],rfl,rfl,7
  rw[kR G.g0,mY UB.b UA.d]
  exact lW nx #[rfl,_,7]
theorem BU(ns:q_)(M:MH)(h:ns.length<=63)(a:∀p∈[372,527],M p=KJ (rN #[])):jz [.rol (ns.map D.int)] M (λd _=>d=.bl KN):=#[ns,rfl,h,.inl (a _ (by simp)),.inl (a _ (by simp)),λ_=>rfl]
def kE(P:HZ)(n:String)(k:Nat)(v:Hu):J7:={ hash:=PyData.keyHash P (Ja n),key:=.str (Ja n) k,val:=v }
def kF(i:Nat)(n m:String)(k c:Nat):Obj:={ cls:=.type "function",data:=.func { name:=Ja n,qualname:=Ja n,params:=aX (top i),body:=.stmts (aJ (top i)),scope:=ao (top i),globals:=!3,closure:=[],defaults:=.none,kwdefaults:=.none,pyModule:=.str (Ja m) k,code:=.ref c } }
def Zu(P:HZ):List J7:=[kE P "__name__" ↑165 (.str "law_spotlook_k36_layers_rows" 752),kE P "__doc__" ↑166 (.none),kE P "__package__" ↑167 (.none),kE P "__loader__" ↑168 (.builtin "__main__.__loader__#opaque"),kE P "__spec__" ↑169 (.none),kE P "__annotations__" ↑170 (.ref !6),kE P "__builtins__" ↑171 (.ref !4),kE P "__file__" ↑173 (.str "/claim/cut.py" 172)]
def Zt(P:HZ):List J7:=[kE P "__cached__" ↑174 (.none),kE P "_wall" ↑193 (.ref !21),kE P "SpotError" ↑213 (.ref !31),kE P "NoFraction" ↑229 (.ref !44),kE P "greatest_divisor" ↑239 (.ref !53),kE P "fraction" ↑248 (.ref !60),kE P "is_less" ↑256 (.ref !67),kE P "common_bottom" ↑265 (.ref !74)]
def Zs(P:HZ):List J7:=[kE P "top_over" ↑273 (.ref !81),kE P "is_ahead" ↑283 (.ref !88),kE P "later_of" ↑291 (.ref !95),kE P "earlier_of" ↑299 (.ref !102),kE P "place_among" ↑310 (.ref !109),kE P "ahead_first" ↑319 (.ref !116),kE P "own_spot" ↑328 (.ref !123),kE P "own_wall" ↑335 (.ref !130)]
def Zr(P:HZ):List J7:=[kE P "gap" ↑343 (.ref !137),kE P "lean" ↑361 (.ref !144),kE P "side_of" ↑370 (.ref !151),kE P "spans" ↑380 (.ref !158),kE P "is_above" ↑392 (.ref !165),kE P "above_table" ↑398 (.ref !170),kE P "upper_of" ↑407 (.ref !177),kE P "upper_below" ↑413 (.ref !182)]
def Zq(P:HZ):List J7:=[kE P "face_ends" ↑425 (.ref !189),kE P "faces_by_start" ↑434 (.ref !196),kE P "is_met_sooner" ↑446 (.ref !203),kE P "face_behind" ↑460 (.ref !210),kE P "ring_from" ↑471 (.ref !217),kE P "rings_of" ↑484 (.ref !224),kE P "twice_area" ↑490 (.ref !229),kE P "outer_and_inner" ↑502 (.ref !236)]
def Zp(P:HZ):List J7:=[kE P "first_corner" ↑512 (.ref !243),kE P "land_about" ↑522 (.ref !250),kE P "lands_of_faces" ↑528 (.ref !255),kE P "own_plot" ↑536 (.ref !260),kE P "corners_of" ↑546 (.ref !267),kE P "ends_by_number" ↑552 (.ref !272),kE P "halves" ↑562 (.ref !279),kE P "guide_by_halving" ↑570 (.ref !286)]
def Zo(P:HZ):List J7:=[kE P "guide_between" ↑585 (.ref !293),kE P "guide_after" ↑597 (.ref !300),kE P "side_at_corner" ↑605 (.ref !307),kE P "Way" ↑695 (.ref !366),kE P "layers_of" ↑703 (.ref !375),kE P "guide_of_layer" ↑709 (.ref !380),kE P "guide_of_wall" ↑720 (.ref !387),kE P "Layers" ↑751 (.ref !407)]
def Zn(P:HZ):List J7:=[kE P "_law_pot" ↑762 (.ref !416),kE P "_law_take" ↑772 (.ref !423),kE P "_law_side" ↑785 (.ref !430),kE P "_law_on" ↑793 (.ref !437),kE P "_law_apart" ↑805 (.ref !444),kE P "_law_new_spot" ↑813 (.ref !451),kE P "_law_some_spot" ↑822 (.ref !458),kE P "_law_square" ↑833 (.ref !465)]
def Zm(P:HZ):List J7:=[kE P "_law_laid" ↑839 (.ref !470),kE P "_law_shuts_here" ↑845 (.ref !475),kE P "_law_frac" ↑855 (.ref !482),kE P "_law_frame" ↑861 (.ref !487),kE P "_law_given" ↑873 (.ref !494),kE P "_law_plot" ↑879 (.ref !499),kE P "_law_height" ↑891 (.ref !506),kE P "_law_higher" ↑897 (.ref !511)]
def Zl(P:HZ):List J7:=[kE P "_law_above" ↑906 (.ref !518),kE P "_law_same" ↑914 (.ref !525),kE P "_law_layers" ↑920 (.ref !530),kE P "_law_stands_on" ↑930 (.ref !537),kE P "_law_squares" ↑936 (.ref !542),kE P "law" ↑950 (.ref !549)]
def kG(P:HZ):Obj:={ cls:=.type "dict",data:=.dict (Il (Zu P++(Zt P++(Zs P++(Zr P++(Zq P++(Zp P++(Zo P++(Zn P++(Zm P++(Zl P))))))))))) 78 }
def Ls(n:String)(h:Nat)(i:Nat)(j:Nat)(k:Nat)(l:Nat)(m:Nat)(a:Nat)(b:Nat)(c:Nat)(d:Nat)(e:Nat)(f:Nat)(g:Nat):Obj:={ cls:=.type "code",data:=.fields (List.toArray [.str (Ja n) h,.str (Ja n) i,.str "/claim/cut.py" j,.int (KA k) 0,.int (KA l) 0,.int 0 0,.int 0 0,.int 3 0,.ref m,.bool KN,.int 181 0,.ref a,.none,.ref b,.ref c,.ref d,.int (KA e) 0,.int (KA f) 0,.str "/claim/cut.py" g]) }
def kM(i j:Nat)(n q m:String)(k c:Nat):Obj:={ cls:=.type "function",data:=.func { name:=Ja n,qualname:=Ja q,params:=aX (SD.m8 (top i) j),body:=.stmts (aJ (SD.m8 (top i) j)),scope:=ao (SD.m8 (top i) j),globals:=!3,closure:=[],defaults:=.none,kwdefaults:=.none,pyModule:=.str (Ja m) k,code:=.ref c } }
def GB(P:HZ):Obj:={ cls:=.type "dict",data:=.dict (Il [kE P "__module__" ↑203 (.str "spotlook.errors" 194),kE P "__firstlineno__" ↑207 (.int 5 206),kE P "__static_attributes__" ↑208 (.ref !29),kE P "__weakref__" ↑210 (.ref !32),kE P "__doc__" ↑211 (.none)]) 3 }
def GG(P:HZ):Obj:={ cls:=.type "dict",data:=.dict (Il [kE P "__module__" ↑221 (.str "spotlook.errors" 194),kE P "__firstlineno__" ↑225 (.int 7 224),kE P "__static_attributes__" ↑226 (.ref !42),kE P "__doc__" ↑227 (.none)]) 2 }
def ES(P:HZ):Obj:={ cls:=.type "dict",data:=.dict (Il [kE P "__module__" ↑613 (.str "spotlook.ways" 553),kE P "__firstlineno__" ↑617 (.int 216 616),kE P "__init__" ↑625 (.ref !321),kE P "after" ↑633 (.ref !328),kE P "side_at" ↑643 (.ref !335),kE P "looks" ↑656 (.ref !342),kE P "look" ↑664 (.ref !349),kE P "led" ↑676 (.ref !356),kE P "most" ↑683 (.ref !363),kE P "__static_attributes__" ↑688 (.ref !364),kE P "__dict__" ↑690 (.ref !367),kE P "__weakref__" ↑692 (.ref !368),kE P "__doc__" ↑693 (.none)]) 4 }
def Gn(P:HZ):Obj:={ cls:=.type "dict",data:=.dict (Il [kE P "__module__" ↑728 (.str "spotlook.layers" 696),kE P "__firstlineno__" ↑732 (.int 273 731),kE P "__init__" ↑738 (.ref !399),kE P "layers" ↑744 (.ref !404),kE P "__static_attributes__" ↑748 (.ref !405),kE P "__doc__" ↑749 (.none)]) 2 }
def kN(l:List Obj)(i:Nat):Obj:=l.getD i { cls:=.none,data:=.dict #[] }
def Lo(n q:Str)(a b c l k f r:Nat)(t:Bool)(s:Nat)(x y z:Hu)(d e:Nat):Obj:={ cls:=.type "code",data:=.fields (List.toArray [.str n a,.str q b,.str "/claim/cut.py" c,.int l 0,.int k 0,.int 0 0,.int 0 0,.int f 0,.ref r,.bool t,.int 181 0,.ref s,.none,x,y,z,.int d 0,.int l 0,.str "/claim/cut.py" e]) }
def zzK(n:Str)(s g a i j:Nat):Obj:={ cls:=.type "type",data:=.cls { name:=n,bases:=[.ref 24],mro:=[.ref s,.ref 24,.type "ValueError",.type "Exception",.type "BaseException",.type "object"],ns:=g,qualname:=n,hasDict:=KN,slotNames:=[],subclasses:=[],abstract:=KO,collection:=KL,hasDel:=KO },slots:=(List.toArray [KJ (.ref a),KL,KJ (.str n i),KJ (.str n j),KJ (.builtin "ValueError.__new__"),KJ (.bool KN)]) }
def Zz(n:Str)(s g a i j:Nat):Obj:={ cls:=.type "type",data:=.cls { name:=n,bases:=[.ref !24],mro:=[.ref s,.ref !24,.type "ValueError",.type "Exception",.type "BaseException",.type "object"],ns:=g,qualname:=n,hasDict:=KN,slotNames:=[],subclasses:=[],abstract:=KO,collection:=KL,hasDel:=KO },slots:=(List.toArray [KJ (.ref a),KL,KJ (.str n i),KJ (.str n j),KJ (.builtin "ValueError.__new__"),KJ (.bool KN)]) }
def Mq:Hu:=.str "law_spotlook_k36_layers_rows" 752
def NH(i:Nat)(n:String)(c:Nat):Obj:=kF i n "law_spotlook_k36_layers_rows" ↑752 c
def Q3:List Obj:=[{ cls:=.none,data:=.dict #[] 0 },{ cls:=.type "module",dict:=KJ !0,data:=.plain },Ls "_wall" ↑187 ↑188 ↑189 ↑1 ↑1 ↑15 ↑16 ↑17 ↑18 ↑19 ↑191 ↑1 !192,kF ↑0 "_wall" "__main__" ↑164 !20,{ cls:=.type "type",data:=.cls { name:="SpotError",bases:=[(.type "ValueError")],mro:=[(.ref !31),(.type "ValueError"),(.type "Exception"),(.type "BaseException"),(.type "object")],ns:=30,qualname:="SpotError",hasDict:=KN,slotNames:=[],subclasses:=[(.ref !44)],abstract:=KO,collection:=KL,hasDel:=KO },slots:=(List.toArray [(KJ (.ref !22)),KL,(KJ (.str "SpotError" 196)),(KJ (.str "SpotError" 204)),(KJ (.builtin "ValueError.__new__")),(KJ (.bool KN))]) },{ cls:=.type "type",data:=.cls { name:="NoFraction",bases:=[(.ref !31)],mro:=[(.ref !44),(.ref !31),(.type "ValueError"),(.type "Exception"),(.type "BaseException"),(.type "object")],ns:=43,qualname:="NoFraction",hasDict:=KN,slotNames:=[],subclasses:=[],abstract:=KO,collection:=KL,hasDel:=KO },slots:=(List.toArray [(KJ (.ref !35)),KL,(KJ (.str "NoFraction" 214)),(KJ (.str "NoFraction" 222)),(KJ (.builtin "ValueError.__new__")),(KJ (.bool KN))]) },Ls "greatest_divisor" ↑232 ↑233 ↑234 ↑10 ↑2 ↑47 ↑48 ↑49 ↑50 ↑51 ↑237 ↑10 !238,kF ↑5 "greatest_divisor" "spotlook.fractions" ↑230 !52]
def Q2:List Obj:=[Ls "fraction" ↑240 ↑241 ↑242 ↑14 ↑2 ↑54 ↑55 ↑56 ↑57 ↑58 ↑246 ↑14 !247,kF ↑6 "fraction" "spotlook.fractions" ↑230 !59,Ls "is_less" ↑249 ↑250 ↑251 ↑21 ↑2 ↑61 ↑62 ↑63 ↑64 ↑65 ↑254 ↑21 !255,kF ↑7 "is_less" "spotlook.fractions" ↑230 !66,Ls "common_bottom" ↑257 ↑258 ↑259 ↑23 ↑1 ↑68 ↑69 ↑70 ↑71 ↑72 ↑263 ↑23 !264,kF ↑8 "common_bottom" "spotlook.fractions" ↑230 !73,Ls "top_over" ↑266 ↑267 ↑268 ↑28 ↑2 ↑75 ↑76 ↑77 ↑78 ↑79 ↑271 ↑28 !272,kF ↑9 "top_over" "spotlook.fractions" ↑230 !80]
def Q1:List Obj:=[Ls "is_ahead" ↑276 ↑277 ↑278 ↑31 ↑2 ↑82 ↑83 ↑84 ↑85 ↑86 ↑281 ↑31 !282,kF ↑11 "is_ahead" "spotlook.spots" ↑274 !87,Ls "later_of" ↑284 ↑285 ↑286 ↑35 ↑2 ↑89 ↑90 ↑91 ↑92 ↑93 ↑289 ↑35 !290,kF ↑12 "later_of" "spotlook.spots" ↑274 !94,Ls "earlier_of" ↑292 ↑293 ↑294 ↑37 ↑2 ↑96 ↑97 ↑98 ↑99 ↑100 ↑297 ↑37 !298,kF ↑13 "earlier_of" "spotlook.spots" ↑274 !101,Ls "place_among" ↑300 ↑301 ↑302 ↑39 ↑2 ↑103 ↑104 ↑105 ↑106 ↑107 ↑308 ↑39 !309,kF ↑14 "place_among" "spotlook.spots" ↑274 !108]
def Q0:List Obj:=[Ls "ahead_first" ↑311 ↑312 ↑313 ↑48 ↑1 ↑110 ↑111 ↑112 ↑113 ↑114 ↑317 ↑48 !318,kF ↑15 "ahead_first" "spotlook.spots" ↑274 !115,Ls "own_spot" ↑320 ↑321 ↑322 ↑53 ↑1 ↑117 ↑118 ↑119 ↑120 ↑121 ↑326 ↑53 !327,kF ↑16 "own_spot" "spotlook.spots" ↑274 !122,Ls "own_wall" ↑329 ↑330 ↑331 ↑56 ↑1 ↑124 ↑125 ↑126 ↑127 ↑128 ↑333 ↑56 !334,kF ↑17 "own_wall" "spotlook.spots" ↑274 !129,Ls "gap" ↑336 ↑337 ↑338 ↑58 ↑2 ↑131 ↑132 ↑133 ↑134 ↑135 ↑341 ↑58 !342,kF ↑18 "gap" "spotlook.spots" ↑274 !136]
def QZ:List Obj:=[Ls "lean" ↑344 ↑345 ↑346 ↑60 ↑2 ↑138 ↑139 ↑140 ↑141 ↑142 ↑359 ↑60 !360,kF ↑19 "lean" "spotlook.spots" ↑274 !143,Ls "side_of" ↑362 ↑363 ↑364 ↑66 ↑2 ↑145 ↑146 ↑147 ↑148 ↑149 ↑368 ↑66 !369,kF ↑20 "side_of" "spotlook.spots" ↑274 !150,Ls "spans" ↑373 ↑374 ↑375 ↑74 ↑2 ↑152 ↑153 ↑154 ↑155 ↑156 ↑378 ↑74 !379,kF ↑22 "spans" "spotlook.above" ↑371 !157,Ls "is_above" ↑381 ↑382 ↑383 ↑76 ↑2 ↑159 ↑160 ↑161 ↑162 ↑163 ↑390 ↑76 !391,kF ↑23 "is_above" "spotlook.above" ↑371 !164]
def QY:List Obj:=[(Lo "above_table" "above_table" 393 394 395 84 1 3 166 KN 167 .none .none (.ref 168) 396 397),kF ↑24 "above_table" "spotlook.above" ↑371 !169,Ls "upper_of" ↑399 ↑400 ↑401 ↑86 ↑1 ↑171 ↑172 ↑173 ↑174 ↑175 ↑405 ↑86 !406,kF ↑25 "upper_of" "spotlook.above" ↑371 !176,(Lo "upper_below" "upper_below" 408 409 410 92 2 3 178 KN 179 .none .none (.ref 180) 411 412),kF ↑26 "upper_below" "spotlook.above" ↑371 !181,Ls "face_ends" ↑416 ↑417 ↑418 ↑96 ↑2 ↑183 ↑184 ↑185 ↑186 ↑187 ↑423 ↑96 !424,kF ↑28 "face_ends" "spotlook.rings" ↑414 !188]
def QX:List Obj:=[Ls "faces_by_start" ↑426 ↑427 ↑428 ↑99 ↑1 ↑190 ↑191 ↑192 ↑193 ↑194 ↑432 ↑99 !433,kF ↑29 "faces_by_start" "spotlook.rings" ↑414 !195,Ls "is_met_sooner" ↑435 ↑436 ↑437 ↑104 ↑4 ↑197 ↑198 ↑199 ↑200 ↑201 ↑444 ↑104 !445,kF ↑30 "is_met_sooner" "spotlook.rings" ↑414 !202,Ls "face_behind" ↑447 ↑448 ↑449 ↑110 ↑3 ↑204 ↑205 ↑206 ↑207 ↑208 ↑458 ↑110 !459,kF ↑31 "face_behind" "spotlook.rings" ↑414 !209,Ls "ring_from" ↑461 ↑462 ↑463 ↑118 ↑3 ↑211 ↑212 ↑213 ↑214 ↑215 ↑469 ↑118 !470,kF ↑32 "ring_from" "spotlook.rings" ↑414 !216]
def QW:List Obj:=[Ls "rings_of" ↑472 ↑473 ↑474 ↑125 ↑1 ↑218 ↑219 ↑220 ↑221 ↑222 ↑482 ↑125 !483,kF ↑33 "rings_of" "spotlook.rings" ↑414 !223,(Lo "twice_area" "twice_area" 485 486 487 136 2 3 225 KN 226 .none .none (.ref 227) 488 489),kF ↑34 "twice_area" "spotlook.rings" ↑414 !228,Ls "outer_and_inner" ↑493 ↑494 ↑495 ↑146 ↑1 ↑230 ↑231 ↑232 ↑233 ↑234 ↑500 ↑146 !501,kF ↑36 "outer_and_inner" "spotlook.lands" ↑491 !235,Ls "first_corner" ↑503 ↑504 ↑505 ↑154 ↑2 ↑237 ↑238 ↑239 ↑240 ↑241 ↑510 ↑154 !511,kF ↑37 "first_corner" "spotlook.lands" ↑491 !242]
def QV:List Obj:=[Ls "land_about" ↑513 ↑514 ↑515 ↑159 ↑3 ↑244 ↑245 ↑246 ↑247 ↑248 ↑520 ↑159 !521,kF ↑38 "land_about" "spotlook.lands" ↑491 !249,(Lo "lands_of_faces" "lands_of_faces" 523 524 525 162 1 3 251 KN 252 .none .none (.ref 253) 526 527),kF ↑39 "lands_of_faces" "spotlook.lands" ↑491 !254,(Lo "own_plot" "own_plot" 531 532 533 175 1 3 256 KN 257 .none .none (.ref 258) 534 535),kF ↑41 "own_plot" "spotlook.plots" ↑529 !259,Ls "corners_of" ↑537 ↑538 ↑539 ↑177 ↑1 ↑261 ↑262 ↑263 ↑264 ↑265 ↑544 ↑177 !545,kF ↑42 "corners_of" "spotlook.plots" ↑529 !266]
def QU:List Obj:=[(Lo "ends_by_number" "ends_by_number" 547 548 549 183 2 3 268 KN 269 .none .none (.ref 270) 550 551),kF ↑43 "ends_by_number" "spotlook.plots" ↑529 !271,Ls "halves" ↑555 ↑556 ↑557 ↑187 ↑1 ↑273 ↑274 ↑275 ↑276 ↑277 ↑560 ↑187 !561,kF ↑45 "halves" "spotlook.ways" ↑553 !278,Ls "guide_by_halving" ↑563 ↑564 ↑565 ↑193 ↑2 ↑280 ↑281 ↑282 ↑283 ↑284 ↑568 ↑193 !569,kF ↑46 "guide_by_halving" "spotlook.ways" ↑553 !285,Ls "guide_between" ↑571 ↑572 ↑573 ↑195 ↑4 ↑287 ↑288 ↑289 ↑290 ↑291 ↑583 ↑195 !584,kF ↑47 "guide_between" "spotlook.ways" ↑553 !292]
def Nd:List Obj:=[Ls "guide_after" ↑586 ↑587 ↑588 ↑203 ↑2 ↑294 ↑295 ↑296 ↑297 ↑298 ↑595 ↑203 !596,kF ↑48 "guide_after" "spotlook.ways" ↑553 !299,Ls "side_at_corner" ↑598 ↑599 ↑600 ↑212 ↑2 ↑301 ↑302 ↑303 ↑304 ↑305 ↑603 ↑212 !604,kF ↑49 "side_at_corner" "spotlook.ways" ↑553 !306,(Lo "__init__" "Way.__init__" 618 619 620 218 2 3 315 KN 316 (.ref 317) (.ref 318) (.ref 319) 623 624),kM ↑50 ↑0 "__init__" "Way.__init__" "spotlook.ways" ↑553 !320,(Lo "after" "Way.after" 626 627 628 224 2 3 322 KN 323 (.ref 324) (.ref 325) (.ref 326) 631 632),kM ↑50 ↑1 "after" "Way.after" "spotlook.ways" ↑553 !327]
def Nc:List Obj:=[(Lo "side_at" "Way.side_at" 634 635 636 227 4 3 329 KN 330 (.ref 331) (.ref 332) (.ref 333) 641 642),kM ↑50 ↑2 "side_at" "Way.side_at" "spotlook.ways" ↑553 !334,(Lo "looks" "Way.looks" 644 645 646 232 2 3 336 KN 337 (.ref 338) (.ref 339) (.ref 340) 654 655),kM ↑50 ↑3 "looks" "Way.looks" "spotlook.ways" ↑553 !341,(Lo "look" "Way.look" 657 658 659 242 2 3 343 KN 344 (.ref 345) (.ref 346) (.ref 347) 662 663),kM ↑50 ↑4 "look" "Way.look" "spotlook.ways" ↑553 !348,(Lo "led" "Way.led" 665 666 667 245 2 3 350 KN 351 (.ref 352) (.ref 353) (.ref 354) 674 675),kM ↑50 ↑5 "led" "Way.led" "spotlook.ways" ↑553 !355]
def Nb:List Obj:=[(Lo "most" "Way.most" 677 678 679 255 1 3 357 KN 358 (.ref 359) (.ref 360) (.ref 361) 681 682),kM ↑50 ↑6 "most" "Way.most" "spotlook.ways" ↑553 !362,{ cls:=.type "type",data:=.cls { name:="Way",bases:=[(.type "object")],mro:=[(.ref !366),(.type "object")],ns:=365,qualname:="Way",hasDict:=KN,slotNames:=[],subclasses:=[(.ref !407)],abstract:=KO,collection:=KL,hasDel:=KO },slots:=(List.toArray [KL,KL,(KJ (.str "Way" 606)),(KJ (.str "Way" 614)),(KJ (.builtin "object.__new__")),(KJ (.bool KN))]) },(Lo "layers_of" "layers_of" 698 699 700 258 2 3 371 KN 372 .none .none (.ref 373) 701 702),kF ↑52 "layers_of" "spotlook.layers" ↑696 !374,(Lo "guide_of_layer" "guide_of_layer" 704 705 706 267 4 3 376 KN 377 .none .none (.ref 378) 707 708),kF ↑53 "guide_of_layer" "spotlook.layers" ↑696 !379,Ls "guide_of_wall" ↑710 ↑711 ↑712 ↑270 ↑4 ↑381 ↑382 ↑383 ↑384 ↑385 ↑718 ↑270 !719]
def Na:List Obj:=[kF ↑54 "guide_of_wall" "spotlook.layers" ↑696 !386,(Lo "__init__" "Layers.__init__" 733 734 735 275 2 3 395 KN 396 .none .none (.ref 397) 736 737),kM ↑55 ↑0 "__init__" "Layers.__init__" "spotlook.layers" ↑696 !398,(Lo "layers" "Layers.layers" 739 740 741 285 1 3 400 KN 401 .none .none (.ref 402) 742 743),kM ↑55 ↑1 "layers" "Layers.layers" "spotlook.layers" ↑696 !403,{ cls:=.type "type",data:=.cls { name:="Layers",bases:=[(.ref !366)],mro:=[(.ref !407),(.ref !366),(.type "object")],ns:=406,qualname:="Layers",hasDict:=KN,slotNames:=[],subclasses:=[],abstract:=KO,collection:=KL,hasDel:=KO },slots:=(List.toArray [(KJ (.ref !388)),KL,(KJ (.str "Layers" 721)),(KJ (.str "Layers" 729)),(KJ (.builtin "object.__new__")),(KJ (.bool KN))]) },Ls "_law_pot" ↑754 ↑755 ↑756 ↑288 ↑2 ↑410 ↑411 ↑412 ↑413 ↑414 ↑760 ↑288 !761,NH ↑57 "_law_pot" !415]
def N9:List Obj:=[Ls "_law_take" ↑763 ↑764 ↑765 ↑293 ↑2 ↑417 ↑418 ↑419 ↑420 ↑421 ↑770 ↑293 !771,NH ↑58 "_law_take" !422,Ls "_law_side" ↑773 ↑774 ↑775 ↑302 ↑2 ↑424 ↑425 ↑426 ↑427 ↑428 ↑783 ↑302 !784,NH ↑59 "_law_side" !429,Ls "_law_on" ↑786 ↑787 ↑788 ↑307 ↑2 ↑431 ↑432 ↑433 ↑434 ↑435 ↑791 ↑307 !792,NH ↑60 "_law_on" !436,Ls "_law_apart" ↑794 ↑795 ↑796 ↑309 ↑2 ↑438 ↑439 ↑440 ↑441 ↑442 ↑803 ↑309 !804,NH ↑61 "_law_apart" !443]
def N8:List Obj:=[Ls "_law_new_spot" ↑806 ↑807 ↑808 ↑316 ↑2 ↑445 ↑446 ↑447 ↑448 ↑449 ↑811 ↑316 !812,NH ↑62 "_law_new_spot" !450,Ls "_law_some_spot" ↑814 ↑815 ↑816 ↑318 ↑3 ↑452 ↑453 ↑454 ↑455 ↑456 ↑820 ↑318 !821,NH ↑63 "_law_some_spot" !457,Ls "_law_square" ↑823 ↑824 ↑825 ↑322 ↑2 ↑459 ↑460 ↑461 ↑462 ↑463 ↑831 ↑322 !832,NH ↑64 "_law_square" !464,(Lo "_law_laid" "_law_laid" 834 835 836 328 3 3 466 KN 467 .none .none (.ref 468) 837 838),NH ↑65 "_law_laid" !469]
def N7:List Obj:=[(Lo "_law_shuts_here" "_law_shuts_here" 840 841 842 333 2 3 471 KN 472 .none .none (.ref 473) 843 844),NH ↑66 "_law_shuts_here" !474,Ls "_law_frac" ↑846 ↑847 ↑848 ↑345 ↑2 ↑476 ↑477 ↑478 ↑479 ↑480 ↑853 ↑345 !854,NH ↑67 "_law_frac" !481,(Lo "_law_frame" "_law_frame" 856 857 858 351 2 3 483 KN 484 .none .none (.ref 485) 859 860),NH ↑68 "_law_frame" !486,Ls "_law_given" ↑862 ↑863 ↑864 ↑360 ↑2 ↑488 ↑489 ↑490 ↑491 ↑492 ↑871 ↑360 !872,NH ↑69 "_law_given" !493]
def N6:List Obj:=[(Lo "_law_plot" "_law_plot" 874 875 876 363 2 3 495 KN 496 .none .none (.ref 497) 877 878),NH ↑70 "_law_plot" !498,Ls "_law_height" ↑880 ↑881 ↑882 ↑365 ↑2 ↑500 ↑501 ↑502 ↑503 ↑504 ↑889 ↑365 !890,NH ↑71 "_law_height" !505,(Lo "_law_higher" "_law_higher" 892 893 894 371 3 3 507 KN 508 .none .none (.ref 509) 895 896),NH ↑72 "_law_higher" !510,Ls "_law_above" ↑898 ↑899 ↑900 ↑379 ↑2 ↑512 ↑513 ↑514 ↑515 ↑516 ↑904 ↑379 !905,NH ↑73 "_law_above" !517]
def N5:List Obj:=[Ls "_law_same" ↑907 ↑908 ↑909 ↑382 ↑2 ↑519 ↑520 ↑521 ↑522 ↑523 ↑912 ↑382 !913,NH ↑74 "_law_same" !524,(Lo "_law_layers" "_law_layers" 915 916 917 384 1 3 526 KN 527 .none .none (.ref 528) 918 919),NH ↑75 "_law_layers" !529,Ls "_law_stands_on" ↑921 ↑922 ↑923 ↑392 ↑3 ↑531 ↑532 ↑533 ↑534 ↑535 ↑928 ↑392 !929,NH ↑76 "_law_stands_on" !536,(Lo "_law_squares" "_law_squares" 931 932 933 397 2 3 538 KN 539 .none .none (.ref 540) 934 935),NH ↑77 "_law_squares" !541]
def WG:List Obj:=[Ls "law" ↑937 ↑938 ↑939 ↑408 ↑1 ↑543 ↑544 ↑545 ↑546 ↑547 ↑948 ↑408 !949,NH ↑78 "law" !548]
def kK:HZ->Ht:=λP=>(!2,kN Q3 !0)::(!3,kG P)::(!4,kN Q3 !1)::(!20,kN Q3 !2)::(!21,kN Q3 !3)::(!30,GB P)::(!31,kN Q3 !4)::(!43,GG P)::(!44,kN Q3 !5)::(!52,kN Q3 !6)::(!53,kN Q3 !7)::(!59,kN Q2 !0)::(!60,kN Q2 !1)::(!66,kN Q2 !2)::(!67,kN Q2 !3)::(!73,kN Q2 !4)::(!74,kN Q2 !5)::(!80,kN Q2 !6)::(!81,kN Q2 !7)::(!87,kN Q1 !0)::(!88,kN Q1 !1)::(!94,kN Q1 !2)::(!95,kN Q1 !3)::(!101,kN Q1 !4)::(!102,kN Q1 !5)::(!108,kN Q1 !6)::(!109,kN Q1 !7)::(!115,kN Q0 !0)::(!116,kN Q0 !1)::(!122,kN Q0 !2)::(!123,kN Q0 !3)::(!129,kN Q0 !4)::(!130,kN Q0 !5)::(!136,kN Q0 !6)::(!137,kN Q0 !7)::(!143,kN QZ !0)::(!144,kN QZ !1)::(!150,kN QZ !2)::(!151,kN QZ !3)::(!157,kN QZ !4)::(!158,kN QZ !5)::(!164,kN QZ !6)::(!165,kN QZ !7)::(!169,kN QY !0)::(!170,kN QY !1)::(!176,kN QY !2)::(!177,kN QY !3)::(!181,kN QY !4)::(!182,kN QY !5)::(!188,kN QY !6)::(!189,kN QY !7)::(!195,kN QX !0)::(!196,kN QX !1)::(!202,kN QX !2)::(!203,kN QX !3)::(!209,kN QX !4)::(!210,kN QX !5)::(!216,kN QX !6)::(!217,kN QX !7)::(!223,kN QW !0)::(!224,kN QW !1)::(!228,kN QW !2)::(!229,kN QW !3)::(!235,kN QW !4)::(!236,kN QW !5)::(!242,kN QW !6)::(!243,kN QW !7)::(!249,kN QV !0)::(!250,kN QV !1)::(!254,kN QV !2)::(!255,kN QV !3)::(!259,kN QV !4)::(!260,kN QV !5)::(!266,kN QV !6)::(!267,kN QV !7)::(!271,kN QU !0)::(!272,kN QU !1)::(!278,kN QU !2)::(!279,kN QU !3)::(!285,kN QU !4)::(!286,kN QU !5)::(!292,kN QU !6)::(!293,kN QU !7)::(!299,kN Nd !0)::(!300,kN Nd !1)::(!306,kN Nd !2)::(!307,kN Nd !3)::(!320,kN Nd !4)::(!321,kN Nd !5)::(!327,kN Nd !6)::(!328,kN Nd !7)::(!334,kN Nc !0)::(!335,kN Nc !1)::(!341,kN Nc !2)::(!342,kN Nc !3)::(!348,kN Nc !4)::(!349,kN Nc !5)::(!355,kN Nc !6)::(!356,kN Nc !7)::(!362,kN Nb !0)::(!363,kN Nb !1)::(!365,ES P)::(!366,kN Nb !2)::(!374,kN Nb !3)::(!375,kN Nb !4)::(!379,kN Nb !5)::(!380,kN Nb !6)::(!386,kN Nb !7)::(!387,kN Na !0)::(!398,kN Na !1)::(!399,kN Na !2)::(!403,kN Na !3)::(!404,kN Na !4)::(!406,Gn P)::(!407,kN Na !5)::(!415,kN Na !6)::(!416,kN Na !7)::(!422,kN N9 !0)::(!423,kN N9 !1)::(!429,kN N9 !2)::(!430,kN N9 !3)::(!436,kN N9 !4)::(!437,kN N9 !5)::(!443,kN N9 !6)::(!444,kN N9 !7)::(!450,kN N8 !0)::(!451,kN N8 !1)::(!457,kN N8 !2)::(!458,kN N8 !3)::(!464,kN N8 !4)::(!465,kN N8 !5)::(!469,kN N8 !6)::(!470,kN N8 !7)::(!474,kN N7 !0)::(!475,kN N7 !1)::(!481,kN N7 !2)::(!482,kN N7 !3)::(!486,kN N7 !4)::(!487,kN N7 !5)::(!493,kN N7 !6)::(!494,kN N7 !7)::(!498,kN N6 !0)::(!499,kN N6 !1)::(!505,kN N6 !2)::(!506,kN N6 !3)::(!510,kN N6 !4)::(!511,kN N6 !5)::(!517,kN N6 !6)::(!518,kN N6 !7)::(!524,kN N5 !0)::(!525,kN N5 !1)::(!529,kN N5 !2)::(!530,kN N5 !3)::(!536,kN N5 !4)::(!537,kN N5 !5)::(!541,kN N5 !6)::(!542,kN N5 !7)::(!548,kN WG !0)::(!549,kN WG !1)::[]
end QQ
section
namespace QQ
open PySem L2
inductive Tg{A:Type}(a:A):Type where|mk:Tg a
def pk{A:Type}{a:A}(_:Tg a):A:=a
def hE(P:HZ)(n:Str)(k:Nat)(v:Hu):J7:={ hash:=PyData.keyHash P n,key:=.str n k,val:=v }
def N3(k:Nat)(l:List J7):Obj:={ cls:=.type "dict",data:=.dict (Il l) k }
def Q9:Hu:=.str "spotlook.errors" 194
def kU(s:pe)(n q:Str)(g:Nat)(m c:Hu):FuncData:={ name:=n,qualname:=q,params:=aX s,body:=.stmts (aJ s),scope:=ao s,globals:=g,closure:=[],defaults:=.none,kwdefaults:=.none,pyModule:=m,code:=c }
def kC(s:pe)(i:Nat):pe:=match s with
 |.ClassDef (body:=b) ..=>b.getD i (.Pass #[0,0,0,0])
 |s=>s
def Lk(l:List Hu):Obj:={ cls:=.type "tuple",data:=.seq l.toArray 0 }
def Yr(l:List Hu):Obj:={ cls:=.none,data:=.fields l.toArray }
local macro_rules | `(tactic| walk_at "st") => `(tactic| (intro t; (conv at t => (arg 1; whnf)); exact pk (.mk : type_of% t)))
local macro_rules | `(⇑$n:num) => `((by refine' (?_ : Tg (top $n) → pe) .mk; walk_at "st" : pe))
def QO:pe:=⇑0
def Yn:pe:=⇑1
def RE:pe:=⇑2
def Ql:pe:=⇑3
def PH:pe:=⇑4
def N1:pe:=⇑5
def Oi:pe:=⇑6
def Mv:pe:=⇑7
def QN:pe:=⇑8
def Qu:pe:=⇑9
def Pn:pe:=⇑10
def N4:pe:=⇑11
def Pm:pe:=⇑12
def NS:pe:=⇑13
def Pl:pe:=⇑14
def Pk:pe:=⇑15
def Pj:pe:=⇑16
def Ph:pe:=⇑17
def Pf:pe:=⇑18
def Pe:pe:=⇑19
def Pc:pe:=⇑20
def RB:pe:=⇑21
def Pb:pe:=⇑22
def Pa:pe:=⇑23
def P9:pe:=⇑24
def P8:pe:=⇑25
def PZ:pe:=⇑26
def RA:pe:=⇑27
def PY:pe:=⇑28
def PX:pe:=⇑29
def PV:pe:=⇑30
def PU:pe:=⇑31
def PR:pe:=⇑32
def PQ:pe:=⇑33
def PN:pe:=⇑34
def Qz:pe:=⇑35
def PM:pe:=⇑36
def PL:pe:=⇑37
def PK:pe:=⇑38
def PJ:pe:=⇑39
def Qy:pe:=⇑40
def PD:pe:=⇑41
def PB:pe:=⇑42
def Oz:pe:=⇑43
def Qx:pe:=⇑44
def Oy:pe:=⇑45
def Ox:pe:=⇑46
def Ow:pe:=⇑47
def Ov:pe:=⇑48
def Ou:pe:=⇑49
def MG:pe:=⇑50
def Qw:pe:=⇑51
def Ot:pe:=⇑52
def Oq:pe:=⇑53
def Oo:pe:=⇑54
def OB:pe:=⇑55
def Qv:pe:=⇑56
def Om:pe:=⇑57
def Ol:pe:=⇑58
def Oj:pe:=⇑59
def Oh:pe:=⇑60
def Og:pe:=⇑61
def Of:pe:=⇑62
def Oe:pe:=⇑63
def Od:pe:=⇑64
def Oc:pe:=⇑65
def Ob:pe:=⇑66
def Oa:pe:=⇑67
def O9:pe:=⇑68
def O8:pe:=⇑69
def O7:pe:=⇑70
def O6:pe:=⇑71
def O5:pe:=⇑72
def O4:pe:=⇑73
def O3:pe:=⇑74
def O2:pe:=⇑75
def O1:pe:=⇑76
def O0:pe:=⇑77
def OZ:pe:=⇑78
def Z4:JH:=by refine'(?_:Tg (IH.main.scope)->JH) .mk;walk_at "st"
def Yc:Str:=by refine'(?_:Tg (IH.main.file)->Str) .mk;walk_at "st"
def Zv:Given:=by refine'(?_:Tg (IH.given)->Given) .mk;walk_at "st"
def Z5:ri:=Od::Oc::Ob::Oa::O9::O8::O7::O6::O5::O4::O3::O2::O1::O0::OZ::[]
def Z6:ri:=Ov::Ou::MG::Qw::Ot::Oq::Oo::OB::Qv::Om::Ol::Oj::Oh::Og::Of::Oe::Z5
def Z7:ri:=PR::PQ::PN::Qz::PM::PL::PK::PJ::Qy::PD::PB::Oz::Qx::Oy::Ox::Ow::Z6
def Z8:ri:=Pj::Ph::Pf::Pe::Pc::RB::Pb::Pa::P9::P8::PZ::RA::PY::PX::PV::PU::Z7
def pw2:HW:={ main:={ body:=QO::Yn::RE::Ql::PH::N1::Oi::Mv::QN::Qu::Pn::N4::Pm::NS::Pl::Pk::Z8,scope:=Z4,futureAnnotations:=KO,file:=Yc,more:=[] },modules:=[],parses:=[],absent:=[],harvested:=[],given:=Zv }
def ZG:ri:=O3::O2::O1::O0::OZ::[]
def ZH:ri:=Ol::Oj::Oh::Og::Of::Oe::Od::Oc::Ob::Oa::O9::O8::O7::O6::O5::O4::ZG
def ZI:ri:=PK::PJ::PD::PB::Oz::Oy::Ox::Ow::Ov::Ou::MG::Ot::Oq::Oo::OB::Om::ZH
def ZJ:ri:=Pe::Pc::Pb::Pa::P9::P8::PZ::PY::PX::PV::PU::PR::PQ::PN::PM::PL::ZI
def vw:HW:={ pw2 with main:={ pw2.main with body:=QO::RE::Ql::N1::Oi::Mv::QN::Qu::N4::Pm::NS::Pl::Pk::Pj::Ph::Pf::ZJ } }
def sx0:ri:=[QO,Yn,RE]
def sx1:ri:=[Ql,PH,N1,Oi,Mv,QN,Qu,Pn]
def sx2:ri:=[N4,Pm,NS,Pl,Pk,Pj,Ph,Pf,Pe,Pc,RB,Pb,Pa]
def sx3:ri:=[P9,P8,PZ,RA,PY,PX,PV,PU,PR,PQ,PN,Qz,PM,PL]
def sx4:ri:=[PK,PJ,Qy,PD,PB,Oz,Qx,Oy,Ox,Ow,Ov,Ou]
def sx5:ri:=[MG]
def sx6:ri:=[Qw,Ot,Oq,Oo,OB,Qv]
def sx7:ri:=[Om,Ol,Oj,Oh,Og,Of,Oe,Od,Oc,Ob,Oa,O9,O8]
def sx8:ri:=[O7,O6,O5,O4,O3,O2,O1,O0,OZ]
def WT(P:HZ):List J7:=[hE P "__doc__" 166 .none,hE P "__package__" 167 .none,hE P "__loader__" 168 (.builtin "__main__.__loader__#opaque"),hE P "__spec__" 169 .none,hE P "__annotations__" 170 (.ref 6),hE P "__builtins__" 171 (.ref 4),hE P "__file__" 173 (.str "/claim/cut.py" 172),hE P "__cached__" 174 .none]
def WS(P:HZ):List J7:=[hE P "_wall" 193 (.ref 21),hE P "SpotError" 213 (.ref 31),hE P "NoFraction" 229 (.ref 44),hE P "greatest_divisor" 239 (.ref 53),hE P "fraction" 248 (.ref 60),hE P "is_less" 256 (.ref 67),hE P "common_bottom" 265 (.ref 74),hE P "top_over" 273 (.ref 81)]
def WR(P:HZ):List J7:=[hE P "is_ahead" 283 (.ref 88),hE P "later_of" 291 (.ref 95),hE P "earlier_of" 299 (.ref 102),hE P "place_among" 310 (.ref 109),hE P "ahead_first" 319 (.ref 116),hE P "own_spot" 328 (.ref 123),hE P "own_wall" 335 (.ref 130),hE P "gap" 343 (.ref 137)]
def WQ(P:HZ):List J7:=[hE P "lean" 361 (.ref 144),hE P "side_of" 370 (.ref 151),hE P "spans" 380 (.ref 158),hE P "is_above" 392 (.ref 165),hE P "above_table" 398 (.ref 170),hE P "upper_of" 407 (.ref 177),hE P "upper_below" 413 (.ref 182),hE P "face_ends" 425 (.ref 189)]
def WO(P:HZ):List J7:=[hE P "faces_by_start" 434 (.ref 196),hE P "is_met_sooner" 446 (.ref 203),hE P "face_behind" 460 (.ref 210),hE P "ring_from" 471 (.ref 217),hE P "rings_of" 484 (.ref 224),hE P "twice_area" 490 (.ref 229),hE P "outer_and_inner" 502 (.ref 236),hE P "first_corner" 512 (.ref 243)]
def WN(P:HZ):List J7:=[hE P "land_about" 522 (.ref 250),hE P "lands_of_faces" 528 (.ref 255),hE P "own_plot" 536 (.ref 260),hE P "corners_of" 546 (.ref 267),hE P "ends_by_number" 552 (.ref 272),hE P "halves" 562 (.ref 279),hE P "guide_by_halving" 570 (.ref 286),hE P "guide_between" 585 (.ref 293)]
def WM(P:HZ):List J7:=[hE P "guide_after" 597 (.ref 300),hE P "side_at_corner" 605 (.ref 307),hE P "Way" 695 (.ref 366),hE P "layers_of" 703 (.ref 375),hE P "guide_of_layer" 709 (.ref 380),hE P "guide_of_wall" 720 (.ref 387),hE P "Layers" 751 (.ref 407),hE P "_law_pot" 762 (.ref 416)]
def WL(P:HZ):List J7:=[hE P "_law_take" 772 (.ref 423),hE P "_law_side" 785 (.ref 430),hE P "_law_on" 793 (.ref 437),hE P "_law_apart" 805 (.ref 444),hE P "_law_new_spot" 813 (.ref 451),hE P "_law_some_spot" 822 (.ref 458),hE P "_law_square" 833 (.ref 465),hE P "_law_laid" 839 (.ref 470)]
def WK(P:HZ):List J7:=[hE P "_law_shuts_here" 845 (.ref 475),hE P "_law_frac" 855 (.ref 482),hE P "_law_frame" 861 (.ref 487),hE P "_law_given" 873 (.ref 494),hE P "_law_plot" 879 (.ref 499),hE P "_law_height" 891 (.ref 506),hE P "_law_higher" 897 (.ref 511),hE P "_law_above" 906 (.ref 518)]
def WJ(P:HZ):List J7:=[hE P "_law_same" 914 (.ref 525),hE P "_law_layers" 920 (.ref 530),hE P "_law_stands_on" 930 (.ref 537),hE P "_law_squares" 936 (.ref 542),hE P "law" 950 (.ref 549)]
def QD(P:HZ):List J7:=WT P++(WS P++(WR P++(WQ P++(WO P++(WN P++(WM P++(WL P++(WK P++(WJ P)))))))))
def NJ:List Hu:=[(.int 1 0),(.int 0 0),(.ref 20),(.int 5 0),(.int 0 0),(.ref 27),(.int 7 0),(.int 0 0),(.ref 40),(.int 10 0),(.int 0 0),(.ref 52),(.int 14 0),(.int 0 0),(.ref 59),(.int 21 0),(.int 0 0),(.ref 66),(.int 23 0),(.int 0 0),(.ref 73),(.int 28 0),(.int 0 0),(.ref 80),(.int 31 0),(.int 0 0),(.ref 87),(.int 35 0),(.int 0 0),(.ref 94),(.int 37 0),(.int 0 0),(.ref 101),(.int 39 0),(.int 0 0),(.ref 108),(.int 48 0),(.int 0 0),(.ref 115),(.int 53 0),(.int 0 0),(.ref 122),(.int 56 0),(.int 0 0),(.ref 129),(.int 58 0),(.int 0 0),(.ref 136),(.int 60 0),(.int 0 0),(.ref 143),(.int 66 0),(.int 0 0),(.ref 150),(.int 74 0),(.int 0 0),(.ref 157),(.int 76 0),(.int 0 0),(.ref 164),(.int 84 0),(.int 0 0),(.ref 169),(.int 86 0),(.int 0 0),(.ref 176),(.int 92 0),(.int 0 0),(.ref 181),(.int 96 0),(.int 0 0),(.ref 188),(.int 99 0),(.int 0 0),(.ref 195),(.int 104 0),(.int 0 0),(.ref 202),(.int 110 0),(.int 0 0),(.ref 209),(.int 118 0),(.int 0 0),(.ref 216),(.int 125 0),(.int 0 0),(.ref 223),(.int 136 0),(.int 0 0),(.ref 228),(.int 146 0),(.int 0 0),(.ref 235),(.int 154 0),(.int 0 0),(.ref 242),(.int 159 0),(.int 0 0),(.ref 249),(.int 162 0),(.int 0 0),(.ref 254),(.int 175 0),(.int 0 0),(.ref 259),(.int 177 0),(.int 0 0),(.ref 266),(.int 183 0),(.int 0 0),(.ref 271),(.int 187 0),(.int 0 0),(.ref 278),(.int 193 0),(.int 0 0),(.ref 285),(.int 195 0),(.int 0 0),(.ref 292),(.int 203 0),(.int 0 0),(.ref 299),(.int 212 0),(.int 0 0),(.ref 306),(.int 216 0),(.int 0 0),(.ref 313),(.int 258 0),(.int 0 0),(.ref 374),(.int 267 0),(.int 0 0),(.ref 379),(.int 270 0),(.int 0 0),(.ref 386),(.int 273 0),(.int 0 0),(.ref 393),(.int 288 0),(.int 0 0),(.ref 415),(.int 293 0),(.int 0 0),(.ref 422),(.int 302 0),(.int 0 0),(.ref 429),(.int 307 0),(.int 0 0),(.ref 436),(.int 309 0),(.int 0 0),(.ref 443),(.int 316 0),(.int 0 0),(.ref 450),(.int 318 0),(.int 0 0),(.ref 457),(.int 322 0),(.int 0 0),(.ref 464),(.int 328 0),(.int 0 0),(.ref 469),(.int 333 0),(.int 0 0),(.ref 474),(.int 345 0),(.int 0 0),(.ref 481),(.int 351 0),(.int 0 0),(.ref 486),(.int 360 0),(.int 0 0),(.ref 493),(.int 363 0),(.int 0 0),(.ref 498),(.int 365 0),(.int 0 0),(.ref 505),(.int 371 0),(.int 0 0),(.ref 510),(.int 379 0),(.int 0 0),(.ref 517),(.int 382 0),(.int 0 0),(.ref 524),(.int 384 0),(.int 0 0),(.ref 529),(.int 392 0),(.int 0 0),(.ref 536),(.int 397 0),(.int 0 0),(.ref 541),(.int 408 0),(.int 0 0),(.ref 548)]
def hC(n:Str)(i j k a l b c d e m o p q r f g h:Nat)(s:Bool):Obj:={ cls:=.type "code",data:=.fields (List.toArray [.str n i,.str n j,.str "/claim/cut.py" k,.int (KA m) 0,.int (KA o) 0,.int (KA p) 0,.int (KA q) 0,.int (KA r) 0,.ref l,.bool s,.int (KA f) 0,.ref b,.none,.ref c,.ref d,.ref e,.int (KA g) 0,.int (KA h) 0,.str "/claim/cut.py" a]) }
def hF(t:Hu)(s:pe)(n:Str)(g:Nat)(m c:Hu):Obj:={ cls:=t,data:=.func (kU s n n g m c) }
def Li(s:pe)(n:Str)(m:Hu)(r:Nat):Obj:=hF (.type "function") s n 3 m (.ref r)
def YX:Obj:=Lk []
def YW:Obj:={ cls:=.none,data:=.fields (Il (NJ.take 0)) }
def YV:Obj:=Lo "<module>" "<module>" 182 183 184 1 0 0 11 KO 12 .none .none .none 185 186
def YU:Obj:={ cls:=(.type "frame"),slots:=(List.toArray [(KJ (.ref 13)),(KJ (.ref 3)),(KJ (.ref 3)),KL,(KJ (.str "__main__" 164)),KL,(KJ (.ref 0))]) }
def YT(P:HZ):Obj:=N3 11 (hE P "__name__" 165 Q9::(QD P).take 10)
def YS:Obj:={ cls:=.none,data:=.fields (Il (NJ.take 6)) }
def YR:Obj:=Lk [(.str "k" 190)]
def YQ:Obj:=hF .none QO "_wall" 0 .none .none
def YO:Obj:=hC "_wall" 187 188 189 192 15 16 17 18 19 1 1 0 0 3 181 191 1 KN
def YN:Obj:=Li QO "_wall" (.str "__main__" 164) 20
def YM:Obj:=Lk [(.type "ValueError")]
def YL:Obj:={ cls:=(.type "builtin_function_or_method"),data:=(.fields (List.toArray [(.builtin "type.__prepare__"),(.type "type")])) }
def YK(P:HZ):Obj:=N3 4 [hE P "__module__" 203 Q9,hE P "__qualname__" 205 (.str "SpotError" 204),hE P "__firstlineno__" 207 (.int 5 206),hE P "__static_attributes__" 208 (.ref 29)]
def YJ:Obj:=Lo "SpotError" "SpotError" 198 199 200 5 0 0 25 KO 26 .none .none .none 201 202
def YI:Obj:={ cls:=(.type "frame"),slots:=(List.toArray [(KJ (.ref 27)),(KJ (.ref 3)),(KJ (.ref 24)),KL,(KJ Q9),KL,(KJ (.ref 0))]) }
def YH(P:HZ):Obj:=N3 3 [hE P "__module__" 203 Q9,hE P "__firstlineno__" 207 (.int 5 206),hE P "__static_attributes__" 208 (.ref 29),hE P "__weakref__" 210 (.ref 32),hE P "__doc__" 211 .none]
def YG:Obj:={ cls:=(.type "type"),data:=(.cls { name:="SpotError",bases:=[(.type "ValueError")],mro:=[(.ref 31),(.type "ValueError"),(.type "Exception"),(.type "BaseException"),(.type "object")],ns:=30,qualname:="SpotError",hasDict:=KN,slotNames:=[],subclasses:=[],abstract:=KO,collection:=KL,hasDel:=KO }),slots:=(List.toArray [(KJ (.ref 22)),KL,(KJ (.str "SpotError" 196)),(KJ (.str "SpotError" 204)),(KJ (.builtin "ValueError.__new__")),(KJ (.bool KN))]) }
def YF:Obj:={ cls:=(.type "getset_descriptor"),data:=(.fields (List.toArray [(.str "__weakref__" 209),(.ref 31),(.builtin "ExceptionGroup.__weakref__"),.none])) }
def YE:Obj:={ cls:=(.type "super"),data:=(.fields (List.toArray [(.ref 31),(.ref 31),(.ref 31)])) }
def YD:Obj:={ cls:=(.type "builtin_function_or_method"),data:=(.fields (List.toArray [(.builtin "object.__init_subclass__"),(.ref 31)])) }
def YC(P:HZ):Obj:=N3 17 (hE P "__name__" 165 (.str "spotlook.spots" 274)::(QD P).take 16)
def YB:Obj:={ cls:=.none,data:=.fields (Il (NJ.take 24)) }
def YA:Obj:={ cls:=(.type "type"),data:=(.cls { name:="SpotError",bases:=[(.type "ValueError")],mro:=[(.ref 31),(.type "ValueError"),(.type "Exception"),(.type "BaseException"),(.type "object")],ns:=30,qualname:="SpotError",hasDict:=KN,slotNames:=[],subclasses:=[(.ref 44)],abstract:=KO,collection:=KL,hasDel:=KO }),slots:=(List.toArray [(KJ (.ref 22)),KL,(KJ (.str "SpotError" 196)),(KJ (.str "SpotError" 204)),(KJ (.builtin "ValueError.__new__")),(KJ (.bool KN))]) }
def Xz:Obj:=Lk [(.ref 31)]
def Xy(P:HZ):Obj:=N3 4 [hE P "__module__" 221 Q9,hE P "__qualname__" 223 (.str "NoFraction" 222),hE P "__firstlineno__" 225 (.int 7 224),hE P "__static_attributes__" 226 (.ref 42)]
def Xx:Obj:=Lo "NoFraction" "NoFraction" 216 217 218 7 0 0 38 KO 39 .none .none .none 219 220
def Xw:Obj:={ cls:=(.type "frame"),slots:=(List.toArray [(KJ (.ref 40)),(KJ (.ref 3)),(KJ (.ref 37)),KL,(KJ Q9),KL,(KJ (.ref 0))]) }
def Xv(P:HZ):Obj:=N3 2 [hE P "__module__" 221 Q9,hE P "__firstlineno__" 225 (.int 7 224),hE P "__static_attributes__" 226 (.ref 42),hE P "__doc__" 227 .none]
def Xu:Obj:={ cls:=(.type "type"),data:=(.cls { name:="NoFraction",bases:=[(.ref 31)],mro:=[(.ref 44),(.ref 31),(.type "ValueError"),(.type "Exception"),(.type "BaseException"),(.type "object")],ns:=43,qualname:="NoFraction",hasDict:=KN,slotNames:=[],subclasses:=[],abstract:=KO,collection:=KL,hasDel:=KO }),slots:=(List.toArray [(KJ (.ref 35)),KL,(KJ (.str "NoFraction" 214)),(KJ (.str "NoFraction" 222)),(KJ (.builtin "ValueError.__new__")),(KJ (.bool KN))]) }
def Xt:Obj:={ cls:=(.type "super"),data:=(.fields (List.toArray [(.ref 44),(.ref 44),(.ref 44)])) }
def Xs:Obj:={ cls:=(.type "builtin_function_or_method"),data:=(.fields (List.toArray [(.builtin "object.__init_subclass__"),(.ref 44)])) }
def Xr:Obj:=Lk [(.str "one" 235),(.str "other" 236)]
def Xq:Obj:=hF .none N1 "greatest_divisor" 0 .none .none
def Xp:Obj:=hC "greatest_divisor" 232 233 234 238 47 48 49 50 51 10 2 0 0 3 181 237 10 KN
def Xo:Obj:=Li N1 "greatest_divisor" (.str "spotlook.fractions" 230) 52
def Xn:Obj:=Lk [(.str "top" 243),(.str "bottom" 244),(.str "divisor" 245)]
def Xm:Obj:=hF .none Oi "fraction" 0 .none .none
def Xl:Obj:=hC "fraction" 240 241 242 247 54 55 56 57 58 14 2 0 0 3 181 246 14 KN
def Xk:Obj:=Li Oi "fraction" (.str "spotlook.fractions" 230) 59
def Xj:Obj:=Lk [(.str "one" 252),(.str "other" 253)]
def Xi:Obj:=hF .none Mv "is_less" 0 .none .none
def Xh:Obj:=hC "is_less" 249 250 251 255 61 62 63 64 65 21 2 0 0 3 181 254 21 KN
def Xg:Obj:=Li Mv "is_less" (.str "spotlook.fractions" 230) 66
def Xf:Obj:=Lk [(.str "parts" 260),(.str "common" 261),(.str "part" 262)]
def Xe:Obj:=hF .none QN "common_bottom" 0 .none .none
def Xd:Obj:=hC "common_bottom" 257 258 259 264 68 69 70 71 72 23 1 0 0 3 181 263 23 KN
def Xc:Obj:=Li QN "common_bottom" (.str "spotlook.fractions" 230) 73
def Xb:Obj:=Lk [(.str "part" 269),(.str "bottom" 270)]
def Xa:Obj:=hF .none Qu "top_over" 0 .none .none
def X9:Obj:=hC "top_over" 266 267 268 272 75 76 77 78 79 28 2 0 0 3 181 271 28 KN
def X8:Obj:=Li Qu "top_over" (.str "spotlook.fractions" 230) 80
def X7(P:HZ):Obj:=N3 29 (hE P "__name__" 165 (.str "spotlook.above" 371)::(QD P).take 28)
def X6:Obj:={ cls:=.none,data:=.fields (Il (NJ.take 60)) }
def X5:Obj:=Lk [(.str "one" 279),(.str "other" 280)]
def X4:Obj:=hF .none N4 "is_ahead" 0 .none .none
def X3:Obj:=hC "is_ahead" 276 277 278 282 82 83 84 85 86 31 2 0 0 3 181 281 31 KN
def X2:Obj:=Li N4 "is_ahead" (.str "spotlook.spots" 274) 87
def X1:Obj:=Lk [(.str "one" 287),(.str "other" 288)]
def X0:Obj:=hF .none Pm "later_of" 0 .none .none
def XZ:Obj:=hC "later_of" 284 285 286 290 89 90 91 92 93 35 2 0 0 3 181 289 35 KN
def XY:Obj:=Li Pm "later_of" (.str "spotlook.spots" 274) 94
def XX:Obj:=Lk [(.str "one" 295),(.str "other" 296)]
def XW:Obj:=hF .none NS "earlier_of" 0 .none .none
def XU:Obj:=hC "earlier_of" 292 293 294 298 96 97 98 99 100 37 2 0 0 3 181 297 37 KN
def XT:Obj:=Li NS "earlier_of" (.str "spotlook.spots" 274) 101
def XS:Obj:=Lk [(.str "row" 303),(.str "spot" 304),(.str "low" 305),(.str "high" 306),(.str "middle" 307)]
def XR:Obj:=hF .none Pl "place_among" 0 .none .none
def XQ:Obj:=hC "place_among" 300 301 302 309 103 104 105 106 107 39 2 0 0 3 181 308 39 KN
def XO:Obj:=Li Pl "place_among" (.str "spotlook.spots" 274) 108
def XN:Obj:=Lk [(.str "spots" 314),(.str "row" 315),(.str "spot" 316)]
def XM:Obj:=hF .none Pk "ahead_first" 0 .none .none
def XJ:Obj:=hC "ahead_first" 311 312 313 318 110 111 112 113 114 48 1 0 0 3 181 317 48 KN
def XI:Obj:=Li Pk "ahead_first" (.str "spotlook.spots" 274) 115
def XH:Obj:=Lk [(.str "spot" 323),(.str "x" 324),(.str "y" 325)]
def XG:Obj:=hF .none Pj "own_spot" 0 .none .none
def XF:Obj:=hC "own_spot" 320 321 322 327 117 118 119 120 121 53 1 0 0 3 181 326 53 KN
def XE:Obj:=Li Pj "own_spot" (.str "spotlook.spots" 274) 122
def XD:Obj:=Lk [(.str "wall" 332)]
def XC:Obj:=hF .none Ph "own_wall" 0 .none .none
def XB:Obj:=hC "own_wall" 329 330 331 334 124 125 126 127 128 56 1 0 0 3 181 333 56 KN
def XA:Obj:=Li Ph "own_wall" (.str "spotlook.spots" 274) 129
def Wz:Obj:=Lk [(.str "one" 339),(.str "other" 340)]
def Wy:Obj:=hF .none Pf "gap" 0 .none .none
def Wx:Obj:=hC "gap" 336 337 338 342 131 132 133 134 135 58 2 0 0 3 181 341 58 KN
def Ww:Obj:=Li Pf "gap" (.str "spotlook.spots" 274) 136
def Wv:Obj:=Lk [(.str "wall" 347),(.str "spot" 348),(.str "a" 349),(.str "b" 350),(.str "c" 351),(.str "d" 352),(.str "x" 353),(.str "y" 354),(.str "across" 355),(.str "up" 356),(.str "along" 357),(.str "high" 358)]
def Wu:Obj:=hF .none Pe "lean" 0 .none .none
def Wt:Obj:=hC "lean" 344 345 346 360 138 139 140 141 142 60 2 0 0 3 181 359 60 KN
def Ws:Obj:=Li Pe "lean" (.str "spotlook.spots" 274) 143
def WE:Obj:=Lk [(.str "wall" 365),(.str "spot" 366),(.str "top" 367)]
def WD:Obj:=hF .none Pc "side_of" 0 .none .none
def WC:Obj:=hC "side_of" 362 363 364 369 145 146 147 148 149 66 2 0 0 3 181 368 66 KN
def WB:Obj:=Li Pc "side_of" (.str "spotlook.spots" 274) 150
def WA:Obj:=Lk [(.str "wall" 376),(.str "spot" 377)]
def Vz:Obj:=hF .none Pb "spans" 0 .none .none
def Vy:Obj:=hC "spans" 373 374 375 379 152 153 154 155 156 74 2 0 0 3 181 378 74 KN
def Vx:Obj:=Li Pb "spans" (.str "spotlook.above" 371) 157
def Vw:Obj:=Lk [(.str "one" 384),(.str "other" 385),(.str "start" 386),(.str "end" 387),(.str "place" 388),(.str "deciding" 389)]
def Vv:Obj:=hF .none Pa "is_above" 0 .none .none
def Vu:Obj:=hC "is_above" 381 382 383 391 159 160 161 162 163 76 2 0 0 3 181 390 76 KN
def Vt:Obj:=Li Pa "is_above" (.str "spotlook.above" 371) 164
def Vs(P:HZ):Obj:=N3 41 (hE P "__name__" 165 (.str "spotlook.lands" 491)::(QD P).take 40)
def Vr:Obj:={ cls:=.none,data:=.fields (Il (NJ.take 96)) }
def Vq:Obj:=hF .none P9 "above_table" 0 .none .none
def Vp:Obj:=Lo "above_table" "above_table" 393 394 395 84 1 3 166 KN 167 .none .none (.ref 168) 396 397
def Vo:Obj:=Li P9 "above_table" (.str "spotlook.above" 371) 169
def Vn:Obj:=Lk [(.str "walls" 402),(.str "upper" 403),(.str "wall" 404)]
def Vm:Obj:=hF .none P8 "upper_of" 0 .none .none
def Vl:Obj:=hC "upper_of" 399 400 401 406 171 172 173 174 175 86 1 0 0 3 181 405 86 KN
def Vk:Obj:=Li P8 "upper_of" (.str "spotlook.above" 371) 176
def Vj:Obj:=hF .none PZ "upper_below" 0 .none .none
def Vi:Obj:=Lo "upper_below" "upper_below" 408 409 410 92 2 3 178 KN 179 .none .none (.ref 180) 411 412
def Vh:Obj:=Li PZ "upper_below" (.str "spotlook.above" 371) 181
def Vg:Obj:=Lk [(.str "plot" 419),(.str "face" 420),(.str "first" 421),(.str "second" 422)]
def Vf:Obj:=hF .none PY "face_ends" 0 .none .none
def Ve:Obj:=hC "face_ends" 416 417 418 424 183 184 185 186 187 96 2 0 0 3 181 423 96 KN
def Vd:Obj:=Li PY "face_ends" (.str "spotlook.rings" 414) 188
def Vb:Obj:=Lk [(.str "plot" 429),(.str "leaving" 430),(.str "face" 431)]
def Va:Obj:=hF .none PX "faces_by_start" 0 .none .none
def V9:Obj:=hC "faces_by_start" 426 427 428 433 190 191 192 193 194 99 1 0 0 3 181 432 99 KN
def V8:Obj:=Li PX "faces_by_start" (.str "spotlook.rings" 414) 195
def V7:Obj:=Lk [(.str "corner" 438),(.str "came_from" 439),(.str "one" 440),(.str "other" 441),(.str "turn" 442),(.str "other_turn" 443)]
def V6:Obj:=hF .none PV "is_met_sooner" 0 .none .none
def V5:Obj:=hC "is_met_sooner" 435 436 437 445 197 198 199 200 201 104 4 0 0 3 181 444 104 KN
def V4:Obj:=Li PV "is_met_sooner" (.str "spotlook.rings" 414) 202
def V3:Obj:=Lk [(.str "plot" 450),(.str "leaving" 451),(.str "face" 452),(.str "came_from" 453),(.str "corner" 454),(.str "back" 455),(.str "best" 456),(.str "rival" 457)]
def V2:Obj:=hF .none PU "face_behind" 0 .none .none
def V1:Obj:=hC "face_behind" 447 448 449 459 204 205 206 207 208 110 3 0 0 3 181 458 110 KN
def V0:Obj:=Li PU "face_behind" (.str "spotlook.rings" 414) 209
def VZ:Obj:=Lk [(.str "plot" 464),(.str "leaving" 465),(.str "face" 466),(.str "ring" 467),(.str "at" 468)]
def VY:Obj:=hF .none PR "ring_from" 0 .none .none
def VX:Obj:=hC "ring_from" 461 462 463 470 211 212 213 214 215 118 3 0 0 3 181 469 118 KN
def VW:Obj:=Li PR "ring_from" (.str "spotlook.rings" 414) 216
def VU:Obj:=Lk [(.str "plot" 475),(.str "leaving" 476),(.str "rings" 477),(.str "gone_along" 478),(.str "face" 479),(.str "ring" 480),(.str "part" 481)]
def VT:Obj:=hF .none PQ "rings_of" 0 .none .none
def VS:Obj:=hC "rings_of" 472 473 474 483 218 219 220 221 222 125 1 0 0 3 181 482 125 KN
def VR:Obj:=Li PQ "rings_of" (.str "spotlook.rings" 414) 223
def VQ:Obj:=hF .none PN "twice_area" 0 .none .none
def VP:Obj:=Lo "twice_area" "twice_area" 485 486 487 136 2 3 225 KN 226 .none .none (.ref 227) 488 489
def VO:Obj:=Li PN "twice_area" (.str "spotlook.rings" 414) 228
def VN:Obj:=Lk [(.str "plot" 496),(.str "outers" 497),(.str "inners" 498),(.str "ring" 499)]
def VM:Obj:=hF .none PM "outer_and_inner" 0 .none .none
def VL:Obj:=hC "outer_and_inner" 493 494 495 501 230 231 232 233 234 146 1 0 0 3 181 500 146 KN
def VJ:Obj:=Li PM "outer_and_inner" (.str "spotlook.lands" 491) 235
def VI:Obj:=Lk [(.str "plot" 506),(.str "ring" 507),(.str "first" 508),(.str "face" 509)]
def VG:Obj:=hF .none PL "first_corner" 0 .none .none
def VF:Obj:=hC "first_corner" 503 504 505 511 237 238 239 240 241 154 2 0 0 3 181 510 154 KN
def VE:Obj:=Li PL "first_corner" (.str "spotlook.lands" 491) 242
def VD(P:HZ):Obj:=N3 51 (hE P "__name__" 165 (.str "spotlook.ways" 553)::(QD P).take 50)
def VC:Obj:={ cls:=.none,data:=.fields (Il (NJ.take 126)) }
def VB:Obj:=Lk [(.str "plot" 516),(.str "lands" 517),(.str "corner" 518),(.str "wall" 519)]
def VA:Obj:=hF .none PK "land_about" 0 .none .none
def Uz:Obj:=hC "land_about" 513 514 515 521 244 245 246 247 248 159 3 0 0 3 181 520 159 KN
def Uy:Obj:=Li PK "land_about" (.str "spotlook.lands" 491) 249
def Ux:Obj:=hF .none PJ "lands_of_faces" 0 .none .none
def Uw:Obj:=Lo "lands_of_faces" "lands_of_faces" 523 524 525 162 1 3 251 KN 252 .none .none (.ref 253) 526 527
def Uv:Obj:=Li PJ "lands_of_faces" (.str "spotlook.lands" 491) 254
def Uu:Obj:=hF .none PD "own_plot" 0 .none .none
def Ut:Obj:=Lo "own_plot" "own_plot" 531 532 533 175 1 3 256 KN 257 .none .none (.ref 258) 534 535
def Us:Obj:=Li PD "own_plot" (.str "spotlook.plots" 529) 259
def Ur:Obj:=Lk [(.str "plot" 540),(.str "corners" 541),(.str "wall" 542),(.str "end" 543)]
def Uq:Obj:=hF .none PB "corners_of" 0 .none .none
def Uo:Obj:=hC "corners_of" 537 538 539 545 261 262 263 264 265 177 1 0 0 3 181 544 177 KN
def Um:Obj:=Li PB "corners_of" (.str "spotlook.plots" 529) 266
def Ul:Obj:=hF .none Oz "ends_by_number" 0 .none .none
def Uk:Obj:=Lo "ends_by_number" "ends_by_number" 547 548 549 183 2 3 268 KN 269 .none .none (.ref 270) 550 551
def Uj:Obj:=Li Oz "ends_by_number" (.str "spotlook.plots" 529) 271
def Ui:Obj:=Lk [(.str "n" 558),(.str "many" 559)]
def Uh:Obj:=hF .none Oy "halves" 0 .none .none
def Ug:Obj:=hC "halves" 555 556 557 561 273 274 275 276 277 187 1 0 0 3 181 560 187 KN
def Ue:Obj:=Li Oy "halves" (.str "spotlook.ways" 553) 278
def Ud:Obj:=Lk [(.str "things" 566),(.str "guides" 567)]
def Uc:Obj:=hF .none Ox "guide_by_halving" 0 .none .none
def Ub:Obj:=hC "guide_by_halving" 563 564 565 569 280 281 282 283 284 193 2 0 0 3 181 568 193 KN
def Ua:Obj:=Li Ox "guide_by_halving" (.str "spotlook.ways" 553) 285
def U9:Obj:=Lk [(.str "things" 574),(.str "guides" 575),(.str "low" 576),(.str "high" 577),(.str "middle" 578),(.str "word" 579),(.str "number" 580),(.str "before" 581),(.str "past" 582)]
def U8:Obj:=hF .none Ow "guide_between" 0 .none .none
def U7:Obj:=hC "guide_between" 571 572 573 584 287 288 289 290 291 195 4 0 0 3 181 583 195 KN
def U6:Obj:=Li Ow "guide_between" (.str "spotlook.ways" 553) 292
def U5:Obj:=Lk [(.str "guide" 589),(.str "side" 590),(.str "word" 591),(.str "number" 592),(.str "before" 593),(.str "past" 594)]
def U4:Obj:=hF .none Ov "guide_after" 0 .none .none
def U3:Obj:=hC "guide_after" 586 587 588 596 294 295 296 297 298 203 2 0 0 3 181 595 203 KN
def U1:Obj:=Li Ov "guide_after" (.str "spotlook.ways" 553) 299
def U0:Obj:=Lk [(.str "corner" 601),(.str "spot" 602)]
def UZ:Obj:=hF .none Ou "side_at_corner" 0 .none .none
def UY:Obj:=hC "side_at_corner" 598 599 600 604 301 302 303 304 305 212 2 0 0 3 181 603 212 KN
def UX:Obj:=Li Ou "side_at_corner" (.str "spotlook.ways" 553) 306
def UW(P:HZ):Obj:=N3 52 (hE P "__name__" 165 (.str "spotlook.ways" 553)::(QD P).take 51)
def UU:Obj:={ cls:=.none,data:=.fields (Il (NJ.take 129)) }
def UT(P:HZ):Obj:=N3 11 [hE P "__module__" 613 (.str "spotlook.ways" 553),hE P "__qualname__" 615 (.str "Way" 614),hE P "__firstlineno__" 617 (.int 216 616),hE P "__init__" 625 (.ref 321),hE P "after" 633 (.ref 328),hE P "side_at" 643 (.ref 335),hE P "looks" 656 (.ref 342),hE P "look" 664 (.ref 349),hE P "led" 676 (.ref 356),hE P "most" 683 (.ref 363),hE P "__static_attributes__" 688 (.ref 364)]
def US:Obj:=Yr [(.int 218 0),(.int 4 0),(.ref 320),(.int 224 0),(.int 4 0),(.ref 327),(.int 227 0),(.int 4 0),(.ref 334),(.int 232 0),(.int 4 0),(.ref 341),(.int 242 0),(.int 4 0),(.ref 348),(.int 245 0),(.int 4 0),(.ref 355),(.int 255 0),(.int 4 0),(.ref 362)]
def UR:Obj:=Lo "Way" "Way" 608 609 610 216 0 0 311 KO 312 .none .none .none 611 612
def UQ:Obj:={ cls:=(.type "frame"),slots:=(List.toArray [(KJ (.ref 313)),(KJ (.ref 3)),(KJ (.ref 310)),KL,(KJ (.str "spotlook.ways" 553)),KL,(KJ (.ref 0))]) }
def UP:Obj:=Lk [(.str "self" 621),(.str "plot" 622)]
def UM:Obj:={ cls:=.none,data:=(.func (kU (kC MG 0) "__init__" "Way.__init__" 0 .none .none)) }
def UL:Obj:=Lo "__init__" "Way.__init__" 618 619 620 218 2 3 315 KN 316 (.ref 317) (.ref 318) (.ref 319) 623 624
def UK:Obj:={ cls:=(.type "function"),data:=(.func (kU (kC MG 0) "__init__" "Way.__init__" 3 (.str "spotlook.ways" 553) (.ref 320))) }
def UJ:Obj:=Lk [(.str "self" 629),(.str "sides" 630)]
def UI:Obj:={ cls:=.none,data:=(.func (kU (kC MG 1) "after" "Way.after" 0 .none .none)) }
def UH:Obj:=Lo "after" "Way.after" 626 627 628 224 2 3 322 KN 323 (.ref 324) (.ref 325) (.ref 326) 631 632
def UG:Obj:={ cls:=(.type "function"),data:=(.func (kU (kC MG 1) "after" "Way.after" 3 (.str "spotlook.ways" 553) (.ref 327))) }
def UE:Obj:=Lk [(.str "self" 637),(.str "word" 638),(.str "number" 639),(.str "spot" 640)]
def UD:Obj:={ cls:=.none,data:=(.func (kU (kC MG 2) "side_at" "Way.side_at" 0 .none .none)) }
def UC:Obj:=Lo "side_at" "Way.side_at" 634 635 636 227 4 3 329 KN 330 (.ref 331) (.ref 332) (.ref 333) 641 642
def Tz:Obj:={ cls:=(.type "function"),data:=(.func (kU (kC MG 2) "side_at" "Way.side_at" 3 (.str "spotlook.ways" 553) (.ref 334))) }
def Tw:Obj:=Lk [(.str "self" 647),(.str "spot" 648),(.str "made" 649),(.str "guide" 650),(.str "word" 651),(.str "number" 652),(.str "side" 653)]
def Tv:Obj:={ cls:=.none,data:=(.func (kU (kC MG 3) "looks" "Way.looks" 0 .none .none)) }
def Tu:Obj:=Lo "looks" "Way.looks" 644 645 646 232 2 3 336 KN 337 (.ref 338) (.ref 339) (.ref 340) 654 655
def Tt:Obj:={ cls:=(.type "function"),data:=(.func (kU (kC MG 3) "looks" "Way.looks" 3 (.str "spotlook.ways" 553) (.ref 341))) }
def Ts:Obj:=Lk [(.str "self" 660),(.str "spot" 661)]
def Tr:Obj:={ cls:=.none,data:=(.func (kU (kC MG 4) "look" "Way.look" 0 .none .none)) }
def Tq:Obj:=Lo "look" "Way.look" 657 658 659 242 2 3 343 KN 344 (.ref 345) (.ref 346) (.ref 347) 662 663
def Tp:Obj:={ cls:=(.type "function"),data:=(.func (kU (kC MG 4) "look" "Way.look" 3 (.str "spotlook.ways" 553) (.ref 348))) }
def To:Obj:=Lk [(.str "self" 668),(.str "looks" 669),(.str "guide" 670),(.str "word" 671),(.str "number" 672),(.str "side" 673)]
def Tn:Obj:={ cls:=.none,data:=(.func (kU (kC MG 5) "led" "Way.led" 0 .none .none)) }
def Tj:Obj:=Lo "led" "Way.led" 665 666 667 245 2 3 350 KN 351 (.ref 352) (.ref 353) (.ref 354) 674 675
def Ti:Obj:={ cls:=(.type "function"),data:=(.func (kU (kC MG 5) "led" "Way.led" 3 (.str "spotlook.ways" 553) (.ref 355))) }
def Th:Obj:=Lk [(.str "self" 680)]
def Tf:Obj:={ cls:=.none,data:=(.func (kU (kC MG 6) "most" "Way.most" 0 .none .none)) }
def Te:Obj:=Lo "most" "Way.most" 677 678 679 255 1 3 357 KN 358 (.ref 359) (.ref 360) (.ref 361) 681 682
def Td:Obj:={ cls:=(.type "function"),data:=(.func (kU (kC MG 6) "most" "Way.most" 3 (.str "spotlook.ways" 553) (.ref 362))) }
def Tc:Obj:=Lk [(.str "corners" 684),(.str "guide" 685),(.str "most_looks" 686),(.str "plot" 687)]
def Ta(P:HZ):Obj:=N3 4 [hE P "__module__" 613 (.str "spotlook.ways" 553),hE P "__firstlineno__" 617 (.int 216 616),hE P "__init__" 625 (.ref 321),hE P "after" 633 (.ref 328),hE P "side_at" 643 (.ref 335),hE P "looks" 656 (.ref 342),hE P "look" 664 (.ref 349),hE P "led" 676 (.ref 356),hE P "most" 683 (.ref 363),hE P "__static_attributes__" 688 (.ref 364),hE P "__dict__" 690 (.ref 367),hE P "__weakref__" 692 (.ref 368),hE P "__doc__" 693 .none]
def T9:Obj:={ cls:=(.type "type"),data:=(.cls { name:="Way",bases:=[(.type "object")],mro:=[(.ref 366),(.type "object")],ns:=365,qualname:="Way",hasDict:=KN,slotNames:=[],subclasses:=[],abstract:=KO,collection:=KL,hasDel:=KO }),slots:=(List.toArray [KL,KL,(KJ (.str "Way" 606)),(KJ (.str "Way" 614)),(KJ (.builtin "object.__new__")),(KJ (.bool KN))]) }
def T8:Obj:={ cls:=(.type "getset_descriptor"),data:=(.fields (List.toArray [(.str "__dict__" 689),(.ref 366),(.builtin "function.__dict__"),(.builtin "function.__dict__#set")])) }
def T7:Obj:={ cls:=(.type "getset_descriptor"),data:=(.fields (List.toArray [(.str "__weakref__" 691),(.ref 366),(.builtin "ExceptionGroup.__weakref__"),.none])) }
def T6:Obj:={ cls:=(.type "super"),data:=(.fields (List.toArray [(.ref 366),(.ref 366),(.ref 366)])) }
def T5:Obj:={ cls:=(.type "builtin_function_or_method"),data:=(.fields (List.toArray [(.builtin "object.__init_subclass__"),(.ref 366)])) }
def T4(P:HZ):Obj:=N3 56 (hE P "__name__" 165 Mq::(QD P).take 55)
def T3:Obj:={ cls:=.none,data:=.fields (Il (NJ.take 141)) }
def T1:Obj:={ cls:=(.type "type"),data:=(.cls { name:="Way",bases:=[(.type "object")],mro:=[(.ref 366),(.type "object")],ns:=365,qualname:="Way",hasDict:=KN,slotNames:=[],subclasses:=[(.ref 407)],abstract:=KO,collection:=KL,hasDel:=KO }),slots:=(List.toArray [KL,KL,(KJ (.str "Way" 606)),(KJ (.str "Way" 614)),(KJ (.builtin "object.__new__")),(KJ (.bool KN))]) }
def TZ:Obj:=hF .none Ot "layers_of" 0 .none .none
def TY:Obj:=Lo "layers_of" "layers_of" 698 699 700 258 2 3 371 KN 372 .none .none (.ref 373) 701 702
def TX:Obj:=Li Ot "layers_of" (.str "spotlook.layers" 696) 374
def TV:Obj:=hF .none Oq "guide_of_layer" 0 .none .none
def TU:Obj:=Lo "guide_of_layer" "guide_of_layer" 704 705 706 267 4 3 376 KN 377 .none .none (.ref 378) 707 708
def TR:Obj:=Li Oq "guide_of_layer" (.str "spotlook.layers" 696) 379
def TQ:Obj:=Lk [(.str "wall" 713),(.str "ends" 714),(.str "lands" 715),(.str "below" 716),(.str "at_wall" 717)]
def TN:Obj:=hF .none Oo "guide_of_wall" 0 .none .none
def TM:Obj:=hC "guide_of_wall" 710 711 712 719 381 382 383 384 385 270 4 0 0 3 181 718 270 KN
def TL:Obj:=Li Oo "guide_of_wall" (.str "spotlook.layers" 696) 386
def TK:Obj:=Lk [(.ref 366)]
def TJ(P:HZ):Obj:=N3 6 [hE P "__module__" 728 (.str "spotlook.layers" 696),hE P "__qualname__" 730 (.str "Layers" 729),hE P "__firstlineno__" 732 (.int 273 731),hE P "__init__" 738 (.ref 399),hE P "layers" 744 (.ref 404),hE P "__static_attributes__" 748 (.ref 405)]
def TH:Obj:=Yr [(.int 275 0),(.int 4 0),(.ref 398),(.int 285 0),(.int 4 0),(.ref 403)]
def TF:Obj:=Lo "Layers" "Layers" 723 724 725 273 0 0 391 KO 392 .none .none .none 726 727
def TC:Obj:={ cls:=(.type "frame"),slots:=(List.toArray [(KJ (.ref 393)),(KJ (.ref 3)),(KJ (.ref 390)),KL,(KJ (.str "spotlook.layers" 696)),KL,(KJ (.ref 0))]) }
def TB:Obj:={ cls:=.none,data:=(.func (kU (kC OB 0) "__init__" "Layers.__init__" 0 .none .none)) }
def Sz:Obj:=Lo "__init__" "Layers.__init__" 733 734 735 275 2 3 395 KN 396 .none .none (.ref 397) 736 737
def Sy:Obj:={ cls:=(.type "function"),data:=(.func (kU (kC OB 0) "__init__" "Layers.__init__" 3 (.str "spotlook.layers" 696) (.ref 398))) }
def Sx:Obj:={ cls:=.none,data:=(.func (kU (kC OB 1) "layers" "Layers.layers" 0 .none .none)) }
def Sw:Obj:=Lo "layers" "Layers.layers" 739 740 741 285 1 3 400 KN 401 .none .none (.ref 402) 742 743
def Sv:Obj:={ cls:=(.type "function"),data:=(.func (kU (kC OB 1) "layers" "Layers.layers" 3 (.str "spotlook.layers" 696) (.ref 403))) }
def Su:Obj:=Lk [(.str "guide" 745),(.str "layer_rows" 746),(.str "most_looks" 747)]
def Ss(P:HZ):Obj:=N3 2 [hE P "__module__" 728 (.str "spotlook.layers" 696),hE P "__firstlineno__" 732 (.int 273 731),hE P "__init__" 738 (.ref 399),hE P "layers" 744 (.ref 404),hE P "__static_attributes__" 748 (.ref 405),hE P "__doc__" 749 .none]
def Sr:Obj:={ cls:=(.type "type"),data:=(.cls { name:="Layers",bases:=[(.ref 366)],mro:=[(.ref 407),(.ref 366),(.type "object")],ns:=406,qualname:="Layers",hasDict:=KN,slotNames:=[],subclasses:=[],abstract:=KO,collection:=KL,hasDel:=KO }),slots:=(List.toArray [(KJ (.ref 388)),KL,(KJ (.str "Layers" 721)),(KJ (.str "Layers" 729)),(KJ (.builtin "object.__new__")),(KJ (.bool KN))]) }
def Sq:Obj:={ cls:=(.type "super"),data:=(.fields (List.toArray [(.ref 407),(.ref 407),(.ref 407)])) }
def So:Obj:={ cls:=(.type "builtin_function_or_method"),data:=(.fields (List.toArray [(.builtin "object.__init_subclass__"),(.ref 407)])) }
def Sn(P:HZ):Obj:=N3 69 (hE P "__name__" 165 Mq::(QD P).take 68)
def Sm:Obj:={ cls:=.none,data:=.fields (Il (NJ.take 180)) }
def Sl:Obj:=Lk [(.str "_law_script" 757),(.str "_law_k" 758),(.str "_law_cell" 759)]
def Sk:Obj:=hF .none Om "_law_pot" 0 .none .none
def Sj:Obj:=hC "_law_pot" 754 755 756 761 410 411 412 413 414 288 2 0 0 3 181 760 288 KN
def Si:Obj:=Li Om "_law_pot" Mq 415
def Sh:Obj:=Lk [(.str "_law_pot_here" 766),(.str "_law_size" 767),(.str "_law_digit" 768),(.str "_law_mixed" 769)]
def Sf:Obj:=hF .none Ol "_law_take" 0 .none .none
def Se:Obj:=hC "_law_take" 763 764 765 771 417 418 419 420 421 293 2 0 0 3 181 770 293 KN
def Sd:Obj:=Li Ol "_law_take" Mq 422
def Sb:Obj:=Lk [(.str "_law_shut" 776),(.str "_law_spot" 777),(.str "_law_a" 778),(.str "_law_b" 779),(.str "_law_c" 780),(.str "_law_d" 781),(.str "_law_way" 782)]
def Sa:Obj:=hF .none Oj "_law_side" 0 .none .none
def S9:Obj:=hC "_law_side" 773 774 775 784 424 425 426 427 428 302 2 0 0 3 181 783 302 KN
def S8:Obj:=Li Oj "_law_side" Mq 429
def S7:Obj:=Lk [(.str "_law_shut" 789),(.str "_law_spot" 790)]
def S6:Obj:=hF .none Oh "_law_on" 0 .none .none
def S5:Obj:=hC "_law_on" 786 787 788 792 431 432 433 434 435 307 2 0 0 3 181 791 307 KN
def S4:Obj:=Li Oh "_law_on" Mq 436
def S3:Obj:=Lk [(.str "_law_one" 797),(.str "_law_other" 798),(.str "_law_shut" 799),(.str "_law_ends" 800),(.str "_law_spot" 801),(.str "_law_both" 802)]
def S2:Obj:=hF .none Og "_law_apart" 0 .none .none
def S1:Obj:=hC "_law_apart" 794 795 796 804 438 439 440 441 442 309 2 0 0 3 181 803 309 KN
def S0:Obj:=Li Og "_law_apart" Mq 443
def SY:Obj:=Lk [(.str "_law_pot_here" 809),(.str "_law_wide" 810)]
def SX:Obj:=hF .none Of "_law_new_spot" 0 .none .none
def SW:Obj:=hC "_law_new_spot" 806 807 808 812 445 446 447 448 449 316 2 0 0 3 181 811 316 KN
def SV:Obj:=Li Of "_law_new_spot" Mq 450
def SU:Obj:=Lk [(.str "_law_pot_here" 817),(.str "_law_shuts" 818),(.str "_law_wide" 819)]
def SS:Obj:=hF .none Oe "_law_some_spot" 0 .none .none
def SR:Obj:=hC "_law_some_spot" 814 815 816 821 452 453 454 455 456 318 3 0 0 3 181 820 318 KN
def SQ:Obj:=Li Oe "_law_some_spot" Mq 457
def SO:Obj:=Lk [(.str "_law_pot_here" 826),(.str "_law_wide" 827),(.str "_law_x" 828),(.str "_law_y" 829),(.str "_law_far" 830)]
def SN:Obj:=hF .none Od "_law_square" 0 .none .none
def SM:Obj:=hC "_law_square" 823 824 825 832 459 460 461 462 463 322 2 0 0 3 181 831 322 KN
def SK:Obj:=Li Od "_law_square" Mq 464
def SJ:Obj:=hF .none Oc "_law_laid" 0 .none .none
def SH:Obj:=Lo "_law_laid" "_law_laid" 834 835 836 328 3 3 466 KN 467 .none .none (.ref 468) 837 838
def SG:Obj:=Li Oc "_law_laid" Mq 469
def SF:Obj:=hF .none Ob "_law_shuts_here" 0 .none .none
def SA:Obj:=Lo "_law_shuts_here" "_law_shuts_here" 840 841 842 333 2 3 471 KN 472 .none .none (.ref 473) 843 844
def Rz:Obj:=Li Ob "_law_shuts_here" Mq 474
def Ry:Obj:=Lk [(.str "_law_top" 849),(.str "_law_bottom" 850),(.str "_law_one" 851),(.str "_law_other" 852)]
def Rx:Obj:=hF .none Oa "_law_frac" 0 .none .none
def Rw:Obj:=hC "_law_frac" 846 847 848 854 476 477 478 479 480 345 2 0 0 3 181 853 345 KN
def Rv:Obj:=Li Oa "_law_frac" Mq 481
def Ru:Obj:=hF .none O9 "_law_frame" 0 .none .none
def Rt:Obj:=Lo "_law_frame" "_law_frame" 856 857 858 351 2 3 483 KN 484 .none .none (.ref 485) 859 860
def Rr:Obj:=Li O9 "_law_frame" Mq 486
def Rq:Obj:=Lk [(.str "_law_frame_here" 865),(.str "_law_spot" 866),(.str "_law_p" 867),(.str "_law_q" 868),(.str "_law_s" 869),(.str "_law_t" 870)]
def Rp:Obj:=hF .none O8 "_law_given" 0 .none .none
def Ro:Obj:=hC "_law_given" 862 863 864 872 488 489 490 491 492 360 2 0 0 3 181 871 360 KN
def Rn:Obj:=Li O8 "_law_given" Mq 493
def Rm(P:HZ):Obj:=N3 78 (hE P "__name__" 165 Mq::(QD P).take 77)
def Rl:Obj:={ cls:=.none,data:=.fields (Il (NJ.take 207)) }
def Rk:Obj:=hF .none O7 "_law_plot" 0 .none .none
def Rj:Obj:=Lo "_law_plot" "_law_plot" 874 875 876 363 2 3 495 KN 496 .none .none (.ref 497) 877 878
def Ri:Obj:=Li O7 "_law_plot" Mq 498
def Rh:Obj:=Lk [(.str "_law_shut" 883),(.str "_law_x" 884),(.str "_law_a" 885),(.str "_law_b" 886),(.str "_law_c" 887),(.str "_law_d" 888)]
def Rg:Obj:=hF .none O6 "_law_height" 0 .none .none
def Rf:Obj:=hC "_law_height" 880 881 882 890 500 501 502 503 504 365 2 0 0 3 181 889 365 KN
def Rc:Obj:=Li O6 "_law_height" Mq 505
def Rb:Obj:=hF .none O5 "_law_higher" 0 .none .none
def Ra:Obj:=Lo "_law_higher" "_law_higher" 892 893 894 371 3 3 507 KN 508 .none .none (.ref 509) 895 896
def R9:Obj:=Li O5 "_law_higher" Mq 510
def R8:Obj:=Lk [(.str "_law_one" 901),(.str "_law_other" 902),(.str "_law_spot" 903)]
def R7:Obj:=hF .none O4 "_law_above" 0 .none .none
def R6:Obj:=hC "_law_above" 898 899 900 905 512 513 514 515 516 379 2 0 0 3 181 904 379 KN
def R5:Obj:=Li O4 "_law_above" Mq 517
def R4:Obj:=Lk [(.str "_law_found" 910),(.str "_law_due" 911)]
def R3:Obj:=hF .none O3 "_law_same" 0 .none .none
def R0:Obj:=hC "_law_same" 907 908 909 913 519 520 521 522 523 382 2 0 0 3 181 912 382 KN
def RZ:Obj:=Li O3 "_law_same" Mq 524
def RY:Obj:=hF .none O2 "_law_layers" 0 .none .none
def RX:Obj:=Lo "_law_layers" "_law_layers" 915 916 917 384 1 3 526 KN 527 .none .none (.ref 528) 918 919
def RW:Obj:=Li O2 "_law_layers" Mq 529
def RV:Obj:=Lk [(.str "_law_shuts" 924),(.str "_law_number" 925),(.str "_law_others" 926),(.str "_law_other" 927)]
def RU:Obj:=hF .none O1 "_law_stands_on" 0 .none .none
def RT:Obj:=hC "_law_stands_on" 921 922 923 929 531 532 533 534 535 392 3 0 0 3 181 928 392 KN
def RS:Obj:=Li O1 "_law_stands_on" Mq 536
def RR:Obj:=hF .none O0 "_law_squares" 0 .none .none
def RQ:Obj:=Lo "_law_squares" "_law_squares" 931 932 933 397 2 3 538 KN 539 .none .none (.ref 540) 934 935
def RP:Obj:=Li O0 "_law_squares" Mq 541
def RN:Obj:=Lk [(.str "_law_script" 940),(.str "_law_k" 941),(.str "_law_pot_here" 942),(.str "_law_shuts" 943),(.str "_law_found" 944),(.str "_law_row" 945),(.str "_law_one" 946),(.str "_law_other" 947)]
def RM:Obj:=hF .none OZ "law" 0 .none .none
def RK:Obj:=hC "law" 937 938 939 949 543 544 545 546 547 408 1 0 0 3 181 948 408 KN
def RJ:Obj:=Li OZ "law" Mq 548
def Zi(P:HZ):List Obj:=[PySem.W.boot_o_0 P,PySem.W.boot_o_1 P,PySem.W.boot_o_2 P,PySem.W.boot_o_3 P,PySem.W.boot_o_4 P,PySem.W.boot_o_5 P,PySem.W.boot_o_6 P,PySem.W.boot_o_7 P,PySem.W.boot_o_8 P,PySem.W.boot_o_9 P,PySem.W.boot_o_10 P,YX,YW,YV,YU,YT P]
def Zh(P:HZ):List Obj:=[YS,YR,YQ,YO,YN,YM,YL,YK P,YJ,YI,YH P,YG,YF,YE,YD,YC P]
def Zg(P:HZ):List Obj:=[YB,YA,Xz,Xy P,Xx,Xw,Xv P,Xu,Xt,Xs,Xr,Xq,Xp,Xo,Xn,Xm]
def Zf(P:HZ):List Obj:=[Xl,Xk,Xj,Xi,Xh,Xg,Xf,Xe,Xd,Xc,Xb,Xa,X9,X8,X7 P,X6]
def Ze(P:HZ):List Obj:=[X5,X4,X3,X2,X1,X0,XZ,XY,XX,XW,XU,XT,XS,XR,XQ,XO]
def Zd(P:HZ):List Obj:=[XN,XM,XJ,XI,XH,XG,XF,XE,XD,XC,XB,XA,Wz,Wy,Wx,Ww]
def Zc(P:HZ):List Obj:=[Wv,Wu,Wt,Ws,WE,WD,WC,WB,WA,Vz,Vy,Vx,Vw,Vv,Vu,Vt]
def Zb(P:HZ):List Obj:=[Vs P,Vr,Vq,Vp,Vo,Vn,Vm,Vl,Vk,Vj,Vi,Vh,Vg,Vf,Ve,Vd]
def Za(P:HZ):List Obj:=[Vb,Va,V9,V8,V7,V6,V5,V4,V3,V2,V1,V0,VZ,VY,VX,VW]
def Z9(P:HZ):List Obj:=[VU,VT,VS,VR,VQ,VP,VO,VN,VM,VL,VJ,VI,VG,VF,VE,VD P]
def Ya(P:HZ):List Obj:=[VC,VB,VA,Uz,Uy,Ux,Uw,Uv,Uu,Ut,Us,Ur,Uq,Uo,Um,Ul]
def Y9(P:HZ):List Obj:=[Uk,Uj,Ui,Uh,Ug,Ue,Ud,Uc,Ub,Ua,U9,U8,U7,U6,U5,U4]
def Y8(P:HZ):List Obj:=[U3,U1,U0,UZ,UY,UX,UW P,UU,UT P,US,UR,UQ,UP,UM,UL,UK]
def Y7(P:HZ):List Obj:=[UJ,UI,UH,UG,UE,UD,UC,Tz,Tw,Tv,Tu,Tt,Ts,Tr,Tq,Tp]
def Y6(P:HZ):List Obj:=[To,Tn,Tj,Ti,Th,Tf,Te,Td,Tc,Ta P,T9,T8,T7,T6,T5,T4 P]
def Y5(P:HZ):List Obj:=[T3,T1,TZ,TY,TX,TV,TU,TR,TQ,TN,TM,TL,TK,TJ P,TH,TF]
def Y4(P:HZ):List Obj:=[TC,TB,Sz,Sy,Sx,Sw,Sv,Su,Ss P,Sr,Sq,So,Sn P,Sm,Sl,Sk]
def Y3(P:HZ):List Obj:=[Sj,Si,Sh,Sf,Se,Sd,Sb,Sa,S9,S8,S7,S6,S5,S4,S3,S2]
def Y2(P:HZ):List Obj:=[S1,S0,SY,SX,SW,SV,SU,SS,SR,SQ,SO,SN,SM,SK,SJ,SH]
def Y1(P:HZ):List Obj:=[SG,SF,SA,Rz,Ry,Rx,Rw,Rv,Ru,Rt,Rr,Rq,Rp,Ro,Rn,Rm P]
def Y0(P:HZ):List Obj:=[Rl,Rk,Rj,Ri,Rh,Rg,Rf,Rc,Rb,Ra,R9,R8,R7,R6,R5,R4]
def YZ(P:HZ):List Obj:=[R3,R0,RZ,RY,RX,RW,RV,RU,RT,RS,RR,RQ,RP,RN,RM,RK]
def YY(P:HZ):List Obj:=[RJ]
def fA(c i:Nat)(P:HZ):Obj:=(([Zi P,Zh P,Zg P,Zf P,Ze P,Zd P,Zc P,Zb P,Za P,Z9 P,Ya P,Y9 P,Y8 P,Y7 P,Y6 P,Y5 P,Y4 P,Y3 P,Y2 P,Y1 P,Y0 P,YZ P,YY P]:List (List Obj)).getD c []).getD i { cls:=.none }
def ZU(n:Nat->HS->HS->HS)(e:HS):HS:=(λm:Nat->HS=>(n 0 (n 1 (n 3 (m 7) (m 11)) (n 5 (m 9) (m 13))) (n 2 (n 4 (m 8) (m 12)) (n 6 (m 10) (m 14))))) λa=>n a e e
def tX0(f:Nat->Nat->HZ->Obj)(P:HZ):HS:=ZU (λk=>.node (f (k/16) (k%16) P)) .nil
def ZT(n:Nat->HS->HS->HS)(e:HS):HS:=(λm:Nat->HS=>(n 0 (n 1 (n 15 (n 7 (n 11 (m 27) e) (m 22)) (n 11 (m 18) (m 24))) (n 5 (n 9 (n 17 (m 29) e) (m 11)) (n 13 (m 20) (m 11)))) (n 2 (n 4 (n 8 (n 12 (m 28) e) (m 23)) (n 16 (m 19) (m 25))) (n 6 (n 10 (n 11 (m 30) e) (m 12)) (n 14 (m 21) (m 26)))))) λa=>n a e e
def tX1(f:Nat->Nat->HZ->Obj)(P:HZ):HS:=ZT (λk=>.node (f (k/16) (k%16) P)) .nil
def ZS(n:Nat->HS->HS->HS)(e:HS):HS:=(λm:Nat->HS=>(n 0 (n 1 (n 31 (n 7 (n 11 (n 33 (m 50) e) (n 11 (m 59) e)) (n 22 (n 12 (m 11) e) (m 12))) (n 11 (n 18 (n 34 (m 53) e) (m 43)) (n 24 (n 38 (m 11) e) (m 48)))) (n 5 (n 9 (n 17 (n 29 (m 51) e) (n 42 (m 61) e)) (n 11 (n 37 (m 56) e) (m 11))) (n 13 (n 20 (n 35 (m 12) e) (m 45)) (n 11 (n 40 (m 58) e) (m 11))))) (n 2 (n 4 (n 8 (n 12 (n 28 (m 11) e) (n 12 (m 60) e)) (n 23 (n 36 (m 55) e) (m 46))) (n 32 (n 19 (n 22 (m 11) e) (m 44)) (n 25 (n 39 (m 12) e) (m 49)))) (n 6 (n 10 (n 11 (n 30 (m 52) e) (m 11)) (n 12 (n 11 (m 57) e) (m 47))) (n 14 (n 21 (n 11 (m 54) e) (m 11)) (n 26 (n 41 (m 11) e) (m 12))))))) λa=>n a e e
def tX2(f:Nat->Nat->HZ->Obj)(P:HZ):HS:=ZS (λk=>.node (f (k/16) (k%16) P)) .nil
def ZR(n:Nat->HS->HS->HS)(e:HS):HS:=(λm:Nat->HS=>(n 0 (n 1 (n 62 (n 7 (n 11 (n 33 (n 50 (m 11) e) (n 71 (m 11) e)) (n 11 (n 59 (m 98) e) (m 12))) (n 22 (n 12 (n 11 (m 93) e) (m 11)) (n 12 (n 66 (m 103) e) (m 84)))) (n 11 (n 18 (n 34 (n 53 (m 11) e) (n 11 (m 109) e)) (n 43 (n 12 (m 100) e) (m 82))) (n 24 (n 38 (n 11 (m 12) e) (m 77)) (n 48 (n 68 (m 11) e) (m 87))))) (n 5 (n 9 (n 17 (n 29 (n 51 (m 90) e) (n 12 (m 108) e)) (n 42 (n 61 (m 11) e) (m 11))) (n 11 (n 37 (n 56 (m 95) e) (m 76)) (n 11 (n 11 (m 12) e) (m 85)))) (n 13 (n 20 (n 35 (n 12 (m 92) e) (n 74 (m 111) e)) (n 45 (n 11 (m 101) e) (m 11))) (n 11 (n 40 (n 58 (m 11) e) (m 79)) (n 11 (n 69 (m 106) e) (m 12)))))) (n 2 (n 4 (n 8 (n 12 (n 28 (n 11 (m 89) e) (n 11 (m 12) e)) (n 12 (n 60 (m 99) e) (m 80))) (n 23 (n 36 (n 55 (m 94) e) (m 12)) (n 46 (n 67 (m 11) e) (m 11)))) (n 63 (n 19 (n 22 (n 11 (m 12) e) (n 73 (m 110) e)) (n 44 (n 64 (m 11) e) (m 83))) (n 25 (n 39 (n 12 (m 96) e) (m 78)) (n 49 (n 11 (m 105) e) (m 11))))) (n 6 (n 10 (n 11 (n 30 (n 52 (m 91) e) (n 72 (m 11) e)) (n 11 (n 11 (m 12) e) (m 81))) (n 12 (n 11 (n 57 (m 11) e) (m 11)) (n 47 (n 12 (m 104) e) (m 86)))) (n 14 (n 21 (n 11 (n 54 (m 11) e) (m 75)) (n 11 (n 65 (m 102) e) (m 12))) (n 26 (n 41 (n 11 (m 97) e) (m 11)) (n 12 (n 70 (m 107) e) (m 88)))))))) λa=>n a e e
def tX3(f:Nat->Nat->HZ->Obj)(P:HZ):HS:=ZR (λk=>.node (f (k/16) (k%16) P)) .nil
def ZQ(n:Nat->HS->HS->HS)(e:HS):HS:=(λm:Nat->HS=>(n 0 (n 1 (n 112 (n 7 (n 11 (n 33 (n 50 (m 11) (m 12)) (n 71 (m 11) (m 146))) (n 11 (n 59 (m 98) (m 11)) (n 12 (m 118) (m 155)))) (n 22 (n 12 (n 11 (m 93) (m 132)) (n 11 (m 12) (m 12))) (n 12 (n 66 (m 103) (m 141)) (n 84 (m 11) e)))) (n 11 (n 18 (n 34 (n 53 (m 11) (m 130)) (n 11 (m 109) (m 148))) (n 43 (n 12 (m 100) (m 11)) (n 82 (m 12) (m 158)))) (n 24 (n 38 (n 11 (m 12) (m 135)) (n 77 (m 11) (m 153))) (n 48 (n 68 (m 11) (m 12)) (n 87 (m 125) e))))) (n 5 (n 9 (n 17 (n 29 (n 51 (m 90) (m 11)) (n 12 (m 108) (m 11))) (n 42 (n 61 (m 11) (m 138)) (n 11 (m 120) (m 156)))) (n 11 (n 37 (n 56 (m 95) (m 133)) (n 76 (m 115) (m 11))) (n 11 (n 11 (m 12) (m 143)) (n 85 (m 124) e)))) (n 13 (n 20 (n 35 (n 12 (m 92) (m 11)) (n 74 (m 111) (m 150))) (n 45 (n 11 (m 101) (m 140)) (n 11 (m 122) e))) (n 11 (n 40 (n 58 (m 11) (m 12)) (n 79 (m 117) (m 11))) (n 11 (n 69 (m 106) (m 11)) (n 12 (m 127) e)))))) (n 2 (n 4 (n 8 (n 12 (n 28 (n 11 (m 89) (m 128)) (n 11 (m 12) (m 147))) (n 12 (n 60 (m 99) (m 137)) (n 80 (m 119) (m 11)))) (n 23 (n 36 (n 55 (m 94) (m 11)) (n 12 (m 114) (m 151))) (n 46 (n 67 (m 11) (m 142)) (n 11 (m 12) e)))) (n 113 (n 19 (n 22 (n 11 (m 12) (m 131)) (n 73 (m 110) (m 149))) (n 44 (n 64 (m 11) (m 12)) (n 83 (m 121) e))) (n 25 (n 39 (n 12 (m 96) (m 11)) (n 78 (m 12) (m 154))) (n 49 (n 11 (m 105) (m 144)) (n 11 (m 126) e))))) (n 6 (n 10 (n 11 (n 30 (n 52 (m 91) (m 129)) (n 72 (m 11) (m 12))) (n 11 (n 11 (m 12) (m 139)) (n 81 (m 11) (m 157)))) (n 12 (n 11 (n 57 (m 11) (m 134)) (n 11 (m 116) (m 152))) (n 47 (n 12 (m 104) (m 11)) (n 86 (m 11) e)))) (n 14 (n 21 (n 11 (n 54 (m 11) (m 12)) (n 75 (m 11) (m 11))) (n 11 (n 65 (m 102) (m 11)) (n 12 (m 123) e))) (n 26 (n 41 (n 11 (m 97) (m 136)) (n 11 (m 11) (m 12))) (n 12 (n 70 (m 107) (m 145)) (n 88 (m 11) e)))))))) λa=>n a e e
def tX4(f:Nat->Nat->HZ->Obj)(P:HZ):HS:=ZQ (λk=>.node (f (k/16) (k%16) P)) .nil
def ZP(n:Nat->HS->HS->HS)(e:HS):HS:=(λm:Nat->HS=>(n 0 (n 1 (n 159 (n 7 (n 11 (n 33 (n 50 (n 11 (m 167) e) (m 12)) (n 71 (n 11 (m 11) e) (m 146))) (n 11 (n 59 (n 98 (m 176) e) (m 11)) (n 12 (n 118 (m 194) e) (m 155)))) (n 22 (n 12 (n 11 (n 93 (m 171) e) (m 132)) (n 11 (n 12 (m 12) e) (m 12))) (n 12 (n 66 (n 103 (m 181) e) (m 141)) (n 84 (m 11) (m 11))))) (n 11 (n 18 (n 34 (n 53 (n 11 (m 169) e) (m 130)) (n 11 (n 109 (m 187) e) (m 148))) (n 43 (n 12 (n 100 (m 178) e) (m 11)) (n 82 (n 12 (m 197) e) (m 158)))) (n 24 (n 38 (n 11 (n 12 (m 174) e) (m 135)) (n 77 (n 11 (m 192) e) (m 153))) (n 48 (n 68 (n 11 (m 11) e) (m 12)) (n 87 (m 125) (m 11)))))) (n 5 (n 9 (n 17 (n 29 (n 51 (n 90 (m 12) e) (m 11)) (n 12 (n 108 (m 186) e) (m 11))) (n 42 (n 61 (n 11 (m 11) e) (m 138)) (n 11 (n 120 (m 195) e) (m 156)))) (n 11 (n 37 (n 56 (n 95 (m 172) e) (m 133)) (n 76 (n 115 (m 11) e) (m 11))) (n 11 (n 11 (n 12 (m 12) e) (m 143)) (n 85 (m 124) (m 163))))) (n 13 (n 20 (n 35 (n 12 (n 92 (m 11) e) (m 11)) (n 74 (n 111 (m 189) e) (m 150))) (n 45 (n 11 (n 101 (m 179) e) (m 140)) (n 11 (m 122) (m 12)))) (n 11 (n 40 (n 58 (n 11 (m 12) e) (m 12)) (n 79 (n 117 (m 11) e) (m 11))) (n 11 (n 69 (n 106 (m 184) e) (m 11)) (n 12 (m 127) (m 165))))))) (n 2 (n 4 (n 8 (n 12 (n 28 (n 11 (n 89 (m 11) e) (m 128)) (n 11 (n 12 (m 12) e) (m 147))) (n 12 (n 60 (n 99 (m 177) e) (m 137)) (n 80 (n 119 (m 11) e) (m 11)))) (n 23 (n 36 (n 55 (n 94 (m 11) e) (m 11)) (n 12 (n 114 (m 190) e) (m 151))) (n 46 (n 67 (n 11 (m 11) e) (m 142)) (n 11 (m 12) (m 162))))) (n 160 (n 19 (n 22 (n 11 (n 12 (m 170) e) (m 131)) (n 73 (n 110 (m 188) e) (m 149))) (n 44 (n 64 (n 11 (m 11) e) (m 12)) (n 83 (m 121) (m 11)))) (n 25 (n 39 (n 12 (n 96 (m 11) e) (m 11)) (n 78 (n 12 (m 193) e) (m 154))) (n 49 (n 11 (n 105 (m 183) e) (m 144)) (n 11 (m 126) (m 12)))))) (n 6 (n 10 (n 11 (n 30 (n 52 (n 91 (m 168) e) (m 129)) (n 72 (n 11 (m 11) e) (m 12))) (n 11 (n 11 (n 12 (m 12) e) (m 139)) (n 81 (n 11 (m 196) e) (m 157)))) (n 12 (n 11 (n 57 (n 11 (m 173) e) (m 134)) (n 11 (n 116 (m 191) e) (m 152))) (n 47 (n 12 (n 104 (m 182) e) (m 11)) (n 86 (m 11) (m 164))))) (n 14 (n 21 (n 11 (n 54 (n 11 (m 12) e) (m 12)) (n 75 (n 11 (m 11) e) (m 11))) (n 11 (n 65 (n 102 (m 180) e) (m 11)) (n 12 (m 123) (m 161)))) (n 26 (n 41 (n 11 (n 97 (m 175) e) (m 136)) (n 11 (n 11 (m 12) e) (m 12))) (n 12 (n 70 (n 107 (m 185) e) (m 145)) (n 88 (m 11) (m 166))))))))) λa=>n a e e
def tX5(f:Nat->Nat->HZ->Obj)(P:HZ):HS:=ZP (λk=>.node (f (k/16) (k%16) P)) .nil
def ZO(n:Nat->HS->HS->HS)(e:HS):HS:=(λm:Nat->HS=>(n 0 (n 1 (n 198 (n 7 (n 11 (n 33 (n 50 (n 11 (m 167) e) (n 12 (m 205) e)) (n 71 (n 11 (m 11) e) (n 146 (m 12) e))) (n 11 (n 59 (n 98 (m 176) e) (n 11 (m 215) e)) (n 12 (n 118 (m 194) e) (n 155 (m 235) e)))) (n 22 (n 12 (n 11 (n 93 (m 171) e) (n 132 (m 210) e)) (n 11 (n 12 (m 12) e) (n 12 (m 228) e))) (n 12 (n 66 (n 103 (m 181) e) (n 141 (m 11) e)) (n 84 (n 11 (m 11) e) (m 11))))) (n 11 (n 18 (n 34 (n 53 (n 11 (m 169) e) (n 130 (m 12) e)) (n 11 (n 109 (m 187) e) (n 148 (m 226) e))) (n 43 (n 12 (n 100 (m 178) e) (n 11 (m 11) e)) (n 82 (n 12 (m 197) e) (m 158)))) (n 24 (n 38 (n 11 (n 12 (m 174) e) (n 135 (m 212) e)) (n 77 (n 11 (m 192) e) (n 153 (m 231) e))) (n 48 (n 68 (n 11 (m 11) e) (n 12 (m 221) e)) (n 87 (n 125 (m 11) e) (m 11)))))) (n 5 (n 9 (n 17 (n 29 (n 51 (n 90 (m 12) e) (n 11 (m 207) e)) (n 12 (n 108 (m 186) e) (n 11 (m 11) e))) (n 42 (n 61 (n 11 (m 11) e) (n 138 (m 12) e)) (n 11 (n 120 (m 195) e) (n 156 (m 237) e)))) (n 11 (n 37 (n 56 (n 95 (m 172) e) (n 133 (m 11) e)) (n 76 (n 115 (m 11) e) (n 11 (m 229) e))) (n 11 (n 11 (n 12 (m 12) e) (n 143 (m 220) e)) (n 85 (n 124 (m 202) e) (m 163))))) (n 13 (n 20 (n 35 (n 12 (n 92 (m 11) e) (n 11 (m 11) e)) (n 74 (n 111 (m 189) e) (n 150 (m 11) e))) (n 45 (n 11 (n 101 (m 179) e) (n 140 (m 218) e)) (n 11 (n 122 (m 22) e) (m 12)))) (n 11 (n 40 (n 58 (n 11 (m 12) e) (n 12 (m 213) e)) (n 79 (n 117 (m 11) e) (n 11 (m 233) e))) (n 11 (n 69 (n 106 (m 184) e) (n 11 (m 223) e)) (n 12 (n 127 (m 204) e) (m 165))))))) (n 2 (n 4 (n 8 (n 12 (n 28 (n 11 (n 89 (m 11) e) (n 128 (m 206) e)) (n 11 (n 12 (m 12) e) (n 147 (m 224) e))) (n 12 (n 60 (n 99 (m 177) e) (n 137 (m 11) e)) (n 80 (n 119 (m 11) e) (n 11 (m 236) e)))) (n 23 (n 36 (n 55 (n 94 (m 11) e) (n 11 (m 211) e)) (n 12 (n 114 (m 190) e) (n 151 (m 11) e))) (n 46 (n 67 (n 11 (m 11) e) (n 142 (m 12) e)) (n 11 (n 12 (m 201) e) (m 162))))) (n 199 (n 19 (n 22 (n 11 (n 12 (m 170) e) (n 131 (m 208) e)) (n 73 (n 110 (m 188) e) (n 149 (m 227) e))) (n 44 (n 64 (n 11 (m 11) e) (n 12 (m 217) e)) (n 83 (n 121 (m 11) e) (m 11)))) (n 25 (n 39 (n 12 (n 96 (m 11) e) (n 11 (m 11) e)) (n 78 (n 12 (m 193) e) (n 154 (m 232) e))) (n 49 (n 11 (n 105 (m 183) e) (n 144 (m 222) e)) (n 11 (n 126 (m 12) e) (m 12)))))) (n 6 (n 10 (n 11 (n 30 (n 52 (n 91 (m 168) e) (n 129 (m 11) e)) (n 72 (n 11 (m 11) e) (n 12 (m 225) e))) (n 11 (n 11 (n 12 (m 12) e) (n 139 (m 216) e)) (n 81 (n 11 (m 196) e) (n 157 (m 238) e)))) (n 12 (n 11 (n 57 (n 11 (m 173) e) (n 134 (m 12) e)) (n 11 (n 116 (m 191) e) (n 152 (m 230) e))) (n 47 (n 12 (n 104 (m 182) e) (n 11 (m 11) e)) (n 86 (n 11 (m 203) e) (m 164))))) (n 14 (n 21 (n 11 (n 54 (n 11 (m 12) e) (n 12 (m 209) e)) (n 75 (n 11 (m 11) e) (n 11 (m 12) e))) (n 11 (n 65 (n 102 (m 180) e) (n 11 (m 219) e)) (n 12 (n 123 (m 200) e) (m 161)))) (n 26 (n 41 (n 11 (n 97 (m 175) e) (n 136 (m 214) e)) (n 11 (n 11 (m 12) e) (n 12 (m 234) e))) (n 12 (n 70 (n 107 (m 185) e) (n 145 (m 11) e)) (n 88 (n 11 (m 11) e) (m 166))))))))) λa=>n a e e
def tX6(f:Nat->Nat->HZ->Obj)(P:HZ):HS:=ZO (λk=>.node (f (k/16) (k%16) P)) .nil
def ZN(n:Nat->HS->HS->HS)(e:HS):HS:=(λm:Nat->HS=>(n 0 (n 1 (n 239 (n 7 (n 11 (n 33 (n 50 (n 11 (m 167) (m 248)) (n 12 (m 205) e)) (n 71 (n 11 (m 11) e) (n 146 (m 12) e))) (n 11 (n 59 (n 98 (m 176) (m 259)) (n 11 (m 215) e)) (n 12 (n 118 (m 194) e) (n 155 (m 235) e)))) (n 22 (n 12 (n 11 (n 93 (m 171) (m 11)) (n 132 (m 210) e)) (n 11 (n 12 (m 12) e) (n 12 (m 228) e))) (n 12 (n 66 (n 103 (m 181) (m 265)) (n 141 (m 11) e)) (n 84 (n 11 (m 11) e) (n 11 (m 244) e))))) (n 11 (n 18 (n 34 (n 53 (n 11 (m 169) (m 251)) (n 130 (m 12) e)) (n 11 (n 109 (m 187) e) (n 148 (m 226) e))) (n 43 (n 12 (n 100 (m 178) (m 261)) (n 11 (m 11) e)) (n 82 (n 12 (m 197) e) (n 158 (m 11) e)))) (n 24 (n 38 (n 11 (n 12 (m 174) (m 11)) (n 135 (m 212) e)) (n 77 (n 11 (m 192) e) (n 153 (m 231) e))) (n 48 (n 68 (n 11 (m 11) e) (n 12 (m 221) e)) (n 87 (n 125 (m 11) e) (n 11 (m 246) e)))))) (n 5 (n 9 (n 17 (n 29 (n 51 (n 90 (m 12) (m 249)) (n 11 (m 207) e)) (n 12 (n 108 (m 186) e) (n 11 (m 11) e))) (n 42 (n 61 (n 11 (m 11) (m 12)) (n 138 (m 12) e)) (n 11 (n 120 (m 195) e) (n 156 (m 237) e)))) (n 11 (n 37 (n 56 (n 95 (m 172) (m 255)) (n 133 (m 11) e)) (n 76 (n 115 (m 11) e) (n 11 (m 229) e))) (n 11 (n 11 (n 12 (m 12) (m 267)) (n 143 (m 220) e)) (n 85 (n 124 (m 202) e) (n 163 (m 12) e))))) (n 13 (n 20 (n 35 (n 12 (n 92 (m 11) (m 22)) (n 11 (m 11) e)) (n 74 (n 111 (m 189) e) (n 150 (m 11) e))) (n 45 (n 11 (n 101 (m 179) (m 263)) (n 140 (m 218) e)) (n 11 (n 122 (m 22) e) (n 12 (m 242) e)))) (n 11 (n 40 (n 58 (n 11 (m 12) (m 257)) (n 12 (m 213) e)) (n 79 (n 117 (m 11) e) (n 11 (m 233) e))) (n 11 (n 69 (n 106 (m 184) e) (n 11 (m 223) e)) (n 12 (n 127 (m 204) e) (n 165 (m 11) e))))))) (n 2 (n 4 (n 8 (n 12 (n 28 (n 11 (n 89 (m 11) (m 11)) (n 128 (m 206) e)) (n 11 (n 12 (m 12) e) (n 147 (m 224) e))) (n 12 (n 60 (n 99 (m 177) (m 11)) (n 137 (m 11) e)) (n 80 (n 119 (m 11) e) (n 11 (m 236) e)))) (n 23 (n 36 (n 55 (n 94 (m 11) (m 254)) (n 11 (m 211) e)) (n 12 (n 114 (m 190) e) (n 151 (m 11) e))) (n 46 (n 67 (n 11 (m 11) (m 266)) (n 142 (m 12) e)) (n 11 (n 12 (m 201) e) (n 162 (m 11) e))))) (n 240 (n 19 (n 22 (n 11 (n 12 (m 170) (m 252)) (n 131 (m 208) e)) (n 73 (n 110 (m 188) e) (n 149 (m 227) e))) (n 44 (n 64 (n 11 (m 11) (m 262)) (n 12 (m 217) e)) (n 83 (n 121 (m 11) e) (n 11 (m 12) e)))) (n 25 (n 39 (n 12 (n 96 (m 11) (m 12)) (n 11 (m 11) e)) (n 78 (n 12 (m 193) e) (n 154 (m 232) e))) (n 49 (n 11 (n 105 (m 183) e) (n 144 (m 222) e)) (n 11 (n 126 (m 12) e) (n 12 (m 247) e)))))) (n 6 (n 10 (n 11 (n 30 (n 52 (n 91 (m 168) (m 250)) (n 129 (m 11) e)) (n 72 (n 11 (m 11) e) (n 12 (m 225) e))) (n 11 (n 11 (n 12 (m 12) (m 260)) (n 139 (m 216) e)) (n 81 (n 11 (m 196) e) (n 157 (m 238) e)))) (n 12 (n 11 (n 57 (n 11 (m 173) (m 256)) (n 134 (m 12) e)) (n 11 (n 116 (m 191) e) (n 152 (m 230) e))) (n 47 (n 12 (n 104 (m 182) e) (n 11 (m 11) e)) (n 86 (n 11 (m 203) e) (n 164 (m 245) e))))) (n 14 (n 21 (n 11 (n 54 (n 11 (m 12) (m 253)) (n 12 (m 209) e)) (n 75 (n 11 (m 11) e) (n 11 (m 12) e))) (n 11 (n 65 (n 102 (m 180) (m 264)) (n 11 (m 219) e)) (n 12 (n 123 (m 200) e) (n 161 (m 243) e)))) (n 26 (n 41 (n 11 (n 97 (m 175) (m 258)) (n 136 (m 214) e)) (n 11 (n 11 (m 12) e) (n 12 (m 241) e))) (n 12 (n 70 (n 107 (m 185) e) (n 145 (m 11) e)) (n 88 (n 11 (m 11) e) (n 166 (m 12) e))))))))) λa=>n a e e
def tX7(f:Nat->Nat->HZ->Obj)(P:HZ):HS:=ZN (λk=>.node (f (k/16) (k%16) P)) .nil
def ZM(n:Nat->HS->HS->HS)(e:HS):HS:=(λm:Nat->HS=>(n 0 (n 1 (n 268 (n 7 (n 11 (n 33 (n 50 (n 11 (m 167) (m 248)) (n 12 (m 205) (m 290))) (n 71 (n 11 (m 11) (m 272)) (n 146 (m 12) (m 11)))) (n 11 (n 59 (n 98 (m 176) (m 259)) (n 11 (m 215) (m 299))) (n 12 (n 118 (m 194) (m 11)) (n 155 (m 235) e)))) (n 22 (n 12 (n 11 (n 93 (m 171) (m 11)) (n 132 (m 210) (m 11))) (n 11 (n 12 (m 12) (m 277)) (n 12 (m 228) (m 314)))) (n 12 (n 66 (n 103 (m 181) (m 265)) (n 141 (m 11) (m 11))) (n 84 (n 11 (m 11) (m 12)) (n 11 (m 244) e))))) (n 11 (n 18 (n 34 (n 53 (n 11 (m 169) (m 251)) (n 130 (m 12) (m 293))) (n 11 (n 109 (m 187) (m 274)) (n 148 (m 226) (m 11)))) (n 43 (n 12 (n 100 (m 178) (m 261)) (n 11 (m 11) (m 12))) (n 82 (n 12 (m 197) (m 283)) (n 158 (m 11) e)))) (n 24 (n 38 (n 11 (n 12 (m 174) (m 11)) (n 135 (m 212) (m 11))) (n 77 (n 11 (m 192) (m 11)) (n 153 (m 231) (m 11)))) (n 48 (n 68 (n 11 (m 11) (m 12)) (n 12 (m 221) (m 307))) (n 87 (n 125 (m 11) (m 288)) (n 11 (m 246) e)))))) (n 5 (n 9 (n 17 (n 29 (n 51 (n 90 (m 12) (m 249)) (n 11 (m 207) (m 291))) (n 12 (n 108 (m 186) (m 11)) (n 11 (m 11) (m 310)))) (n 42 (n 61 (n 11 (m 11) (m 12)) (n 138 (m 12) (m 301))) (n 11 (n 120 (m 195) (m 282)) (n 156 (m 237) e)))) (n 11 (n 37 (n 56 (n 95 (m 172) (m 255)) (n 133 (m 11) (m 296))) (n 76 (n 115 (m 11) (m 12)) (n 11 (m 229) (m 12)))) (n 11 (n 11 (n 12 (m 12) (m 267)) (n 143 (m 220) (m 305))) (n 85 (n 124 (m 202) (m 11)) (n 163 (m 12) e))))) (n 13 (n 20 (n 35 (n 12 (n 92 (m 11) (m 22)) (n 11 (m 11) (m 12))) (n 74 (n 111 (m 189) (m 275)) (n 150 (m 11) (m 312)))) (n 45 (n 11 (n 101 (m 179) (m 263)) (n 140 (m 218) (m 303))) (n 11 (n 122 (m 22) (m 285)) (n 12 (m 242) e)))) (n 11 (n 40 (n 58 (n 11 (m 12) (m 257)) (n 12 (m 213) (m 298))) (n 79 (n 117 (m 11) (m 280)) (n 11 (m 233) (m 317)))) (n 11 (n 69 (n 106 (m 184) (m 11)) (n 11 (m 223) (m 12))) (n 12 (n 127 (m 204) (m 11)) (n 165 (m 11) e))))))) (n 2 (n 4 (n 8 (n 12 (n 28 (n 11 (n 89 (m 11) (m 11)) (n 128 (m 206) (m 11))) (n 11 (n 12 (m 12) (m 273)) (n 147 (m 224) (m 309)))) (n 12 (n 60 (n 99 (m 177) (m 11)) (n 137 (m 11) (m 300))) (n 80 (n 119 (m 11) (m 12)) (n 11 (m 236) e)))) (n 23 (n 36 (n 55 (n 94 (m 11) (m 254)) (n 11 (m 211) (m 295))) (n 12 (n 114 (m 190) (m 11)) (n 151 (m 11) (m 11)))) (n 46 (n 67 (n 11 (m 11) (m 266)) (n 142 (m 12) (m 12))) (n 11 (n 12 (m 201) (m 286)) (n 162 (m 11) e))))) (n 269 (n 19 (n 22 (n 11 (n 12 (m 170) (m 252)) (n 131 (m 208) (m 11))) (n 73 (n 110 (m 188) (m 11)) (n 149 (m 227) (m 12)))) (n 44 (n 64 (n 11 (m 11) (m 262)) (n 12 (m 217) (m 302))) (n 83 (n 121 (m 11) (m 284)) (n 11 (m 12) e)))) (n 25 (n 39 (n 12 (n 96 (m 11) (m 12)) (n 11 (m 11) (m 12))) (n 78 (n 12 (m 193) (m 279)) (n 154 (m 232) (m 316)))) (n 49 (n 11 (n 105 (m 183) (m 270)) (n 144 (m 222) (m 11))) (n 11 (n 126 (m 12) (m 289)) (n 12 (m 247) e)))))) (n 6 (n 10 (n 11 (n 30 (n 52 (n 91 (m 168) (m 250)) (n 129 (m 11) (m 292))) (n 72 (n 11 (m 11) (m 12)) (n 12 (m 225) (m 311)))) (n 11 (n 11 (n 12 (m 12) (m 260)) (n 139 (m 216) (m 11))) (n 81 (n 11 (m 196) (m 11)) (n 157 (m 238) e)))) (n 12 (n 11 (n 57 (n 11 (m 173) (m 256)) (n 134 (m 12) (m 297))) (n 11 (n 116 (m 191) (m 278)) (n 152 (m 230) (m 315)))) (n 47 (n 12 (n 104 (m 182) (m 11)) (n 11 (m 11) (m 306))) (n 86 (n 11 (m 203) (m 287)) (n 164 (m 245) e))))) (n 14 (n 21 (n 11 (n 54 (n 11 (m 12) (m 253)) (n 12 (m 209) (m 294))) (n 75 (n 11 (m 11) (m 276)) (n 11 (m 12) (m 313)))) (n 11 (n 65 (n 102 (m 180) (m 264)) (n 11 (m 219) (m 304))) (n 12 (n 123 (m 200) (m 11)) (n 161 (m 243) e)))) (n 26 (n 41 (n 11 (n 97 (m 175) (m 258)) (n 136 (m 214) (m 11))) (n 11 (n 11 (m 12) (m 281)) (n 12 (m 241) (m 318)))) (n 12 (n 70 (n 107 (m 185) (m 271)) (n 145 (m 11) (m 308))) (n 88 (n 11 (m 11) (m 12)) (n 166 (m 12) e))))))))) λa=>n a e e
def tX8(f:Nat->Nat->HZ->Obj)(P:HZ):HS:=ZM (λk=>.node (f (k/16) (k%16) P)) .nil
def ZL(n:Nat->HS->HS->HS)(e:HS):HS:=(λm:Nat->HS=>(n 0 (n 1 (n 319 (n 7 (n 11 (n 33 (n 50 (n 11 (n 167 (m 330) e) (m 248)) (n 12 (m 205) (m 290))) (n 71 (n 11 (n 11 (m 11) e) (m 272)) (n 146 (m 12) (m 11)))) (n 11 (n 59 (n 98 (n 176 (m 12) e) (m 259)) (n 11 (m 215) (m 299))) (n 12 (n 118 (m 194) (m 11)) (n 155 (m 235) (m 11))))) (n 22 (n 12 (n 11 (n 93 (n 171 (m 11) e) (m 11)) (n 132 (m 210) (m 11))) (n 11 (n 12 (m 12) (m 277)) (n 12 (m 228) (m 314)))) (n 12 (n 66 (n 103 (n 181 (m 343) e) (m 265)) (n 141 (m 11) (m 11))) (n 84 (n 11 (m 11) (m 12)) (n 11 (m 244) (m 11)))))) (n 11 (n 18 (n 34 (n 53 (n 11 (n 169 (m 11) e) (m 251)) (n 130 (m 12) (m 293))) (n 11 (n 109 (n 187 (m 350) e) (m 274)) (n 148 (m 226) (m 11)))) (n 43 (n 12 (n 100 (n 178 (m 11) e) (m 261)) (n 11 (m 11) (m 12))) (n 82 (n 12 (m 197) (m 283)) (n 158 (m 11) (m 323))))) (n 24 (n 38 (n 11 (n 12 (n 174 (m 336) e) (m 11)) (n 135 (m 212) (m 11))) (n 77 (n 11 (m 192) (m 11)) (n 153 (m 231) (m 11)))) (n 48 (n 68 (n 11 (n 11 (m 12) e) (m 12)) (n 12 (m 221) (m 307))) (n 87 (n 125 (m 11) (m 288)) (n 11 (m 246) (m 11))))))) (n 5 (n 9 (n 17 (n 29 (n 51 (n 90 (n 12 (m 12) e) (m 249)) (n 11 (m 207) (m 291))) (n 12 (n 108 (n 186 (m 349) e) (m 11)) (n 11 (m 11) (m 310)))) (n 42 (n 61 (n 11 (n 11 (m 340) e) (m 12)) (n 138 (m 12) (m 301))) (n 11 (n 120 (m 195) (m 282)) (n 156 (m 237) (m 321))))) (n 11 (n 37 (n 56 (n 95 (n 172 (m 335) e) (m 255)) (n 133 (m 11) (m 296))) (n 76 (n 115 (m 11) (m 12)) (n 11 (m 229) (m 12)))) (n 11 (n 11 (n 12 (n 12 (m 345) e) (m 267)) (n 143 (m 220) (m 305))) (n 85 (n 124 (m 202) (m 11)) (n 163 (m 12) (m 326)))))) (n 13 (n 20 (n 35 (n 12 (n 92 (n 11 (m 333) e) (m 22)) (n 11 (m 11) (m 12))) (n 74 (n 111 (n 189 (m 352) e) (m 275)) (n 150 (m 11) (m 312)))) (n 45 (n 11 (n 101 (n 179 (m 342) e) (m 263)) (n 140 (m 218) (m 303))) (n 11 (n 122 (m 22) (m 285)) (n 12 (m 242) (m 12))))) (n 11 (n 40 (n 58 (n 11 (n 12 (m 338) e) (m 257)) (n 12 (m 213) (m 298))) (n 79 (n 117 (m 11) (m 280)) (n 11 (m 233) (m 317)))) (n 11 (n 69 (n 106 (n 184 (m 347) e) (m 11)) (n 11 (m 223) (m 12))) (n 12 (n 127 (m 204) (m 11)) (n 165 (m 11) (m 328)))))))) (n 2 (n 4 (n 8 (n 12 (n 28 (n 11 (n 89 (n 11 (m 11) e) (m 11)) (n 128 (m 206) (m 11))) (n 11 (n 12 (n 12 (m 12) e) (m 273)) (n 147 (m 224) (m 309)))) (n 12 (n 60 (n 99 (n 177 (m 339) e) (m 11)) (n 137 (m 11) (m 300))) (n 80 (n 119 (m 11) (m 12)) (n 11 (m 236) (m 12))))) (n 23 (n 36 (n 55 (n 94 (n 11 (m 12) e) (m 254)) (n 11 (m 211) (m 295))) (n 12 (n 114 (m 190) (m 11)) (n 151 (m 11) (m 11)))) (n 46 (n 67 (n 11 (n 11 (m 344) e) (m 266)) (n 142 (m 12) (m 12))) (n 11 (n 12 (m 201) (m 286)) (n 162 (m 11) (m 325)))))) (n 320 (n 19 (n 22 (n 11 (n 12 (n 170 (m 332) e) (m 252)) (n 131 (m 208) (m 11))) (n 73 (n 110 (n 188 (m 351) e) (m 11)) (n 149 (m 227) (m 12)))) (n 44 (n 64 (n 11 (n 11 (m 12) e) (m 262)) (n 12 (m 217) (m 302))) (n 83 (n 121 (m 11) (m 284)) (n 11 (m 12) (m 11))))) (n 25 (n 39 (n 12 (n 96 (n 11 (m 337) e) (m 12)) (n 11 (m 11) (m 12))) (n 78 (n 12 (m 193) (m 279)) (n 154 (m 232) (m 316)))) (n 49 (n 11 (n 105 (n 183 (m 346) e) (m 270)) (n 144 (m 222) (m 11))) (n 11 (n 126 (m 12) (m 289)) (n 12 (m 247) (m 12))))))) (n 6 (n 10 (n 11 (n 30 (n 52 (n 91 (n 168 (m 331) e) (m 250)) (n 129 (m 11) (m 292))) (n 72 (n 11 (n 11 (m 11) e) (m 12)) (n 12 (m 225) (m 311)))) (n 11 (n 11 (n 12 (n 12 (m 341) e) (m 260)) (n 139 (m 216) (m 11))) (n 81 (n 11 (m 196) (m 11)) (n 157 (m 238) (m 322))))) (n 12 (n 11 (n 57 (n 11 (n 173 (m 11) e) (m 256)) (n 134 (m 12) (m 297))) (n 11 (n 116 (m 191) (m 278)) (n 152 (m 230) (m 315)))) (n 47 (n 12 (n 104 (n 182 (m 11) e) (m 11)) (n 11 (m 11) (m 306))) (n 86 (n 11 (m 203) (m 287)) (n 164 (m 245) (m 327)))))) (n 14 (n 21 (n 11 (n 54 (n 11 (n 12 (m 334) e) (m 253)) (n 12 (m 209) (m 294))) (n 75 (n 11 (m 11) (m 276)) (n 11 (m 12) (m 313)))) (n 11 (n 65 (n 102 (n 180 (m 11) e) (m 264)) (n 11 (m 219) (m 304))) (n 12 (n 123 (m 200) (m 11)) (n 161 (m 243) (m 324))))) (n 26 (n 41 (n 11 (n 97 (n 175 (m 11) e) (m 258)) (n 136 (m 214) (m 11))) (n 11 (n 11 (m 12) (m 281)) (n 12 (m 241) (m 318)))) (n 12 (n 70 (n 107 (n 185 (m 348) e) (m 271)) (n 145 (m 11) (m 308))) (n 88 (n 11 (m 11) (m 12)) (n 166 (m 12) (m 329)))))))))) λa=>n a e e
def tX9(f:Nat->Nat->HZ->Obj)(P:HZ):HS:=ZL (λk=>.node (f (k/16) (k%16) P)) .nil
def hX0(f:Nat->Nat->HZ->Obj)(P:HZ):pq:=(λg:Nat->Obj=>(#[⟨[g 0,g 1,g 2,g 3,g 4,g 5,g 6,g 7,g 8,g 9,g 10,g 11,g 12,g 13,g 14]⟩,{}]:pq)) λk=>f (k/16) (k%16) P
def hX1(f:Nat->Nat->HZ->Obj)(P:HZ):pq:=(λg:Nat->Obj=>(#[⟨[g 0,g 1,g 2,g 319,g 4,g 5,g 6,g 7,g 8,g 9,g 10,g 11,g 320,g 13,g 14,g 11,g 12,g 17,g 11,g 18,g 19,g 20,g 21,g 22,g 23,g 11,g 12,g 24,g 25,g 11,g 26,g 33,g 28,g 29,g 30,g 34,g 22,g 35,g 11,g 12,g 36,g 37,g 11,g 38,g 39,g 40,g 41,g 11,g 12,g 42,g 11,g 43,g 44,g 45,g 11,g 12,g 46,g 11,g 47,g 48,g 49,g 11,g 12,g 50,g 11,g 51,g 52,g 53,g 11,g 12,g 54,g 11,g 55,g 56,g 57,g 11,g 12,g 58,g 11,g 59,g 60,g 61,g 11,g 12,g 64,g 11,g 65,g 66,g 67,g 11,g 12,g 68,g 11,g 69,g 70,g 71,g 11,g 12,g 72,g 11,g 73,g 74,g 75,g 11,g 12,g 76,g 11,g 77,g 78,g 79,g 11,g 12,g 80,g 11,g 81,g 82,g 83,g 11,g 12,g 84,g 11,g 85,g 86,g 87,g 11,g 12,g 88,g 11,g 89,g 90,g 91,g 11,g 12,g 92,g 11,g 93,g 94,g 95,g 11,g 12,g 96,g 11,g 97,g 98,g 99,g 11,g 12,g 100,g 11,g 101,g 102,g 103,g 11,g 12,g 104,g 11,g 105,g 106,g 107,g 11,g 12,g 108,g 11,g 109,g 110,g 111,g 11,g 12,g 114,g 115,g 116,g 11,g 12,g 117,g 11,g 118,g 119,g 120,g 11,g 12,g 121,g 122,g 123,g 11,g 12,g 124,g 11,g 125,g 126,g 127,g 11,g 12,g 128,g 11,g 129,g 130,g 131,g 11,g 12,g 132,g 11,g 133,g 134,g 135,g 11,g 12,g 136,g 11,g 137,g 138,g 139,g 11,g 12,g 140,g 11,g 141,g 142,g 143,g 11,g 12,g 144,g 11,g 145,g 146,g 147,g 11,g 12,g 148,g 149,g 150,g 11,g 12,g 151,g 11,g 152,g 153,g 154,g 11,g 12,g 155,g 11,g 156,g 157,g 158,g 11,g 12,g 161,g 11,g 162,g 163,g 164,g 11,g 12,g 165,g 166,g 167,g 11,g 12,g 168,g 169,g 170,g 11,g 12,g 171,g 11,g 172,g 173,g 174,g 11,g 12,g 175,g 176,g 177,g 11,g 12,g 178,g 11,g 179,g 180,g 181,g 11,g 12,g 182,g 11,g 183,g 184,g 185,g 11,g 12,g 186,g 11,g 187,g 188,g 189,g 11,g 12,g 190,g 11,g 191,g 192,g 193,g 11,g 12,g 194,g 11,g 195,g 196,g 197,g 11,g 22,g 200,g 11,g 201,g 202,g 203,g 11,g 12,g 204,g 11,g 205,g 206,g 207,g 11,g 12,g 208,g 11,g 209,g 210,g 211,g 11,g 12,g 212,g 11,g 213,g 214,g 215,g 11,g 12,g 216,g 11,g 217,g 218,g 219,g 11,g 12,g 220,g 11,g 221,g 222,g 223,g 11,g 12,g 224,g 11,g 225,g 226,g 227,g 11,g 12,g 228,g 11,g 229,g 230,g 231,g 232,g 233,g 241,g 235,g 236,g 237,g 238,g 11,g 12,g 242,g 243,g 244,g 11,g 12,g 245,g 246,g 247,g 11,g 12,g 248,g 11,g 249,g 250,g 251,g 252,g 22,g 253,g 11,g 254,g 255,g 256,g 11,g 12,g 257,g 258,g 259,g 11,g 12,g 260,g 261,g 262,g 263,g 264,g 265,g 266,g 267,g 11,g 12,g 270,g 11,g 271,g 272,g 273,g 11,g 12,g 274,g 11,g 275,g 276,g 277,g 11,g 12,g 278,g 11,g 279,g 280,g 281,g 11,g 12,g 282,g 11,g 283,g 284,g 285,g 11,g 12,g 286,g 11,g 287,g 288,g 289,g 11,g 12,g 290,g 11,g 291,g 292,g 293,g 11,g 12,g 294,g 11,g 295,g 296,g 297,g 11,g 12,g 298,g 11,g 299,g 300,g 301,g 11,g 12,g 302,g 303,g 304,g 11,g 12,g 305,g 306,g 307,g 11,g 12,g 308,g 11,g 309,g 310,g 311,g 11,g 12,g 312,g 313,g 314,g 11,g 12,g 315,g 11,g 316,g 317,g 318,g 11,g 12,g 321,g 322,g 323,g 11,g 12,g 324,g 11,g 325,g 326,g 327,g 11,g 12,g 328,g 329,g 330,g 11,g 12,g 331,g 11,g 332,g 333,g 334,g 11,g 12,g 335,g 11,g 336,g 337,g 338,g 11,g 12,g 339,g 340,g 341,g 11,g 12,g 342,g 11,g 343,g 344,g 345,g 11,g 12,g 346,g 347,g 348,g 11,g 12,g 349,g 11,g 350,g 351,g 352]⟩,{}]:pq)) λk=>f (k/16) (k%16) P
theorem laid:(λ(_:HW) (_:HW) (_:Nat->Nat->HZ->Obj) (_:ri) (_:ri) (_:ri) (_:ri) (_:ri) (_:ri) (_:ri) (_:ri) (_:ri)=>KN) pw2 vw fA sx0 sx1 sx2 sx3 sx4 sx5 sx6 sx7 sx8=KN:=by k_qdec
end QQ
namespace PySem.W.Fast
def tw17831770211459336568:HW:=tw4061903402435717205
theorem te17831770211459336568:IH=tw17831770211459336568:=Eq.trans (by kernel_rfl:IH=QQ.pw2) te4061903402435717205
def tw14133827224566104716:HW:=tw2543460329597916322
theorem te14133827224566104716:QQ.vw=tw14133827224566104716:=te2543460329597916322
def tw5807914565059532680:ri:=tw4220349153739756805
theorem te5807914565059532680:QQ.sx0=tw5807914565059532680:=te4220349153739756805
def tw5060783407369577264:ri:=tw11397161696757032129
theorem te5060783407369577264:QQ.sx1=tw5060783407369577264:=te11397161696757032129
def tw11467444542042251688:ri:=tw10303515436491237874
theorem te11467444542042251688:QQ.sx2=tw11467444542042251688:=te10303515436491237874
def tw6718295286037257301:ri:=tw12358083906500975388
theorem te6718295286037257301:QQ.sx3=tw6718295286037257301:=te12358083906500975388
def tw7364318152985317231:ri:=tw2861187580803015100
theorem te7364318152985317231:QQ.sx4=tw7364318152985317231:=te2861187580803015100
def tw484992368926412012:ri:=tw9932084693255007381
theorem te484992368926412012:QQ.sx5=tw484992368926412012:=te9932084693255007381
def tw13683811168432434466:ri:=tw1890974291257386441
theorem te13683811168432434466:QQ.sx6=tw13683811168432434466:=te1890974291257386441
def tw16486004080721817731:ri:=tw11967835380637100291
theorem te16486004080721817731:QQ.sx7=tw16486004080721817731:=te11967835380637100291
def tw9441178684667055591:ri:=tw17779941298030502338
theorem te9441178684667055591:QQ.sx8=tw9441178684667055591:=te17779941298030502338
def tw8694845804710277179:HZ->BT:=QQ.tX0 tw16523235828492288951
theorem te8694845804710277179:QQ.tX0 QQ.fA=tw8694845804710277179:=congrArg QQ.tX0 te16523235828492288951
def tw2550800115157573245:HZ->BT:=QQ.tX1 tw16523235828492288951
theorem te2550800115157573245:QQ.tX1 QQ.fA=tw2550800115157573245:=congrArg QQ.tX1 te16523235828492288951
def tw6769345326740177985:HZ->BT:=QQ.tX2 tw16523235828492288951
theorem te6769345326740177985:QQ.tX2 QQ.fA=tw6769345326740177985:=congrArg QQ.tX2 te16523235828492288951
def tw16022351907061553558:HZ->BT:=QQ.tX3 tw16523235828492288951
theorem te16022351907061553558:QQ.tX3 QQ.fA=tw16022351907061553558:=congrArg QQ.tX3 te16523235828492288951
def tw5441798301900283264:HZ->BT:=QQ.tX4 tw16523235828492288951
theorem te5441798301900283264:QQ.tX4 QQ.fA=tw5441798301900283264:=congrArg QQ.tX4 te16523235828492288951
def tw15118611310117721344:HZ->BT:=QQ.tX5 tw16523235828492288951
theorem te15118611310117721344:QQ.tX5 QQ.fA=tw15118611310117721344:=congrArg QQ.tX5 te16523235828492288951
def tw6536477840659351626:HZ->BT:=QQ.tX6 tw16523235828492288951
theorem te6536477840659351626:QQ.tX6 QQ.fA=tw6536477840659351626:=congrArg QQ.tX6 te16523235828492288951
def tw14066725321894791725:HZ->BT:=QQ.tX7 tw16523235828492288951
theorem te14066725321894791725:QQ.tX7 QQ.fA=tw14066725321894791725:=congrArg QQ.tX7 te16523235828492288951
def tw4852960250531541135:HZ->BT:=QQ.tX8 tw16523235828492288951
theorem te4852960250531541135:QQ.tX8 QQ.fA=tw4852960250531541135:=congrArg QQ.tX8 te16523235828492288951
def tw8380988985023679954:HZ->BT:=QQ.tX9 tw16523235828492288951
theorem te8380988985023679954:QQ.tX9 QQ.fA=tw8380988985023679954:=congrArg QQ.tX9 te16523235828492288951
def tw13639865265842655193:HZ->PySem.Heap:=QQ.hX0 tw16523235828492288951
theorem te13639865265842655193:QQ.hX0 QQ.fA=tw13639865265842655193:=congrArg QQ.hX0 te16523235828492288951
def tw16431474972062879544:HZ->PySem.Heap:=QQ.hX1 tw16523235828492288951
theorem te16431474972062879544:QQ.hX1 QQ.fA=tw16431474972062879544:=congrArg QQ.hX1 te16523235828492288951
end PySem.W.Fast
end
open PySem PySem.W PyProof.Rows
set_option maxRecDepth 100000 in
set_option maxHeartbeats 0 in
theorem PySem.Challenge.cw_spotlook_k36_layers_rows_holds : PySem.Challenge.rw_spotlook_k36_layers_rows.Holds := by
 w_on;o_law;o_head (PySem.W.kmHook QQ.kK [!2,!3,!4,!20,!21,!30,!31,!43,!44,!52,!53,!59,!60,!66,!67,!73,!74,!80,!81,!87,!88,!94,!95,!101,!102,!108,!109,!115,!116,!122,!123,!129,!130,!136,!137,!143,!144,!150,!151,!157,!158,!164,!165,!169,!170,!176,!177,!181,!182,!188,!189,!195,!196,!202,!203,!209,!210,!216,!217,!223,!224,!228,!229,!235,!236,!242,!243,!249,!250,!254,!255,!259,!260,!266,!267,!271,!272,!278,!279,!285,!286,!292,!293,!299,!300,!306,!307,!320,!321,!327,!328,!334,!335,!341,!342,!348,!349,!355,!356,!362,!363,!365,!366,!374,!375,!379,!380,!386,!387,!398,!399,!403,!404,!406,!407,!415,!416,!422,!423,!429,!430,!436,!437,!443,!444,!450,!451,!457,!458,!464,!465,!469,!470,!474,!475,!481,!482,!486,!487,!493,!494,!498,!499,!505,!506,!510,!511,!517,!518,!524,!525,!529,!530,!536,!537,!541,!542,!548,!549] (λ_=>by kernel_rfl) [372,527]);(case hw=>w_witness2)
 k_fill
 refine SD.uV (Ps:=[372,527]) (k:=13) (x:="_law_script") (sp:=QQ.jz) (l:=PySem.Challenge.rw_spotlook_k36_layers_rows) rfl rfl #[rfl,⋯,⋯,rfl] (λw h Y=>PySem.W.km_in_of Y) (λw h Y p hp=>PySem.W.km_tabs_of Y p hp) (λw=>List.forall_mem_cons.mpr #[by kernel_rfl,List.forall_mem_cons.mpr #[by kernel_rfl,λ_ h=>nomatch h]]) (λw=>List.forall_mem_cons.mpr #[#[374,by kernel_rfl],List.forall_mem_cons.mpr #[#[529,by kernel_rfl],λ_ h=>nomatch h]]) ?F QQ.BU
 case F=>
  intro w mg fa h KX G hmg
  have t_law_pot:SD.Txt (L2.KOf KX) mg "_law_pot" QQ.jZ:=by
   dsimp only[L2.KOf]
   refine' SD.Txt.mk KX G ?a ?l ?c ?k
   (case a=>k_is);(case l=>k_is);(case c=>k_is);(case k=>k_is)
  have t_law_take:SD.Txt (L2.KOf KX) mg "_law_take" QQ.ic:=by
   dsimp only[L2.KOf]
   refine' SD.Txt.mk KX G ?a ?l ?c ?k
   (case a=>k_is);(case l=>k_is);(case c=>k_is);(case k=>k_is)
  have t_law_new_spot:SD.Txt (L2.KOf KX) mg "_law_new_spot" QQ.ez:=by
   dsimp only[L2.KOf]
   refine' SD.Txt.mk KX G ?a ?l ?c ?k
   (case a=>k_is);(case l=>k_is);(case c=>k_is);(case k=>k_is)
  have t_law_some_spot:SD.Txt (L2.KOf KX) mg "_law_some_spot" QQ.dI:=by
   dsimp only[L2.KOf]
   refine' SD.Txt.mk KX G ?a ?l ?c ?k
   (case a=>k_is);(case l=>k_is);(case c=>k_is);(case k=>k_is)
  have t_law_square:SD.Txt (L2.KOf KX) mg "_law_square" QQ.fT:=by
   dsimp only[L2.KOf]
   refine' SD.Txt.mk KX G ?a ?l ?c ?k
   (case a=>k_is);(case l=>k_is);(case c=>k_is);(case k=>k_is)
  have t_law_side:SD.Txt (L2.KOf KX) mg "_law_side" QQ.iy:=by
   dsimp only[L2.KOf]
   refine' SD.Txt.mk KX G ?a ?l ?c ?k
   (case a=>k_is);(case l=>k_is);(case c=>k_is);(case k=>k_is)
  have t_law_on:SD.Txt (L2.KOf KX) mg "_law_on" QQ.lD:=by
   dsimp only[L2.KOf]
   refine' SD.Txt.mk KX G ?a ?l ?c ?k
   (case a=>k_is);(case l=>k_is);(case c=>k_is);(case k=>k_is)
  have t_law_apart:SD.Txt (L2.KOf KX) mg "_law_apart" QQ.gO:=by
   dsimp only[L2.KOf]
   refine' SD.Txt.mk KX G ?a ?l ?c ?k
   (case a=>k_is);(case l=>k_is);(case c=>k_is);(case k=>k_is)
  have t_law_laid:SD.Txt (L2.KOf KX) mg "_law_laid" QQ.iL:=by
   dsimp only[L2.KOf]
   refine' SD.Txt.mk KX G ?a ?l ?c ?k
   (case a=>k_is);(case l=>k_is);(case c=>k_is);(case k=>k_is)
  have t_law_shuts_here:SD.Txt (L2.KOf KX) mg "_law_shuts_here" QQ.de:=by
   dsimp only[L2.KOf]
   refine' SD.Txt.mk KX G ?a ?l ?c ?k
   (case a=>k_is);(case l=>k_is);(case c=>k_is);(case k=>k_is)
  have t_law_squares:SD.Txt (L2.KOf KX) mg "_law_squares" QQ.fg:=by
   dsimp only[L2.KOf]
   refine' SD.Txt.mk KX G ?a ?l ?c ?k
   (case a=>k_is);(case l=>k_is);(case c=>k_is);(case k=>k_is)
  have t_greatest_divisor:SD.Txt (L2.KOf KX) mg "greatest_divisor" QQ.cI:=by
   dsimp only[L2.KOf]
   refine' SD.Txt.mk KX G ?a ?l ?c ?k
   (case a=>k_is);(case l=>k_is);(case c=>k_is);(case k=>k_is)
  have t_fraction:SD.Txt (L2.KOf KX) mg "fraction" QQ.iC:=by
   dsimp only[L2.KOf]
   refine' SD.Txt.mk KX G ?a ?l ?c ?k
   (case a=>k_is);(case l=>k_is);(case c=>k_is);(case k=>k_is)
  have t_own_spot:SD.Txt (L2.KOf KX) mg "own_spot" QQ.iM:=by
   dsimp only[L2.KOf]
   refine' SD.Txt.mk KX G ?a ?l ?c ?k
   (case a=>k_is);(case l=>k_is);(case c=>k_is);(case k=>k_is)
  have t_own_wall:SD.Txt (L2.KOf KX) mg "own_wall" QQ.iO:=by
   dsimp only[L2.KOf]
   refine' SD.Txt.mk KX G ?a ?l ?c ?k
   (case a=>k_is);(case l=>k_is);(case c=>k_is);(case k=>k_is)
  have t_own_plot:SD.Txt (L2.KOf KX) mg "own_plot" QQ.iz:=by
   dsimp only[L2.KOf]
   refine' SD.Txt.mk KX G ?a ?l ?c ?k
   (case a=>k_is);(case l=>k_is);(case c=>k_is);(case k=>k_is)
  have t_is_less:SD.Txt (L2.KOf KX) mg "is_less" QQ.jP:=by
   dsimp only[L2.KOf]
   refine' SD.Txt.mk KX G ?a ?l ?c ?k
   (case a=>k_is);(case l=>k_is);(case c=>k_is);(case k=>k_is)
  have t_is_ahead:SD.Txt (L2.KOf KX) mg "is_ahead" QQ.iQ:=by
   dsimp only[L2.KOf]
   refine' SD.Txt.mk KX G ?a ?l ?c ?k
   (case a=>k_is);(case l=>k_is);(case c=>k_is);(case k=>k_is)
  have t_place_among:SD.Txt (L2.KOf KX) mg "place_among" QQ.fq:=by
   dsimp only[L2.KOf]
   refine' SD.Txt.mk KX G ?a ?l ?c ?k
   (case a=>k_is);(case l=>k_is);(case c=>k_is);(case k=>k_is)
  have t_ahead_first:SD.Txt (L2.KOf KX) mg "ahead_first" QQ.fh:=by
   dsimp only[L2.KOf]
   refine' SD.Txt.mk KX G ?a ?l ?c ?k
   (case a=>k_is);(case l=>k_is);(case c=>k_is);(case k=>k_is)
  have t_corners_of:SD.Txt (L2.KOf KX) mg "corners_of" QQ.fO:=by
   dsimp only[L2.KOf]
   refine' SD.Txt.mk KX G ?a ?l ?c ?k
   (case a=>k_is);(case l=>k_is);(case c=>k_is);(case k=>k_is)
  have t_ends_by_number:SD.Txt (L2.KOf KX) mg "ends_by_number" QQ.df:=by
   dsimp only[L2.KOf]
   refine' SD.Txt.mk KX G ?a ?l ?c ?k
   (case a=>k_is);(case l=>k_is);(case c=>k_is);(case k=>k_is)
  have t_face_ends:SD.Txt (L2.KOf KX) mg "face_ends" QQ.gR:=by
   dsimp only[L2.KOf]
   refine' SD.Txt.mk KX G ?a ?l ?c ?k
   (case a=>k_is);(case l=>k_is);(case c=>k_is);(case k=>k_is)
  have t_faces_by_start:SD.Txt (L2.KOf KX) mg "faces_by_start" QQ.dk:=by
   dsimp only[L2.KOf]
   refine' SD.Txt.mk KX G ?a ?l ?c ?k
   (case a=>k_is);(case l=>k_is);(case c=>k_is);(case k=>k_is)
  have t_gap:SD.Txt (L2.KOf KX) mg "gap" QQ.xi:=by
   dsimp only[L2.KOf]
   refine' SD.Txt.mk KX G ?a ?l ?c ?k
   (case a=>k_is);(case l=>k_is);(case c=>k_is);(case k=>k_is)
  have t_lean:SD.Txt (L2.KOf KX) mg "lean" QQ.sS:=by
   dsimp only[L2.KOf]
   refine' SD.Txt.mk KX G ?a ?l ?c ?k
   (case a=>k_is);(case l=>k_is);(case c=>k_is);(case k=>k_is)
  have t_side_of:SD.Txt (L2.KOf KX) mg "side_of" QQ.j0:=by
   dsimp only[L2.KOf]
   refine' SD.Txt.mk KX G ?a ?l ?c ?k
   (case a=>k_is);(case l=>k_is);(case c=>k_is);(case k=>k_is)
  have t_is_met_sooner:SD.Txt (L2.KOf KX) mg "is_met_sooner" QQ.dG:=by
   dsimp only[L2.KOf]
   refine' SD.Txt.mk KX G ?a ?l ?c ?k
   (case a=>k_is);(case l=>k_is);(case c=>k_is);(case k=>k_is)
  have t_face_behind:SD.Txt (L2.KOf KX) mg "face_behind" QQ.eZ:=by
   dsimp only[L2.KOf]
   refine' SD.Txt.mk KX G ?a ?l ?c ?k
   (case a=>k_is);(case l=>k_is);(case c=>k_is);(case k=>k_is)
  have t_ring_from:SD.Txt (L2.KOf KX) mg "ring_from" QQ.gN:=by
   dsimp only[L2.KOf]
   refine' SD.Txt.mk KX G ?a ?l ?c ?k
   (case a=>k_is);(case l=>k_is);(case c=>k_is);(case k=>k_is)
  have t_rings_of:SD.Txt (L2.KOf KX) mg "rings_of" QQ.ig:=by
   dsimp only[L2.KOf]
   refine' SD.Txt.mk KX G ?a ?l ?c ?k
   (case a=>k_is);(case l=>k_is);(case c=>k_is);(case k=>k_is)
  have t_common_bottom:SD.Txt (L2.KOf KX) mg "common_bottom" QQ.dN:=by
   dsimp only[L2.KOf]
   refine' SD.Txt.mk KX G ?a ?l ?c ?k
   (case a=>k_is);(case l=>k_is);(case c=>k_is);(case k=>k_is)
  have t_top_over:SD.Txt (L2.KOf KX) mg "top_over" QQ.iH:=by
   dsimp only[L2.KOf]
   refine' SD.Txt.mk KX G ?a ?l ?c ?k
   (case a=>k_is);(case l=>k_is);(case c=>k_is);(case k=>k_is)
  have t_twice_area:SD.Txt (L2.KOf KX) mg "twice_area" QQ.fL:=by
   dsimp only[L2.KOf]
   refine' SD.Txt.mk KX G ?a ?l ?c ?k
   (case a=>k_is);(case l=>k_is);(case c=>k_is);(case k=>k_is)
  have t_outer_and_inner:SD.Txt (L2.KOf KX) mg "outer_and_inner" QQ.cY:=by
   dsimp only[L2.KOf]
   refine' SD.Txt.mk KX G ?a ?l ?c ?k
   (case a=>k_is);(case l=>k_is);(case c=>k_is);(case k=>k_is)
  have t_earlier_of:SD.Txt (L2.KOf KX) mg "earlier_of" QQ.fP:=by
   dsimp only[L2.KOf]
   refine' SD.Txt.mk KX G ?a ?l ?c ?k
   (case a=>k_is);(case l=>k_is);(case c=>k_is);(case k=>k_is)
  have t_first_corner:SD.Txt (L2.KOf KX) mg "first_corner" QQ.ef:=by
   dsimp only[L2.KOf]
   refine' SD.Txt.mk KX G ?a ?l ?c ?k
   (case a=>k_is);(case l=>k_is);(case c=>k_is);(case k=>k_is)
  have t_spans:SD.Txt (L2.KOf KX) mg "spans" QQ.nU:=by
   dsimp only[L2.KOf]
   refine' SD.Txt.mk KX G ?a ?l ?c ?k
   (case a=>k_is);(case l=>k_is);(case c=>k_is);(case k=>k_is)
  have t_later_of:SD.Txt (L2.KOf KX) mg "later_of" QQ.ip:=by
   dsimp only[L2.KOf]
   refine' SD.Txt.mk KX G ?a ?l ?c ?k
   (case a=>k_is);(case l=>k_is);(case c=>k_is);(case k=>k_is)
  have t_is_above:SD.Txt (L2.KOf KX) mg "is_above" QQ.iA:=by
   dsimp only[L2.KOf]
   refine' SD.Txt.mk KX G ?a ?l ?c ?k
   (case a=>k_is);(case l=>k_is);(case c=>k_is);(case k=>k_is)
  have t_upper_of:SD.Txt (L2.KOf KX) mg "upper_of" QQ.iP:=by
   dsimp only[L2.KOf]
   refine' SD.Txt.mk KX G ?a ?l ?c ?k
   (case a=>k_is);(case l=>k_is);(case c=>k_is);(case k=>k_is)
  have t_upper_below:SD.Txt (L2.KOf KX) mg "upper_below" QQ.fj:=by
   dsimp only[L2.KOf]
   refine' SD.Txt.mk KX G ?a ?l ?c ?k
   (case a=>k_is);(case l=>k_is);(case c=>k_is);(case k=>k_is)
  have t_land_about:SD.Txt (L2.KOf KX) mg "land_about" QQ.fQ:=by
   dsimp only[L2.KOf]
   refine' SD.Txt.mk KX G ?a ?l ?c ?k
   (case a=>k_is);(case l=>k_is);(case c=>k_is);(case k=>k_is)
  have t_lands_of_faces:SD.Txt (L2.KOf KX) mg "lands_of_faces" QQ.dh:=by
   dsimp only[L2.KOf]
   refine' SD.Txt.mk KX G ?a ?l ?c ?k
   (case a=>k_is);(case l=>k_is);(case c=>k_is);(case k=>k_is)
  have t_above_table:SD.Txt (L2.KOf KX) mg "above_table" QQ.fm:=by
   dsimp only[L2.KOf]
   refine' SD.Txt.mk KX G ?a ?l ?c ?k
   (case a=>k_is);(case l=>k_is);(case c=>k_is);(case k=>k_is)
  have t_layers_of:SD.Txt (L2.KOf KX) mg "layers_of" QQ.cO:=by
   dsimp only[L2.KOf]
   refine' SD.Txt.mk KX G ?a ?l ?c ?k
   (case a=>k_is);(case l=>k_is);(case c=>k_is);(case k=>k_is)
  have t_guide_between:SD.Txt (L2.KOf KX) mg "guide_between" QQ.dF:=by
   dsimp only[L2.KOf]
   refine' SD.Txt.mk KX G ?a ?l ?c ?k
   (case a=>k_is);(case l=>k_is);(case c=>k_is);(case k=>k_is)
  have t_guide_by_halving:SD.Txt (L2.KOf KX) mg "guide_by_halving" QQ.cJ:=by
   dsimp only[L2.KOf]
   refine' SD.Txt.mk KX G ?a ?l ?c ?k
   (case a=>k_is);(case l=>k_is);(case c=>k_is);(case k=>k_is)
  have t_guide_of_wall:SD.Txt (L2.KOf KX) mg "guide_of_wall" QQ.dD:=by
   dsimp only[L2.KOf]
   refine' SD.Txt.mk KX G ?a ?l ?c ?k
   (case a=>k_is);(case l=>k_is);(case c=>k_is);(case k=>k_is)
  have t_guide_of_layer:SD.Txt (L2.KOf KX) mg "guide_of_layer" QQ.c9:=by
   dsimp only[L2.KOf]
   refine' SD.Txt.mk KX G ?a ?l ?c ?k
   (case a=>k_is);(case l=>k_is);(case c=>k_is);(case k=>k_is)
  have t_halves:SD.Txt (L2.KOf KX) mg "halves" QQ.l7:=by
   dsimp only[L2.KOf]
   refine' SD.Txt.mk KX G ?a ?l ?c ?k
   (case a=>k_is);(case l=>k_is);(case c=>k_is);(case k=>k_is)
  have t_law_frac:SD.Txt (L2.KOf KX) mg "_law_frac" QQ.iF:=by
   dsimp only[L2.KOf]
   refine' SD.Txt.mk KX G ?a ?l ?c ?k
   (case a=>k_is);(case l=>k_is);(case c=>k_is);(case k=>k_is)
  have t_law_given:SD.Txt (L2.KOf KX) mg "_law_given" QQ.gj:=by
   dsimp only[L2.KOf]
   refine' SD.Txt.mk KX G ?a ?l ?c ?k
   (case a=>k_is);(case l=>k_is);(case c=>k_is);(case k=>k_is)
  have t_law_plot:SD.Txt (L2.KOf KX) mg "_law_plot" QQ.ij:=by
   dsimp only[L2.KOf]
   refine' SD.Txt.mk KX G ?a ?l ?c ?k
   (case a=>k_is);(case l=>k_is);(case c=>k_is);(case k=>k_is)
  have t_law_frame:SD.Txt (L2.KOf KX) mg "_law_frame" QQ.gv:=by
   dsimp only[L2.KOf]
   refine' SD.Txt.mk KX G ?a ?l ?c ?k
   (case a=>k_is);(case l=>k_is);(case c=>k_is);(case k=>k_is)
  have t_law_same:SD.Txt (L2.KOf KX) mg "_law_same" QQ.ir:=by
   dsimp only[L2.KOf]
   refine' SD.Txt.mk KX G ?a ?l ?c ?k
   (case a=>k_is);(case l=>k_is);(case c=>k_is);(case k=>k_is)
  have t_law_height:SD.Txt (L2.KOf KX) mg "_law_height" QQ.fS:=by
   dsimp only[L2.KOf]
   refine' SD.Txt.mk KX G ?a ?l ?c ?k
   (case a=>k_is);(case l=>k_is);(case c=>k_is);(case k=>k_is)
  have t_law_higher:SD.Txt (L2.KOf KX) mg "_law_higher" QQ.fV:=by
   dsimp only[L2.KOf]
   refine' SD.Txt.mk KX G ?a ?l ?c ?k
   (case a=>k_is);(case l=>k_is);(case c=>k_is);(case k=>k_is)
  have t_law_above:SD.Txt (L2.KOf KX) mg "_law_above" QQ.gz:=by
   dsimp only[L2.KOf]
   refine' SD.Txt.mk KX G ?a ?l ?c ?k
   (case a=>k_is);(case l=>k_is);(case c=>k_is);(case k=>k_is)
  have t_law_stands_on:SD.Txt (L2.KOf KX) mg "_law_stands_on" QQ.dM:=by
   dsimp only[L2.KOf]
   refine' SD.Txt.mk KX G ?a ?l ?c ?k
   (case a=>k_is);(case l=>k_is);(case c=>k_is);(case k=>k_is)
  have t_law_layers:SD.Txt (L2.KOf KX) mg "_law_layers" QQ.cn:=by
   dsimp only[L2.KOf]
   refine' SD.Txt.mk KX G ?a ?l ?c ?k
   (case a=>k_is);(case l=>k_is);(case c=>k_is);(case k=>k_is)
  have t_law:SD.Txt (L2.KOf KX) mg "law" QQ.xU:=by
   dsimp only[L2.KOf]
   refine' SD.Txt.mk KX G ?a ?l ?c ?k
   (case a=>k_is);(case l=>k_is);(case c=>k_is);(case k=>k_is)
  have fc_layers_of:SD.oW (L2.KOf KX) mg "layers_of" QQ.cO 374:=by
   dsimp only[L2.KOf]
   refine' SD.oW.mk KX G ?a ?l ?c ?k
   (case a=>k_is);(case l=>k_is);(case c=>k_is);(case k=>k_is)
  have lm_layers_of:SD.Mk (L2.KOf KX) mg 374 372:=by
   dsimp only[L2.KOf]
   refine' SD.BA KX G (by kernel_rfl) ?a ?l ?b ?c ?d ?e ?f
   (case a=>k_is);(case l=>k_is);(case b=>decide);(case c=>decide);(case d=>rfl);(case e=>rfl);(case f=>rfl)
  have fc_law_layers:SD.oW (L2.KOf KX) mg "_law_layers" QQ.cn 529:=by
   dsimp only[L2.KOf]
   refine' SD.oW.mk KX G ?a ?l ?c ?k
   (case a=>k_is);(case l=>k_is);(case c=>k_is);(case k=>k_is)
  have lm_law_layers:SD.Mk (L2.KOf KX) mg 529 527:=by
   dsimp only[L2.KOf]
   refine' SD.BA KX G (by kernel_rfl) ?a ?l ?b ?c ?d ?e ?f
   (case a=>k_is);(case l=>k_is);(case b=>decide);(case c=>decide);(case d=>rfl);(case e=>rfl);(case f=>rfl)
  have lb:mg "abs"=KL:=by
   refine' IV KX G ?a
   (case a=>k_is)
  have lg:mg "any"=KL:=by
   refine' IV KX G ?a
   (case a=>k_is)
  have l4:mg "enumerate"=KL:=by
   refine' IV KX G ?a
   (case a=>k_is)
  have l_:mg "int"=KL:=by
   refine' IV KX G ?a
   (case a=>k_is)
  have ma:mg "len"=KL:=by
   refine' IV KX G ?a
   (case a=>k_is)
  have mu:mg "list"=KL:=by
   refine' IV KX G ?a
   (case a=>k_is)
  have m4:mg "max"=KL:=by
   refine' IV KX G ?a
   (case a=>k_is)
  have m_:mg "min"=KL:=by
   refine' IV KX G ?a
   (case a=>k_is)
  have nq:mg "range"=KL:=by
   refine' IV KX G ?a
   (case a=>k_is)
  have nv:mg "repr"=KL:=by
   refine' IV KX G ?a
   (case a=>k_is)
  have n7:mg "sorted"=KL:=by
   refine' IV KX G ?a
   (case a=>k_is)
  have n_:mg "sum"=KL:=by
   refine' IV KX G ?a
   (case a=>k_is)
  have ox:mg "tuple"=KL:=by
   refine' IV KX G ?a
   (case a=>k_is)
  have oy:mg "zip"=KL:=by
   refine' IV KX G ?a
   (case a=>k_is)
  have oD:SD.ve (L2.KOf KX) (SD.cl (L2.KOf KX) "Layers") "layers" "Layers.layers" QQ.dE:=by
   dsimp only[L2.KOf]
   refine' SD.ve.mk ?a ?b ?e ?l ?d ?k
   (case a=>k_is);(case b=>k_is);(case e=>k_is);(case l=>k_is);(case d=>k_is);(case k=>k_is)
  have o_:SD.vQ (L2.KOf KX) mg "Way" "__init__" "Way.__init__" QQ.d9:=by
   dsimp only[L2.KOf]
   refine' SD.vQ.mk KX G ?a ?b ?e ?r ?l ?d ?k
   (case a=>k_is);(case b=>k_is);(case e=>k_is);(case r=>k_is);(case l=>k_is);(case d=>k_is);(case k=>k_is)
  have pa:SD.mU (L2.KOf KX) mg "Layers" (SD.cl (L2.KOf KX) "Layers") "Layers.__init__" QQ.cV:=by
   dsimp only[L2.KOf]
   refine' SD.mU.mk KX G ?a ?m ?b ?e ?kc ?l ?d ?k
   (case a=>k_is);(case m=>k_is);(case b=>k_is);(case e=>k_is);(case kc=>k_is);(case l=>k_is);(case d=>k_is);(case k=>k_is)
  have cl_Layers:L2.Cls (L2.KOf KX) (SD.cl (L2.KOf KX) "Layers"):=by
   dsimp only[L2.KOf]
   refine' SD.DZ ?a ?pg ?hd ?po ?sa
   (case a=>k_is);(case pg=>k_is);(case hd=>k_is);(case po=>k_is);(case sa=>k_is)
  have na_corners:L2.bS (L2.KOf KX) (SD.cl (L2.KOf KX) "Layers") "corners":=by
   dsimp only[L2.KOf]
   refine' SD.qB ?a ?h
   (case a=>k_is);(case h=>k_is)
  have na_guide:L2.bS (L2.KOf KX) (SD.cl (L2.KOf KX) "Layers") "guide":=by
   dsimp only[L2.KOf]
   refine' SD.qB ?a ?h
   (case a=>k_is);(case h=>k_is)
  have na_layer_rows:L2.bS (L2.KOf KX) (SD.cl (L2.KOf KX) "Layers") "layer_rows":=by
   dsimp only[L2.KOf]
   refine' SD.qB ?a ?h
   (case a=>k_is);(case h=>k_is)
  have na_most_looks:L2.bS (L2.KOf KX) (SD.cl (L2.KOf KX) "Layers") "most_looks":=by
   dsimp only[L2.KOf]
   refine' SD.qB ?a ?h
   (case a=>k_is);(case h=>k_is)
  have na_plot:L2.bS (L2.KOf KX) (SD.cl (L2.KOf KX) "Layers") "plot":=by
   dsimp only[L2.KOf]
   refine' SD.qB ?a ?h
   (case a=>k_is);(case h=>k_is)
  exact QQ.FA #[t_law_pot,t_law_take,t_law_new_spot,t_law_some_spot,t_law_square,t_law_side,t_law_on,t_law_apart,t_law_laid,t_law_shuts_here,t_law_squares,t_greatest_divisor,t_fraction,t_own_spot,t_own_wall,t_own_plot,t_is_less,t_is_ahead,t_place_among,t_ahead_first,t_corners_of,t_ends_by_number,t_face_ends,t_faces_by_start,t_gap,t_lean,t_side_of,t_is_met_sooner,t_face_behind,t_ring_from,t_rings_of,t_common_bottom,t_top_over,t_twice_area,t_outer_and_inner,t_earlier_of,t_first_corner,t_spans,t_later_of,t_is_above,t_upper_of,t_upper_below,t_land_about,t_lands_of_faces,t_above_table,t_layers_of,t_guide_between,t_guide_by_halving,t_guide_of_wall,t_guide_of_layer,t_halves,t_law_frac,t_law_given,t_law_plot,t_law_frame,t_law_same,t_law_height,t_law_higher,t_law_above,t_law_stands_on,t_law_layers,t_law,fc_layers_of,lm_layers_of,fc_law_layers,lm_law_layers,lb,lg,l4,l_,ma,mu,m4,m_,nq,nv,n7,n_,ox,oy,oD,o_,pa,cl_Layers,na_corners,na_guide,na_layer_rows,na_most_looks,na_plot] hmg
