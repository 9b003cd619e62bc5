import PyProof.Rows.All
import Wide.All
import OpenK.AllK
import Wide.FinOn
import Lean
import PyProof.EqAt
import PyProof.EqKinds
import PyProof.TupleCall
import PySem.Challenge.RW_spotlook_k47_looks_that_hold
noncomputable section
set_option compiler.extract_closed false
set_option genInjectivity false
set_option genSizeOf false
local macro_rules|`(#[$xs,*])=>do
  let a:=xs.getElems
  if a.size<2 then Lean.Macro.throwUnsupported
  let mut r:Array Lean.Term:=#[]
  for x in a do
    match x with
    |`(7)=>r:=(r.push (← `(_))).push (← `(rfl))
    |`(8)=>r:=r.push (← `(rfl))
    |_=>r:=r.push x
  `(⟨$r,*⟩)
local macro_rules|`(tactic|let [$xs,*]:=$e)=>do
  let r←xs.getElems.mapM fun x=>match x with
    |`(_)=>`(Lean.Parser.Tactic.rcasesPatLo|_)
    |`(8)=>`(Lean.Parser.Tactic.rcasesPatLo|$(Lean.mkIdent `rfl):ident)
    |`($i:ident)=>`(Lean.Parser.Tactic.rcasesPatLo|$i:ident)
    |_=>Lean.Macro.throwUnsupported
  `(tactic|obtain ⟨$r,*⟩:=$e)
local macro_rules|`(tactic|exists $xs,*)=>do
  let r:=xs.getElems.push (← `(?_))
  `(tactic|refine #[$r,*])
local macro_rules|`(def $n $s:optDeclSig $v:declVal)=>`(noncomputable def $n $s:optDeclSig $v)
local macro_rules|`((_))=>`(by simp)
local macro_rules|`(tactic|let $x:ident : $t := $e)=>`(tactic|have $x:ident : $t := $e)|`(tactic|let $x:ident := $e)=>`(tactic|have $x:ident := $e)
local macro_rules|`(def $n:declId $[$b:bracketedBinder]* : $t := by $s)=>`(theorem $n:declId $[$b:bracketedBinder]* : $t := by $s)
open Option renaming some->KA
open Option renaming none->KC
open Bool renaming true->KD
open Bool renaming false->KG
theorem KH{c:Prop}{d:Decidable c}(h:¬c){a:Sort _}{x y:a}:(if c then x else y)=y:=if_neg h
theorem KI{c:Prop}{d:Decidable c}(h:c){a:Sort _}{x y:a}:(if c then x else y)=x:=if_pos h
theorem KJ{p:Prop}[Decidable p](h:¬p):decide p=false:=decide_eq_false h
theorem KL{p:Prop}[Decidable p](h:p):decide p=true:=decide_eq_true h
theorem KN{p q:Prop}{_:Decidable p}{_:Decidable q}:(decide p=decide q)=(p↔q):=propext decide_eq_decide
local macro_rules|`(())=>`(by omega)
local macro_rules|`(‹$x›)=>`(by simpa using $x)
local macro_rules|`(⋯)=>`(by first|decide|walk_at "sc")
local macro_rules | `(tactic| omega) => `(tactic| lia)
open Array renaming length_toList->J0
open Bool renaming false_ne_true->HF,false_eq_true->IE,decide_and->J4,and_eq_true->Je,eq_iff_iff->JJ
open False renaming elim->HS
open ForInStep renaming yield->JW
open Int renaming sign->HW,fdiv_eq_ediv_of_nonneg->Ir,toNat_natCast->IJ,sign_eq_neg_one_of_neg->IS,lt_trichotomy->IX,mul_pos->IZ,mul_pos_of_neg_of_neg->J8,mul_neg_of_pos_of_neg->J9,sign_eq_one_of_pos->Jb,mul_neg_of_neg_of_pos->Jq,mul_le_mul->K8,mul_nonneg->Ko,ofNat->Kp
open List renaming length_map->Ho,getElem?_eq_getElem->Ht,getElem?_map->Hv,getElem?_eq_some_iff->Hw,mem_of_getElem?->Hz,size_toArray->HD,map_cons->HG,range->HM,mem_append_right->HP,mem_append->HQ,toArray->HZ,map_append->Ib,replicate->Ic,find?_cons->Ie,length_cons->Ih,getElem?_append_right->Ij,getElem?_append_left->Im,length_append->Io,getElem_mem->Iq,length_take->Iu,mem_cons->Iw,mem_map->Iz,mem_cons_of_mem->IL,lookup_cons->IP,mem_filter->J1,pairwise_iff_getElem->Ja,length_drop->Jd,map_map->Jj,mem_singleton->Jl,append_nil->Jm,take_of_length_le->Jo,map->Jp,replicate_succ->Js,map_congr_left->Jt,map_nil->JF,filterMap_cons->JG,any_cons->K1,all_eq_true->K5,mem_cons_self->K6,range_succ->Kb,flatten_cons->Kf
open Nat renaming le_refl->Hu,ne_of_lt->HX,lt_of_lt_of_le->HY,le_trans->Iv,zero_le->IB,lt_succ_of_lt->Jh,le_of_lt->JX,gcd->K9,lt_irrefl->Kh,le_succ->Kq
open PyProof.Rows renaming seqObj->IC,callWith_type1->Jg,IntsAre->Jk,envOfC->Kl
open PySem renaming wpAny_bind->Hl,Value->Hn,Shared->Hq,wpAny_pure->Hs,wpAny->Hy,starEach->HC,model->HI,wpAny_mono->HJ,sizeLine->HK,Program->HL,Params->HN,foldedSetIterable->Ia,Around->Ig,mem_of_lookup->Ii,compareOp->Ik,World->Il,mainGlobals->IA,wpAny_newObj_type->ID,bootBuiltins->IG,wpAny_holding->IM,DictEntry->IQ,cLine->IV,backTo->IY,wpAny_loadPart'->J3,sizeLine_eq->J7,wpAny_truthy_bool->Jf,Spec->Jr,cellsFrom->Jv,wpAny_standAt->Jw,sysModules->Jz,Scope->JB,wpAny_call_entry->JC,codeAny->JE,swapsWith->JH,letOwnedTupleGo->JI,keywordEach->JK,binaryOp->JL,wpAny_Call_Name_kw->JN,attributeBase->JO,wpAny_comprehension_free->JP,NameKind->JQ,wpAny_typeNameOfWhole_keyiter->JS,wpAny_callSpecial?_slot->JT,behindInMarks->K0,wpAny_passesOwn->Ka,bindArgs->Kc,Builtin->Kd,wpAny_field->Ke,assignEach->Ki,PyData->Kj,assign->Kk,newFunctionEnv->Km,wpAny_seqItems->Kn,rawInt->Kr,backToKw->Ks,Paired->Kt,Addr->r4,Stmt->r8,Heap->r_,Expr->sg
open PySem.Challenge renaming pw_spotlook_k47_looks_that_hold->Ip
open PySem.F renaming slot_dict_keyiterator_next->Jx,slot_tuple_iterator_next->K7
open PySem.Heap renaming get?_push_of_some->Hr,get?_push_size->Hx,lt_size->HE,size_push->J6,get?_update_other->Jn,SameBut->JD,get?_update_self->JM
open PySem.Heap.SameBut renaming update->IU
open PySem.NameKind renaming free->K4
open PySem.Obj renaming mapSeq->IK
open PySem.PassesOwn renaming never->HR
open PySem.PyData renaming eqv->Iy,eqvAll->IT,canLayAll0->Ji
open PySem.SeqAt renaming shaped->JY
open PySem.Str renaming ofString->IW
open PySem.Value renaming ref->II,bool->JU,type->Kg
open PySem.W renaming Frag->Hm,BT->HH,mg_none_of->IF,fnOf->IH,keepIn->J5,findIn->Jc,emptyDict->Ju,kla_obj->Jy,codeIn->JR,instObj->JV,nsIn->JZ
open True renaming intro->JA
local macro_rules | `(↑$n:num) => `(nat_lit $n)
local macro_rules | `(!$n:num) => `(nat_lit $n)
set_option Elab.async false
set_option linter.all false
set_option maxRecDepth 100000
set_option maxHeartbeats 4000000
set_option allowUnsafeReducibility true
abbrev PySem.Shared.z(s:PySem.Shared):=s.heap.objs.size
abbrev _root_.vi:=Nat->Int
abbrev _root_.u_:=List PySem.Str
abbrev _root_.t_:=List r4
abbrev _root_.tr:=List sg
abbrev _root_.tq:=List r8
abbrev _root_.ti:=Option Int
abbrev _root_.s_:=List IQ
abbrev _root_.sy:=List Int
abbrev _root_.sx:=List Nat
abbrev _root_.sq:=List (sx)
abbrev _root_.sm:=List (r4×PySem.Obj)
theorem LR{n m:Nat}(h:Nat.ble n m=KD):n<=m:=Nat.le_of_ble_eq_true h
namespace L2
open PySem PySem.Spec PyProof.Rows
abbrev Key:=Sum Int Str
def nV:Key->Hn->Bool
 |.inl k,v=>Value.isInt k v
 |.inr x,v=>Value.isStrOf x v
def Hf(w:Il):Key->Int
 |.inl k=>hashInt k
 |.inr x=>hashStr w x
theorem bL:∀{k:Key}{v:Hn},nV k v=KD->(∃i t,k=Sum.inl i/\v=Value.int i t)\/(∃x t,k=Sum.inr x/\v=Value.str x t)
 |.inl i,v,h=>by
  let[t,e]:=Value.isInt_shape (k:=i) (v:=v) h
  exact .inl #[i,t,8,e]
 |.inr x,v,h=>by
  let[t,e]:=Value.isStrOf_shape (x:=x) (v:=v) h
  exact .inr #[x,t,8,e]
def vX(i:Int)(t:Tok):nV (.inl i) (.int i t)=KD:=by simp[nV,Value.isInt]
def wm(x:Str)(t:Tok):nV (.inr x) (.str x t)=KD:=by simp[nV,Value.isStrOf]
def CL(a b:Int):decide ((Sum.inl a:Key)=Sum.inl b)=(a==b):=by
 by_cases e:a=b
 .subst e;simp
 .have h:¬(Sum.inl a:Key)=Sum.inl b:=λq=>e (Sum.inl.inj q);rw[KJ h];exact(beq_eq_false_iff_ne.mpr e).symm
def DN(a b:Str):decide ((Sum.inr a:Key)=Sum.inr b)=decide (a=b):=by
 by_cases e:a=b
 .subst e;simp
 .have h:¬(Sum.inr a:Key)=Sum.inr b:=λq=>e (Sum.inr.inj q);rw[KJ h,KJ e]
theorem Cv(a:Int)(b:Str):decide ((Sum.inl a:Key)=Sum.inr b)=KG:=KJ (λq=>nomatch q)
theorem DD(a:Str)(b:Int):decide ((Sum.inr a:Key)=Sum.inl b)=KG:=KJ (λq=>nomatch q)
def b8(prog:HL)(w:Il):PySem.KeyKind prog w Key where
 is:=nV
 hash:=Hf w
 inj:=λv a b d c=>by
  rcases bL d with⟨i,t,rfl,rfl⟩|⟨x,t,rfl,rfl⟩
  .rcases bL c with⟨j,u,rfl,e⟩|⟨y,u,rfl,e⟩
   .injection e with e1 _;rw[e1]
   .exact nomatch e
  .rcases bL c with⟨j,u,rfl,e⟩|⟨y,u,rfl,e⟩
   .exact nomatch e
   .injection e with e1 _;rw[e1]
 byValue:=λk v h=>by
  rcases bL h with⟨i,t,rfl,rfl⟩|⟨x,t,rfl,rfl⟩<;>rfl
 pyHash:=λhv h=>by
  rcases bL hv with⟨i,t,rfl,rfl⟩|⟨x,t,rfl,rfl⟩
  .exact wpAny_pyHash_int h
  .exact wpAny_pyHash_str h
 eqBool:=λf hv h=>by
  rcases bL f with⟨i,t,rfl,rfl⟩|⟨x,t,rfl,rfl⟩
  .rcases bL hv with⟨j,u,rfl,rfl⟩|⟨y,u,rfl,rfl⟩
   .rw[CL]at h;exact wpAny_eqBool_int h
   .rw[Cv]at h;exact SeqAt.EqAt.int_str i t y u _ _ _ _ h
  .rcases bL hv with⟨j,u,rfl,rfl⟩|⟨y,u,rfl,rfl⟩
   .rw[DD]at h;exact SeqAt.EqAt.str_int x t j u _ _ _ _ h
   .rw[DN]at h;exact wpAny_eqBool_str h
 «strs»:=λk x t v h=>by
  rcases bL h with⟨i,u,rfl,e⟩|⟨y,u,rfl,e⟩
  .exact nomatch e
  .injection e with e1 _
   subst e1
   cases v<;>rfl
theorem qW(prog:HL)(w:Il)(i:Int)(t:Tok):(b8 prog w).is (.inl i) (.int i t)=KD:=vX i t
theorem qR(prog:HL)(w:Il)(x:Str)(t:Tok):(b8 prog w).is (.inr x) (.str x t)=KD:=wm x t
set_option genInjectivity true in
inductive V where
 |non|bl (b:Bool)|int (i:Int)|str (x:Str)|byt (b:Array UInt8)|flt (b:UInt64)|ref (a:r4)|ty (n:String)
 deriving DecidableEq
abbrev _root_.vo:=List V
def RelV:V->Hn->Prop
 |.non,u=>u=Value.none
 |.bl b,u=>u=JU b
 |.int i,u=>∃t,u=Value.int i t
 |.str x,u=>∃t,u=Value.str x t
 |.byt b,u=>∃t,u=Value.bytes b t
 |.flt b,u=>∃t,u=Value.float b t
 |.ref a,u=>u=II a
 |.ty n,u=>u=Kg n
abbrev Vals:vo->List Hn->Prop:=Kt RelV
theorem Vals.length{xs:vo}{us:List Hn}(r:Vals xs us):xs.length=us.length:=Paired.length r
theorem Vals.get:∀{xs:vo}{us:List Hn}{i:Nat}{x:V},Vals xs us->xs[i]?=KA x->∃u,us[i]?=KA u/\RelV x u
 |_,_,_,_,.nil,e=>by simp at e
 |_,_,0,_,.cons r _,e=>by simp at e;subst e;exact #[7,r]
 |_,_,i+1,x,.cons _ t,e=>by
  let[u,h1,h2]:=Vals.get (i:=i) (x:=x) t ‹e›
  exact #[u,‹h1›,h2]
theorem Vals.set{x:V}{u:Hn}(r:RelV x u):∀{xs:vo}{us:List Hn}(i:Nat),Vals xs us->Vals (xs.set i x) (us.set i u)
 |_,_,_,.nil=>.nil
 |_,_,0,.cons _ t=>.cons r t
 |_,_,i+1,.cons q t=>.cons q (Vals.set r i t)
def Vals.append:∀{xs ys:vo}{us ws:List Hn},Vals xs us->Vals ys ws->Vals (xs++ys) (us++ws):=by
 intro xs ys us ws h s
 induction h with
 |nil=>exact s
 |cons r t a=>exact .cons r a
theorem Vals.take:∀{xs:vo}{us:List Hn}(n:Nat),Vals xs us->Vals (xs.take n) (us.take n)
 |_,_,0,_=>.nil
 |_,_,_+1,.nil=>.nil
 |_,_,n+1,.cons r t=>.cons r (Vals.take n t)
theorem Vals.drop:∀{xs:vo}{us:List Hn}(n:Nat),Vals xs us->Vals (xs.drop n) (us.drop n)
 |_,_,0,r=>r
 |_,_,_+1,.nil=>.nil
 |_,_,n+1,.cons _ t=>Vals.drop n t
def jC:Option V->Option Hn->Prop
 |some v,KA u=>RelV v u
 |none,KC=>True
 |_,_=>False
def KV{κ:Type}:List (κ×V)->List (κ×Hn)->Prop:=Kt λ(p:κ×V) (q:κ×Hn)=>p.1=q.1/\RelV p.2 q.2
def kV:Key->V
 |.inl i=>.int i
 |.inr x=>.str x
inductive HO where
 |lst (xs:vo)
 |tup (xs:vo)
 |dK (kvs:List (Key×V))|dT (kvs:List (List Key×V))
 |set (S:Int->Bool) (n:Nat)
 |ins (C dx:r4) (fs:List (Str×V))
 |own (x:r4)
 |xd (fs:List (Str×V))
 |met (f x:r4)
 |rng (lo hi:Int)
 |frz (o:Obj) (u:HO)
 |tbl (ps:Array Hn)
 |ext (φ:r_->Prop)
abbrev Hp:=r4->Option HO
def upd(H:Hp)(a:r4)(o:HO):Hp:=λb=>if b=a then KA o else H b
def aH{H:Hp}{a:r4}{o:HO}:upd H a o a=KA o:=by unfold upd;rw[KI rfl]
def aG{H:Hp}{a b:r4}{o:HO}(h:b≠a):upd H a o b=H b:=by unfold upd;rw[KH h]
def Gh{H:Hp}{a b:r4}{o u:HO}(h:H a=KA o)(h':H b=KA u)(d:o≠u):a≠b:=by intro e;subst e;rw[h]at h';exact d (Option.some.inj h')
def eW{H:Hp}{a b:r4}{o:HO}(h:H a=KA o)(h':H b=KC):a≠b:=by intro e;subst e;rw[h]at h';cases h'
section
variable(P:HL)(w:Il)
def QZ(h:r_)(a:r4):Prop:=∃o,h.get? a=KA o/\o.dict=KC
theorem QZ.new(h:r_)(u:Array Hn):QZ (h.push { cls:=.type "tuple",data:=.seq u }) h.objs.size:=#[_,Hx _ rfl,rfl]
def bO(H:Hp)(h:r_)(a:r4):HO->Prop
 |.lst xs=>xs.length<=HK/\∃(b:List Hn) (n:Nat),Vals xs b/\h.get? a=KA { cls:=.type "list",data:=.seq b.toArray n }
 |.tup xs=>xs.length<=HK/\∃b:List Hn,Vals xs b/\IsTup h a b.toArray/\QZ h a
 |.dK kvs=>kvs.length<=HK/\(a==Jz)=KG/\∃vs,KV kvs vs/\h.DictOf (b8 P w) a vs
 |.dT kvs=>kvs.length<=HK/\(a==Jz)=KG/\∃xs:List (List Key×r4×Hn),
  Kt (λ(p:List Key×V) (q:List Key×r4×Hn)=>p.1=q.1/\H q.2.1=KA (.tup (p.1.map kV))/\RelV p.2 q.2.2) kvs xs/\
  ∃o e g,h.get? a=KA o/\o.ExactDict/\o.data=.dict e g/\e.toList=xs.map (entryOfKey (tupleKind (b8 P w)))/\(xs.map (·.1)).Nodup
 |.set S n=>h.SetOf (intKind P w) a S n
 |.ins C c fs=>H c=KA (.own a)/\fs.length<=1000/\c≠a/\h.get? a=KA (JV C c)/\
  ∃mA,h.Ns1 c mA/\(∀f,jC (fs.lookup f) (mA f))/\PySem.Within mA (fs.map (·.1))
 |.own _=>∃o,h.get? a=KA o
 |.xd fs=>∃mA,h.Ns1 a mA/\∀f,jC (fs.lookup f) (mA f)
 |.rng i j=>∃t u v,h.get? a=KA { cls:=.type "range",data:=.fields (List.toArray [.int i t,.int j u,.int 1 v]) }
 |.frz o u=>h.get? a=KA o/\bO H h a u
 |.tbl ps=>h.get? a=KA { cls:=.none,data:=.fields ps }
 |.met f x=>h.get? a=KA (PySem.W.methodObj (.ref f) (.ref x))
 |.ext d=>d h/\(∃o,h.get? a=KA o)/\∀h1 h2:r_,d h1->(∀o,h1.get? a=KA o->h2.get? a=KA o)->d h2
def MC(H:Hp)(h:r_):Prop:=∀a o,H a=KA o->bO P w H h a o
end
section
variable{P:HL}{w:Il}{H H':Hp}{h h':r_}{a:r4}{o:HO}
def bO.lt(x:bO P w H h a o):a<h.objs.size:=by
 cases o with
 |lst xs=>let[_,_,_,_,e]:=x;exact HE e
 |tup xs=>let[_,_,_,p,_]:=x;exact p.lt
 |dK kvs=>let[_,_,_,_,o,_,_,e,_]:=x;exact HE e
 |dT kvs=>let[_,_,_,_,o,_,_,e,_]:=x;exact HE e
 |set S n=>let[o,_,_,_,e,_]:=x;exact HE e
 |ins C b fs=>let[_,_,_,e,_]:=x;exact HE e
 |own y=>let[_,e]:=x;exact HE e
 |xd fs=>obtain⟨_,⟨_,_,_,e,_⟩,_⟩:=x;exact HE e
 |rng c d=>let[_,_,_,e]:=x;exact HE e
 |frz g u=>let[e,_]:=x;exact HE e
 |tbl ps=>exact HE (show h.get? a=KA _ from x)
 |met f y=>exact HE (show h.get? a=KA _ from x)
 |ext i=>obtain⟨_,⟨_,e⟩,_⟩:=x;exact HE e
def Paired.Fi{d e:Type}{F G:d->e->Prop}:∀{c:List d}{l₂:List e},Kt F c l₂->(∀a b,F a b->G a b)->Kt G c l₂:=by
 intro c l₂ h f
 induction h with
 |nil=>exact .nil
 |cons r t g=>exact .cons (f _ _ r) g
def bO.fW(x:bO P w H h a o)(k:∀b u,(b=a\/H b=KA (.own a))->h.get? b=KA u->h'.get? b=KA u) (m:∀b,H b=KA (.own a)->H' b=KA (.own a)) (s:∀b xs,H b=KA (.tup xs)->H' b=KA (.tup xs)):bO P w H' h' a o:=by
 induction o with
 |lst xs=>let[z,l,n,r,e]:=x;exact #[z,l,n,r,k _ _ (.inl rfl) e]
 |tup xs=>obtain⟨z,l,r,⟨g,e,c⟩,A,e2,B⟩:=x;exact #[z,l,r,#[g,k _ _ (.inl rfl) e,c],A,k _ _ (.inl rfl) e2,B]
 |dK kvs=>let[z,y,vs,r,g,i,j,e,c]:=x;exact #[z,y,vs,r,g,i,j,k _ _ (.inl rfl) e,c]
 |dT kvs=>
  let[z,y,xs,r,g,i,j,e,c]:=x
  exact #[z,y,xs,Paired.Fi r λp q z=>#[z.1,s _ _ z.2.1,z.2.2],g,i,j,k _ _ (.inl rfl) e,c]
 |set S n=>let[g,i,j,t,e,c]:=x;exact #[g,i,j,t,k _ _ (.inl rfl) e,c]
 |ins C E fs=>
  obtain⟨d,z,ne,e,mA,⟨od,i,j,e2,c⟩,r⟩:=x
  exact #[m _ d,z,ne,k _ _ (.inl rfl) e,mA,#[od,i,j,k _ _ (.inr d) e2,c],r]
 |own y=>let[g,e]:=x;exact #[g,k _ _ (.inl rfl) e]
 |xd fs=>obtain⟨mA,⟨od,i,j,e,c⟩,r⟩:=x;exact #[mA,#[od,i,j,k _ _ (.inl rfl) e,c],r]
 |rng F G=>let[t,u,v,e]:=x;exact #[t,u,v,k _ _ (.inl rfl) e]
 |frz g u D=>let[e,q]:=x;exact #[k _ _ (.inl rfl) e,D q]
 |tbl ps=>
  let e:h.get? a=KA { cls:=.none,data:=.fields ps }:=x
  show h'.get? a=KA { cls:=.none,data:=.fields ps }
  exact k a _ (.inl rfl) e
 |met f y=>
  let e:h.get? a=KA (PySem.W.methodObj (.ref f) (.ref y)):=x
  show h'.get? a=KA (PySem.W.methodObj (.ref f) (.ref y))
  exact k a _ (.inl rfl) e
 |ext I=>obtain⟨p,⟨o,e⟩,st⟩:=x;exact #[st _ _ p λo q=>k _ _ (.inl rfl) q,#[o,k _ _ (.inl rfl) e],st]
theorem MC.lt(x:MC P w H h)(e:H a=KA o):a<h.objs.size:=(x a o e).lt
def MC.fresh(x:MC P w H h)(e:h.objs.size<=a):H a=KC:=by
 cases q:H a with
 |none=>rfl
 |some u=>exact absurd (HY (x.lt q) e) (Kh _)
theorem MC.kept(x:MC P w H h)(k:∀b u,h.get? b=KA u->h'.get? b=KA u):MC P w H h':=λa o e=>(x a o e).fW (λb u _ q=>k b u q) (λ_ q=>q) λ_ _ q=>q
theorem MC.laid(x:MC P w H h)(k:∀b u,h.get? b=KA u->h'.get? b=KA u)(g:h.objs.size<=a)(new:bO P w (upd H a o) h' a o):MC P w (upd H a o) h':=λb u e=>by
 let d:=x.fresh g;by_cases f:b=a
 .subst f;rw[aH]at e;cases e;exact new
 .rw[aG f]at e;exact(x b u e).fW (λc v _ q=>k c v q) (λc q=>by rw[aG (eW q d)];exact q) λc xs q=>by rw[aG (eW q d)];exact q
end
def Rd(H:Hp)(a:r4)(u:HO):Prop:=H a=KA u\/∃o,H a=KA (.frz o u)
def Rd.ok{P:HL}{w:Il}{H:Hp}{h:r_}{a:r4}{u:HO}(r:Rd H a u)(x:MC P w H h):bO P w H h a u:=by
 rcases r with r|⟨o,r⟩
 .exact x a u r
 .obtain⟨_,q⟩:=x a _ r;exact q
def WS:Option HO->Prop
 |some (.lst _)=>True
 |some (.dK _)=>True
 |some (.dT _)=>True
 |some (.set _ _)=>True
 |some (.ins _ _ _)=>True
 |some (.ext _)=>True
 |_=>False
section
variable{P:HL}{w:Il}{H:Hp}{h h':r_}{x e:r4}{o':HO}
theorem MC.write(ok:MC P w H h)(g:WS (H x))(m:e=x\/H e=KA (.own x))(k:∀b u,b≠e->h.get? b=KA u->h'.get? b=KA u)(l:∃u,h'.get? e=KA u)
 (new:bO P w (upd H x o') h' x o'):MC P w (upd H x o') h':=λb u q=>by
 let d:∀c y,H c=KA (.own y)->c≠x:=λc y r z=>by subst z;rw[r]at g;exact g
 let f:∀c xs,H c=KA (.tup xs)->c≠x:=λc xs r z=>by subst z;rw[r]at g;exact g
 by_cases i:b=x
 .subst i;rw[aH]at q;cases q;exact new
 .rw[aG i]at q
  by_cases a:b=e
  .have n:H b=KA (.own x):=by
    rcases m with z|z
    .exact absurd (a.trans z) i
    .rw[a];exact z
   rw[q]at n;cases n
   let[v,hv]:=l
   exact #[v,by rw[a];exact hv]
  .refine(ok b u q).fW (λc v j r=>k c v ?_ r) (λc r=>by rw[aG (d c b r)];exact r) λc xs r=>by rw[aG (f c xs r)];exact r
   rcases j with rfl|j
   .exact a
   .rintro rfl
    rcases m with z|z
    .exact d c b j z
    .rw[j]at z;cases z;exact i rfl
end
structure Un(fs ex:t_)(H H':Hp)(h h':r_):Prop where
 keep:∀b o,h.get? b=KA o->H b=KC->b∉fs->b∉ex->h'.get? b=KA o
 slot:∀b o,h.get? b=KA o->H b=KC->b∈fs->b∉ex->∃sl,h'.get? b=KA { o with slots:=sl }
 free:∀b o,h.get? b=KA o->H b=KC->b∉ex->H' b=KC
 there:∀b o,h.get? b=KA o->b∉ex->∃o',h'.get? b=KA o'
 tups:∀b xs,H b=KA (.tup xs)->H' b=KA (.tup xs)
 frzs:∀b o u,H b=KA (.frz o u)->H' b=KA (.frz o u)
 tbls:∀b ps,H b=KA (.tbl ps)->∃more,H' b=KA (.tbl (ps++more))
section
variable{fs KO ex KP:t_}{H H1 H2:Hp}{h h1 h2 h':r_}{a x e:r4}{o:HO}
def Un.any(u:Un fs ex H H1 h h1){b:r4}{c:Obj}(q:h.get? b=KA c)(n:H b=KC)(hx:b∉ex):∃f,h1.get? b=KA { c with slots:=f }:=by
 by_cases d:b∈fs
 .exact u.slot b c q n d hx
 .exact #[c.slots,u.keep b c q n d hx]
theorem Un.kept(k:∀b u,h.get? b=KA u->h'.get? b=KA u):Un fs ex H H h h':=#[λb c q _ _ _=>k b c q,λb c q _ _ _=>#[c.slots,k b c q],λ_ _ _ n _=>n,λb c q _=>#[c,k b c q],λ_ _ q=>q,λ_ _ _ q=>q,λ_ ps q=>#[#[],by rw[q];simp]]
theorem Un.refl:Un fs ex H H h h:=Un.kept λ_ _ q=>q
theorem Un.laid(k:∀b u,h.get? b=KA u->h'.get? b=KA u)(d:h.objs.size<=a)(c:H a=KC):Un fs ex H (upd H a o) h h' where
 keep:=λb u q _ _ _=>k b u q
 slot:=λb u q _ _ _=>#[u.slots,k b u q]
 free:=λb u q n _=>by rw[aG (HX (HY (HE q) d))];exact n
 there:=λb u q _=>#[u,k b u q]
 tups:=λb xs q=>by rw[aG (eW q c)];exact q
 frzs:=λb u xs q=>by rw[aG (eW q c)];exact q
 tbls:=λb ps q=>#[#[],by rw[aG (eW q c),q];simp]
def Un.write(d:WS (H x))(j:e=x\/H e=KA (.own x))(k:∀b u,b≠e->h.get? b=KA u->h'.get? b=KA u)(f:∃u,h'.get? e=KA u):Un fs ex H (upd H x o) h h':=by
 let hx:∀b,H b=KC->b≠x:=λb n z=>by subst z;rw[n]at d;exact d
 let i:∀b,H b=KC->b≠e:=λb n z=>by
  subst z;rcases j with r|r
  .exact hx b n r
  .rw[n]at r;cases r
 let g:∀b u,H b=KA u->¬WS (KA u)->b≠x:=λb u q l z=>by subst z;rw[q]at d;exact l d
 refine #[λb u q n _ _=>k b u (i b n) q,λb u q n _ _=>#[u.slots,k b u (i b n) q],λb u q n _=>by rw[aG (hx b n)];exact n,λb u q _=>?_,λb xs q=>by rw[aG (g b _ q λz=>z)];exact q,λb u xs q=>by rw[aG (g b _ q λz=>z)];exact q,λb ps q=>#[#[],by rw[aG (g b _ q λz=>z),q];simp]];by_cases c:b=e
 .subst c;exact f
 .exact #[u,k b u c q]
end
def WY(h:r_)(H:Hp):t_:=(HM h.objs.size).filter λa=>(H a).isSome
def kq(h:r_)(H:Hp):r_:=PySem.W.hideAll h (WY h H)
theorem og(h:r_)(H:Hp):(kq h H).objs.size=h.objs.size:=PySem.W.hideAll_size _ _
theorem gY{h:r_}{H:Hp}{b:r4}{o:Obj}(e:h.get? b=KA o)(n:H b=KC):(kq h H).get? b=KA o:=
 PySem.W.hideAll_get _ e λa=>by
  let q:(H b).isSome=KD:=(J1.mp a).2
  rw[n]at q;simp at q
def oY{h:r_}{H:Hp}{b:r4}{o:Obj}(e:(kq h H).get? b=KA o):h.get? b=KA o/\H b=KC:=by
 let a:h.get? b=KA o:=PySem.W.of_hideAll (WY h H) e;exists a;cases q:H b with
 |none=>rfl
 |some x=>
  let c:b∈WY h H:=J1.mpr #[List.mem_range.mpr (HE a),by simp[q]]
  let z:(kq h H).get? b=KC:=PySem.W.hideAll_none (WY h H) c
  rw[z]at e;cases e
structure Mod(K:Hm)(mg:Str->Option Hn)(base:r_):Prop where
 kin:K.In base
 glob:base.Ns IA mg
 blt:∃mb,base.Ns builtinsNs mb/\∀x:Str,x≠"__name__"->mb x=IG x
 nolimit:base.NoLimit
structure Cx where
 prog:HL
 w:Il
 K:Hm
 mg:Str->Option Hn
 base:r_
 A:Ig
 N:u_
 s₀:Hq
 H₀:Hp
 env:Env
 outer:List Env
 stack:List Env
 ex:t_
 fn:Str->Bool
 calm:Bool
 pn:sm
 xe:Hn->Hq->Prop
def NW(l:List Env):t_:=l.filterMap (·.frame)
abbrev Cx.fs(X:Cx):t_:=NW X.outer
def WM(sc:JB)(x:Str):Prop:=sc.names.lookup x=KA .local\/sc.names.lookup x=KA .cell\/sc.names.lookup x=KA .free
def Loc(sc:JB)(x:Str):Prop:=sc.names.lookup x=KA .local\/sc.names.lookup x=KA .cell
def Look(env:Env)(h:r_)(m:Str->Option Hn)(x:Str)(u:Hn):Prop:=
 (env.kindOf x=KA .local/\m x=KA u)\/((env.kindOf x=KA .cell\/env.kindOf x=KA .free)/\∃c,env.cells.lookup x=KA c/\h.IsCell c (KA u))
structure Cx.Ok(X:Cx):Prop where
 mod:Mod X.K X.mg X.base
 kind:X.env.scope.kind=.function
 glob:X.env.globals=IA
 blt:X.env.builtins=builtinsNs
 above:X.s₀.z<=X.env.locals
 inj:∀x y c,X.env.cells.lookup x=KA c->X.env.cells.lookup y=KA c->x=y
 has:∀x,(X.env.kindOf x=KA .cell\/X.env.kindOf x=KA .free)->∃c,X.env.cells.lookup x=KA c
 cab:∀x c,X.fn x=KD->X.env.cells.lookup x=KA c->X.s₀.z<=c
 hd:X.calm=KD->X.A.handled=KC
 frames:X.A.frames=KA X.stack
 stk:X.stack=X.outer\/(X.stack=X.env::X.outer/\X.env.frame=KA X.env.locals)
 exf:∀b∈X.ex,b≠X.env.locals/\∀x c,X.env.cells.lookup x=KA c->c≠b
 bs:∀b o,X.base.get? b=KA o->X.s₀.heap.get? b=KA o/\X.H₀ b=KC
 bsz:X.base.objs.size<=X.s₀.z
 noex:∀b o,X.base.get? b=KA o->b∉X.ex
 exfs:∀b∈X.ex,b∉X.fs
 hZ:X.s₀.heap.FunFrames X.base X.outer
 frf:∀b∈X.fs,X.H₀ b=KC
structure Inv(X:Cx)(KQ:sm)(σ:List (Option V))(H:Hp)(s:Hq):Prop where
 ok:X.Ok
 os:s.os=X.s₀.os
 bare:AllBare s.gens
 base:Un X.fs X.ex X.H₀ H X.s₀.heap s.heap
 loc:∃m,s.heap.Ns X.env.locals m/\∀(i:Nat)(x:Str)(v:V),X.N[i]?=KA x->σ[i]?=KA (KA v)->WM X.env.scope x->∃u,RelV v u/\Look X.env s.heap m x u
 cell:∀x c,X.env.cells.lookup x=KA c->∃v,s.heap.IsCell c v
 free:H X.env.locals=KC
 freeC:∀x c,X.env.cells.lookup x=KA c->H c=KC
 pin:∀p∈X.pn++KQ,s.heap.get? p.1=KA p.2/\H p.1=KC/\p.1≠X.env.locals/\p.1∉X.fs/\∀v,p.2.data≠.cell v
 hok:MC X.prog X.w H s.heap
 len:σ.length=X.N.length
section
variable{X:Cx}{KQ:sm}{σ:List (Option V)}{H H':Hp}{s:Hq}{h':r_}
theorem Cx.Ok.Hb(ok:X.Ok){b:r4}{o:Obj}(e:X.base.get? b=KA o):b∉X.fs:=λa=>by have:=(ok.hZ.mem a).1;rw[e]at this;cases this
theorem Inv.bs(I:Inv X KQ σ H s):∀b o,X.base.get? b=KA o->s.heap.get? b=KA o/\H b=KC:=λb o e=>#[I.base.keep b o (I.ok.bs b o e).1 (I.ok.bs b o e).2 (I.ok.Hb e) (I.ok.noex b o e),I.base.free b o (I.ok.bs b o e).1 (I.ok.bs b o e).2 (I.ok.noex b o e)]
theorem Inv.bk(I:Inv X KQ σ H s):∀b o,X.base.get? b=KA o->s.heap.get? b=KA o:=λb o e=>(I.bs b o e).1
theorem Inv.mod(I:Inv X KQ σ H s):Mod X.K X.mg X.base:=I.ok.mod
theorem Inv.kIn(I:Inv X KQ σ H s):X.K.In s.heap:=I.ok.mod.kin.keeps I.bk
theorem Inv.lt(I:Inv X KQ σ H s):X.env.locals<s.z:=let⟨_,a,_⟩:=I.loc;a.lt
theorem Inv.sz(I:Inv X KQ σ H s):X.s₀.z<=s.z:=Iv I.ok.above (JX I.lt)
theorem Inv.GS(I:Inv X KQ σ H s){a:r4}(h:s.z<=a):a∉X.fs:=λb=>by let[_,o,c,_]:=I.ok.hZ.mem b;exact absurd (HY (HE c) (Iv I.sz h)) (Kh _)
theorem Inv.cne(I:Inv X KQ σ H s):∀x c,X.env.cells.lookup x=KA c->c≠X.env.locals:=λx c e z=>by let[v,o,d,hd]:=I.cell x c e;obtain⟨m,⟨f,g,h,a,b,_⟩,_⟩:=I.loc;rw[z,a]at d;cases d;rw[b]at hd;cases hd
def Inv.hZ(I:Inv X KQ σ H s):s.heap.FunFrames X.base X.outer:=by
 let all:∀(l:List Env),(∀b∈NW l,b∈X.fs)->X.s₀.heap.FunFrames X.base l->s.heap.FunFrames X.base l:=by
  intro l
  induction l with
  |nil=>intro _ _;trivial
  |cons env r g=>
   intro f h
   obtain⟨i,⟨L,o,a,j,k,hd⟩,m⟩:=h
   let c:L∈X.fs:=f L (by unfold NW;rw[JG,a];exact K6)
   let[n,e]:=I.base.slot L o k (I.ok.frf L c) c λz=>I.ok.exfs L z c
   exact #[i,#[L,_,a,j,e,hd],g (λb d=>f b (by unfold NW;rw[JG,a];exact IL _ d)) m]
 exact all X.outer (λ_ d=>d) I.ok.hZ
def Inv.stack(I:Inv X KQ σ H s):s.heap.FunFrames X.base X.stack:=by
 rcases I.ok.stk with e|⟨e,a⟩
 .rw[e];exact I.hZ
 .rw[e];let[m,b,_]:=I.loc;refine .cons (by rw[I.ok.kind];decide) a b ?_ I.hZ;exact Heap.get?_none_of_le (Iv I.ok.bsz I.ok.above)
theorem Inv.oC(I:Inv X KQ σ H s):∀b∈NW X.stack,b∈X.env.locals::X.fs:=λb a=>by
 rcases I.ok.stk with e|⟨e,c⟩
 .rw[e]at a;exact IL _ a
 .rw[e]at a;unfold NW at a;rw[JG,c]at a;exact a
theorem Inv.uc(I:Inv X KQ σ H s):∀b∈NW X.stack,H b=KC:=λb a=>by
 rcases Iw.mp (I.oC b a)with e|a
 .rw[e];exact I.free
 .obtain⟨_,o,c,_⟩:=I.ok.hZ.mem a;exact I.base.free b o c (I.ok.frf b a) λz=>I.ok.exfs b z a
def Inv.step{g':Array GenState}{t':Nat}{d':Drawn}{ch:t_}(I:Inv X KQ σ H s)
 (a:∀b∈ch,(b∈X.ex\/X.s₀.z<=b)/\b≠X.env.locals/\(∀x c,X.env.cells.lookup x=KA c->c≠b)/\∀p∈X.pn++KQ,p.1≠b)
 (keep:∀b o,b≠X.env.locals->b∉X.fs->b∉ch->s.heap.get? b=KA o->H b=KC->h'.get? b=KA o)
 (slot:∀b o,b≠X.env.locals->b∈X.fs->b∉ch->s.heap.get? b=KA o->H b=KC->∃A,h'.get? b=KA { o with slots:=A }) (free:∀b o,b∉ch->s.heap.get? b=KA o->H b=KC->H' b=KC)
 (there:∀b o,b∉ch->s.heap.get? b=KA o->∃o',h'.get? b=KA o')
 (tups:∀b xs,H b=KA (.tup xs)->H' b=KA (.tup xs)) (frzs:∀b o u,H b=KA (.frz o u)->H' b=KA (.frz o u)) (tbls:∀b ps,H b=KA (.tbl ps)->∃more,H' b=KA (.tbl (ps++more)))
 (ns:∀m,s.heap.Ns X.env.locals m->h'.Ns X.env.locals m) (hok:MC X.prog X.w H' h') (F:AllBare g') :
 Inv X KQ σ H' { s with heap:=h',gens:=g',drawn:=d',toks:=t' }:=by
 let neL:∀b o,X.s₀.heap.get? b=KA o->b≠X.env.locals:=λb o e=>HX (HY (HE e) I.ok.above)
 let h:∀b o,X.s₀.heap.get? b=KA o->b∉X.ex->b∉ch:=λb o e hx j=>by
  rcases(a b j).1 with z|z
  .exact hx z
  .exact absurd (HY (HE e) z) (Kh _)
 let f:∀x c,X.env.cells.lookup x=KA c->∀v,s.heap.IsCell c v->h'.IsCell c v:=λx c e v t=>by
  let[o,y,hd]:=t
  let g:c∉ch:=λz=>(a c z).2.2.1 x c e rfl
  by_cases C:c∈X.fs
  .obtain⟨A,q⟩:=slot c o (I.cne x c e) C g y (I.freeC x c e)
   exact #[_,q,hd]
  .exact #[o,keep c o (I.cne x c e) C g y (I.freeC x c e),hd]
 refine #[I.ok,I.os,F,#[λb o e n j hx=>?_,λb o e n j hx=>?_,λb o e n hx=>?_,λb o e hx=>?_,λb xs e=>tups b xs (I.base.tups b xs e),λb o xs e=>frzs b o xs (I.base.frzs b o xs e),λb ps e=>?_],?_,λx c e=>?_,?_,λx c e=>?_,λp D=>?_,hok,I.len]
 .exact keep b o (neL b o e) j (h b o e hx) (I.base.keep b o e n j hx) (I.base.free b o e n hx)
 .obtain⟨A,e1⟩:=I.base.slot b o e n j hx
  let[B,e2]:=slot b _ (neL b o e) j (h b o e hx) e1 (I.base.free b o e n hx)
  exact #[B,e2]
 .obtain⟨o',e1⟩:=I.base.there b o e hx
  exact free b o' (h b o e hx) e1 (I.base.free b o e n hx)
 .obtain⟨o',e1⟩:=I.base.there b o e hx
  exact there b o' (h b o e hx) e1
 .obtain⟨G,e1⟩:=I.base.tbls b ps e
  let[J,e2]:=tbls b _ e1
  exact #[G++J,by rw[e2,Array.append_assoc]]
 .obtain⟨m,K,L⟩:=I.loc
  refine #[m,ns m K,λi x v e1 e2 e3=>?_]
  let[u,r,l]:=L i x v e1 e2 e3
  exists u,r
  rcases l with l|⟨k,c,e,z⟩
  .exact .inl l
  .exact .inr #[k,c,e,f x c e _ z]
 .obtain⟨v,z⟩:=I.cell x c e
  exact #[v,f x c e v z]
 .obtain⟨m,⟨o,_,_,y,_⟩,_⟩:=I.loc
  exact free _ o (λz=>(a _ z).2.1 rfl) y I.free
 .obtain⟨v,o,y,hd⟩:=I.cell x c e
  exact free c o (λz=>(a c z).2.2.1 x c e rfl) y (I.freeC x c e)
 .obtain⟨e,n,ne,E,d⟩:=I.pin p D
  let g:p.1∉ch:=λz=>(a p.1 z).2.2.2 p D rfl
  exact #[keep p.1 p.2 ne E g e n,free p.1 p.2 g e n,ne,E,d]
def Inv.un{t':Nat}(I:Inv X KQ σ H s)(u:Un X.fs [] H H' s.heap h')(hok:MC X.prog X.w H' h'):Inv X KQ σ H' { s with heap:=h',toks:=t' }:=by
 obtain⟨m,⟨o,k,l,g,r⟩,_⟩:=id I.loc;let[p,h]:=u.any g I.free (_)
 exact I.step (g':=s.gens) (d':=s.drawn) (ch:=[]) (λ_ z=>nomatch z) (λb o _ c _ e n=>u.keep b o e n c (_)) (λb o _ c _ e n=>u.slot b o e n c (_)) (λb o _ e n=>u.free b o e n (_)) (λb o _ e=>u.there b o e (_)) u.tups u.frzs u.tbls (λq i=>by
  let[t,d,f,a,j]:=i
  rw[g]at a;cases a
  exact #[_,d,f,h,j]) hok I.bare
def Inv.call{g':Array GenState}{t':Nat}{d':Drawn}{ch:t_}(I:Inv X KQ σ H s)(u:Un (NW X.stack) ch H H' s.heap h')(hok:MC X.prog X.w H' h')(k:AllBare g') (d:∀b∈ch,(b∈X.ex\/X.s₀.z<=b)/\b≠X.env.locals/\(∀x c,X.env.cells.lookup x=KA c->c≠b)/\∀p∈X.pn++KQ,p.1≠b) : Inv X KQ σ H' { s with heap:=h',gens:=g',drawn:=d',toks:=t' }:=by
 obtain⟨m,⟨o,v,y,j,r⟩,_⟩:=id I.loc;let[A,g]:=u.any j I.free λz=>(d _ z).2.1 rfl
 exact I.step (ch:=ch) d (λb o g l a e n=>u.keep b o e n (λz=>(Iw.mp (I.oC b z)).elim g l) a) (λb o _ _ a e n=>u.any e n a) (λb o a e n=>u.free b o e n a) (λb o a e=>u.there b o e a) u.tups u.frzs u.tbls (λB q=>by
  let[C,h,i,f,t]:=q
  rw[j]at f;cases f
  exact #[_,h,i,g,t]) hok k
def Inv.turned{t':Nat}{it:r4}(I:Inv X KQ σ H s)(k:∀b o,b≠it->s.heap.get? b=KA o->h'.get? b=KA o)(g:H it=KC)(f:it≠X.env.locals)
 (h1:it∈X.ex\/X.s₀.z<=it) (h2:∀x c,X.env.cells.lookup x=KA c->c≠it) (h:∀p∈X.pn++KQ,p.1≠it):Inv X KQ σ H { s with heap:=h',toks:=t' }:=by
 let d:∀b u,H b=KA u->b≠it:=λb u e z=>by rw[z,g]at e;cases e
 refine I.step (g':=s.gens) (d':=s.drawn) (ch:=[it]) (λb i=>?_) (λb o _ _ a e _=>k b o (λz=>a (by simp[z])) e) (λb o _ _ a e _=>#[o.slots,k b o (λz=>a (by simp[z])) e]) (λ_ _ _ _ n=>n)
  (λb o a e=>#[o,k b o (λz=>a (by simp[z])) e]) (λ_ _ e=>e) (λ_ _ _ e=>e) (λb ps e=>#[#[],by rw[e];simp]) (λm j=>?_) (λb u e=>?_) I.bare
 .have e:b=it:=‹i›
  subst e
  exact #[h1,f,h2,h]
 .obtain⟨o,l,t,w,r⟩:=j
  exact #[o,l,t,k _ o (Ne.symm f) w,r]
 .refine(I.hok b u e).fW (λc v a q=>k c v ?_ q) (λ_ q=>q) λ_ _ q=>q
  rcases a with z|z
  .rw[z];exact d b u e
  .exact d c _ z
theorem Inv.tok(I:Inv X KQ σ H s)(t:Nat):Inv X KQ σ H { s with toks:=t }:=I.un (h':=s.heap) (t':=t) Un.refl I.hok
theorem Inv.kept{t':Nat}(I:Inv X KQ σ H s)(k:∀b u,s.heap.get? b=KA u->h'.get? b=KA u):Inv X KQ σ H { s with heap:=h',toks:=t' }:=I.un (Un.kept k) (I.hok.kept k)
theorem Inv.laid{a:r4}{o:HO}{t':Nat}(I:Inv X KQ σ H s)(k:∀b u,s.heap.get? b=KA u->h'.get? b=KA u)(c:s.z<=a)(new:bO X.prog X.w (upd H a o) h' a o) : Inv X KQ σ (upd H a o) { s with heap:=h',toks:=t' }:=I.un (Un.laid k c (I.hok.fresh c)) (I.hok.laid k c new)
theorem Inv.write{x e:r4}{o:HO}{t':Nat}(I:Inv X KQ σ H s)(c:WS (H x))(d:e=x\/H e=KA (.own x))(k:∀b u,b≠e->s.heap.get? b=KA u->h'.get? b=KA u)(a:∃u,h'.get? e=KA u) (new:bO X.prog X.w (upd H x o) h' x o):Inv X KQ σ (upd H x o) { s with heap:=h',toks:=t' }:=I.un (Un.write c d k a) (I.hok.write c d k a new)
theorem Inv.uF{pins':sm}(I:Inv X KQ σ H s)(h:∀p∈pins',s.heap.get? p.1=KA p.2/\H p.1=KC/\p.1≠X.env.locals/\p.1∉X.fs/\∀v,p.2.data≠.cell v):Inv X pins' σ H s:=#[I.ok,I.os,I.bare,I.base,I.loc,I.cell,I.free,I.freeC,λp a=>(HQ.mp a).elim (λz=>I.pin p (List.mem_append_left _ z)) (h p),I.hok,I.len]
def p9{N:u_}(c:N.Nodup){i j:Nat}{x:Str}(a:N[i]?=KA x)(b:N[j]?=KA x):i=j:=by let[h1,e1]:=Hw.mp a;let[h2,e2]:=Hw.mp b;exact(List.getElem_inj c).mp (e1.trans e2.symm)
def j3{M:Model}{A:Ig}{E:Hn->Hq->Prop}{i:Nat}{x:Str}{v:V}{u:Hn}{Q:Unit->Hq->Prop}(I:Inv X KQ σ H s)(hN:X.N.Nodup)(J:X.N[i]?=KA x)(hx:Loc X.env.scope x)(r:RelV v u)
 (h:∀U,Inv X KQ (σ.set i (KA v)) H U->(∃a,JD a s.heap U.heap/\(a=X.env.locals\/X.env.cells.lookup x=KA a))->Q .unit U) (hf:X.fn x=KD\/X.env.scope.names.lookup x=KA .local:=by first|exact .inl rfl|exact .inr rfl|assumption):Hy M A (storeName X.env x u) Q E s:=by
 let[m,W,hl]:=id I.loc
 let K:(X.env.scope.kind==.class||(X.env.scope.kind==.module&&X.env.locals != X.env.globals))=KG:=by rw[I.ok.kind];rfl
 let B:i<σ.length:=by rw[I.len];exact(Hw.mp J).1
 let cne:=I.cne
 let g:∀{a:r4}{h':r_},(∃o,s.heap.get? a=KA o/\H a=KC)->JD a s.heap h'->MC X.prog X.w H h':=λ{a h'} ha f b ob e=>by
  let[_,_,t]:=ha
  refine(I.hok b ob e).fW (λc S l q=>(f.2 c ?_).trans q) (λ_ q=>q) λ_ _ q=>q
  rintro rfl
  rcases l with rfl|l
  .rw[t]at e;cases e
  .rw[t]at l;cases l
 rcases hx with C|C
 .refine wpAny_storeName_local C W (λh' Y f=>?_) K
  let[oL,_,_,Z,_]:=id W
  refine h _ #[I.ok,I.os,I.bare,#[λb o e n D hx=>?_,λb o e n D hx=>?_,I.base.free,λb o e hx=>?_,I.base.tups,I.base.frzs,I.base.tbls],#[_,Y,λj y v' e1 e2 e3=>?_],λy c e=>?_,I.free,I.freeC,λp hp=>?_,g #[oL,Z,I.free] f,‹I.len›] #[_,f,.inl rfl]
  .exact(f.2 b (HX (HY (HE e) I.ok.above))).trans (I.base.keep b o e n D hx)
  .obtain⟨sl,e1⟩:=I.base.slot b o e n D hx
   exact #[sl,(f.2 b (HX (HY (HE e) I.ok.above))).trans e1]
  .obtain⟨o',e1⟩:=I.base.there b o e hx
   exact #[o',(f.2 b (HX (HY (HE e) I.ok.above))).trans e1]
  .by_cases F:j=i
   .subst F
    rw[J]at e1;cases e1
    rw[List.getElem?_set_self B]at e2
    cases e2
    exact #[u,r,.inl #[C,by simp]]
   .rw[List.getElem?_set_ne (Ne.symm F)]at e2
    let[u',r',q]:=hl j y v' e1 e2 e3
    exists u',r'
    rcases q with⟨k,e⟩|⟨k,c,e,z⟩
    .refine .inl #[k,?_]
     have:y≠x:=λe=>F (p9 hN e1 (e▸J))
     simp[this,e]
    .exact .inr #[k,c,e,z.sameBut f (cne y c e)]
  .obtain⟨S,z⟩:=I.cell y c e
   exact #[S,z.sameBut f (cne y c e)]
  .obtain⟨e,n,ne,nf,d⟩:=I.pin p hp
   exact #[(f.2 p.1 ne).trans e,n,ne,nf,d]
 .have G:X.fn x=KD:=by
   rcases hf with z|z
   .exact z
   .rw[z]at C;cases C
  let[c,l]:=I.ok.has x (.inl C)
  let[S,z]:=I.cell x c l
  refine wpAny_storeName_cell I.ok.kind C l z (λh' L f=>?_)
  let[oc,O,P]:=id z
  refine h { s with heap:=h' } #[I.ok,I.os,I.bare,#[λb o e n D hx=>?_,λb o e n D hx=>?_,I.base.free,λb o e hx=>?_,I.base.tups,I.base.frzs,I.base.tbls],#[m,W.sameBut f (Ne.symm (cne x c l)),λj y v' e1 e2 e3=>?_],λy T e=>?_,I.free,I.freeC,λp hp=>?_,g #[oc,O,I.freeC x c l] f,‹I.len›] #[c,f,.inr l]
  .exact(f.2 b (HX (HY (HE e) (I.ok.cab x c G l)))).trans (I.base.keep b o e n D hx)
  .obtain⟨sl,e1⟩:=I.base.slot b o e n D hx
   exact #[sl,(f.2 b (HX (HY (HE e) (I.ok.cab x c G l)))).trans e1]
  .obtain⟨o',e1⟩:=I.base.there b o e hx
   exact #[o',(f.2 b (HX (HY (HE e) (I.ok.cab x c G l)))).trans e1]
  .by_cases F:j=i
   .subst F
    rw[J]at e1;cases e1
    rw[List.getElem?_set_self B]at e2
    cases e2
    exact #[u,r,.inr #[.inl C,c,l,L]]
   .rw[List.getElem?_set_ne (Ne.symm F)]at e2
    let[u',r',q]:=hl j y v' e1 e2 e3
    exists u',r'
    rcases q with q|⟨k,T,e,z'⟩
    .exact .inl q
    .refine .inr #[k,T,e,z'.sameBut f ?_]
     rintro rfl
     exact F (p9 hN e1 (I.ok.inj _ _ _ e l▸J))
  .by_cases R:T=c
   .subst R;exact #[_,L]
   .obtain⟨w2,z2⟩:=I.cell y T e
    exact #[w2,z2.sameBut f R]
  .obtain⟨e,n,ne,nf,d⟩:=I.pin p hp
   refine #[(f.2 p.1 ?_).trans e,n,ne,nf,d]
   intro q
   rw[q,O]at e
   let q':oc=p.2:=Option.some.inj e
   exact d S (by rw[<-q'];exact P)
theorem gR{M:Model}{A:Ig}{E:Hn->Hq->Prop}{i:Nat}{x:Str}{v:V}{u:Hn}{Q:Unit->Hq->Prop}(I:Inv X KQ σ H s)(b:X.N.Nodup)(c:X.N[i]?=KA x)(hx:Loc X.env.scope x)(r:RelV v u) (h:∀a,Inv X KQ (σ.set i (KA v)) H a->Q .unit a) (d:X.fn x=KD\/X.env.scope.names.lookup x=KA .local:=by first|exact .inl rfl|exact .inr rfl|assumption):Hy M A (storeName X.env x u) Q E s:=j3 I b c hx r (λa e _=>h a e) d
def Inv.xv{a:Hq}{ch:t_}(I:Inv X KQ σ H s)(f:a.os=s.os)(u:Un (NW X.stack) ch H H' s.heap a.heap)(hok:MC X.prog X.w H' a.heap)(g:AllBare a.gens)
 (d:∀b∈ch,(b∈X.ex\/X.s₀.z<=b)/\b≠X.env.locals/\(∀x c,X.env.cells.lookup x=KA c->c≠b)/\∀p∈X.pn++KQ,p.1≠b):Inv X KQ σ H' a:=by
 let[h',g',d',t',h]:=a
 let e:h=s.os:=f
 subst e
 exact I.call (g':=g') (t':=t') (d':=d') u hok g d
end
abbrev XK:=Hn->Option r4->Hp->Prop
abbrev St:=List (Option V)
abbrev VK:=V->Hp->Prop
abbrev TE:=St->Hp->VK->Prop
abbrev TT:=St->Hp->(Bool->Hp->Prop)->Prop
abbrev TA:=St->Hp->(vo->Hp->Prop)->Prop
structure Ends where
 nx:St->Hp->Prop
 rt:VK
 bk:St->Hp->Prop:=λ_ _=>False
 ct:St->Hp->Prop:=λ_ _=>False
abbrev TS:=Ends->St->Hp->Prop
def EP(X:Cx)(KQ:sm)(σ:St)(Q:VK)(u:Hn)(b:Hq):Prop:=∃v a,Inv X KQ σ a b/\RelV v u/\Q v a
def TP(X:Cx)(KQ:sm)(σ:St)(Q:Bool->Hp->Prop)(b:Bool)(c:Hq):Prop:=∃a,Inv X KQ σ a c/\Q b a
def AP(X:Cx)(KQ:sm)(σ:St)(Q:vo->Hp->Prop)(us:List Hn)(b:Hq):Prop:=∃vs a,Inv X KQ σ a b/\Vals vs us/\Q vs a
def SP(X:Cx)(KQ:sm)(D:Ends)(f:Flow)(c:Hq):Prop:=
 match f with
 |.next=>∃a b,Inv X KQ a b c/\D.nx a b
 |.brk=>∃a b,Inv X KQ a b c/\D.bk a b
 |.cont=>∃a b,Inv X KQ a b c/\D.ct a b
 |.ret u=>∃v a b,Inv X KQ a b c/\RelV v u/\D.rt v b
def PE(X:Cx)(e:sg)(t:TE):Prop:=
 ∀(KQ:sm)(s:Hq)(σ:St)(H:Hp)(Q:VK),Inv X KQ σ H s->t σ H Q->Hy (HI X.prog X.w) X.A (eval e X.env) (EP X KQ σ Q) X.xe s
def PT(X:Cx)(e:sg)(t:TT):Prop:=
 ∀(KQ:sm)(s:Hq)(σ:St)(H:Hp)(Q:Bool->Hp->Prop),Inv X KQ σ H s->t σ H Q->Hy (HI X.prog X.w) X.A (isTrue e X.env (eval e X.env)) (TP X KQ σ Q) X.xe s
def PW(X:Cx)(e:sg)(t:TT):Prop:=
 ∀(a:Sem Hn)(KQ:sm)(s:Hq)(σ:St)(H:Hp)(Q:Bool->Hp->Prop),Inv X KQ σ H s->t σ H Q->Hy (HI X.prog X.w) X.A (isTrue e X.env a) (TP X KQ σ Q) X.xe s
theorem PW.pt{X:Cx}{e:sg}{t:TT}(h:PW X e t):PT X e t:=h _
def PA(X:Cx)(es:tr)(t:TA):Prop:=
 ∀(pos:Pos)(KQ:sm)(s:Hq)(σ:St)(H:Hp)(Q:vo->Hp->Prop),Inv X KQ σ H s->t σ H Q->Hy (HI X.prog X.w) X.A (spliced (IY pos (HC es X.env))) (AP X KQ σ Q) X.xe s
def PS(X:Cx)(st:r8)(t:TS):Prop:=
 ∀(KQ:sm)(s:Hq)(σ:St)(H:Hp)(D:Ends),Inv X KQ σ H s->t D σ H->Hy (HI X.prog X.w) X.A (exec st X.env) (SP X KQ D) X.xe s
def NY(X:Cx)(st:tq)(t:TS):Prop:=
 ∀(KQ:sm)(s:Hq)(σ:St)(H:Hp)(D:Ends),Inv X KQ σ H s->t D σ H->Hy (HI X.prog X.w) X.A (execs st X.env) (SP X KQ D) X.xe s
theorem LS{b:Type}{t:Sem b}{Q c:b->Hq->Prop}{M:Model}{A:Ig}{E:Hn->Hq->Prop}{s:Hq}(h:Hy M A t Q E s)(d:∀a s,Q a s->c a s):Hy M A t c E s:=HJ h d λ_ _ x=>x
section
variable{X:Cx}
def Hj(i:Nat):TE:=λσ H Q=>∃v,σ[i]?=KA (KA v)/\Q v H
def tC(v:V):TE:=λ_ H Q=>Q v H
def De{i:Nat}{x:Str}{pos:Pos}(j:X.N[i]?=KA x)(hv:WM X.env.scope x)(hd:(x==("__debug__":Str))=KG:=by decide)(f:(x==("__classdict__":Str))=KG:=by decide):PE X (.Name x pos) (Hj i):=by
 intro KQ s σ H Q I h;let[v,e,h]:=h;let[m,k,n]:=I.loc;let[u,r,l]:=n i x v j e hv;let b:EP X KQ σ Q u s:=#[v,H,I,r,h];rcases l with⟨d,o⟩|⟨d,c,g,a⟩
 .exact wpAny_Name (wpAny_loadName_local I.ok.kind d k o b) hd
 .rcases d with d|d
  .exact wpAny_Name (wpAny_loadName_cell I.ok.kind d g a b) hd
  .exact wpAny_Name (wpAny_loadName_free I.ok.kind d g a b f) hd
theorem xY{i j pos}:PE X (.Constant (.int i) j pos) (tC (.int i)):=λ_ _ _ H _ I h=>wpAny_Constant_int #[.int i,H,I.tok _,#[_,rfl],h]
theorem ES{b j pos}:PE X (.Constant (.bool b) j pos) (tC (.bl b)):=λ_ _ _ H _ I h=>Constant_bool #[.bl b,H,I,8,h]
theorem Eb{j pos}:PE X (.Constant .none j pos) (tC .non):=λ_ _ _ H _ I h=>Constant_none #[.non,H,I,8,h]
theorem Cg{x j pos}:PE X (.Constant (.str x) j pos) (tC (.str x)):=λ_ _ _ H _ I h=>Calls.Constant_str #[.str x,H,I.tok _,#[_,rfl],h]
def Gl(X:Cx)(x:Str):Prop:=X.env.kindOf x=KA .globalImplicit
theorem pj{E:Hn->Hq->Prop}{KQ:sm}{s:Hq}{σ:St}{H:Hp}{x:Str}{u:Hn}{pos:Pos}{Q:Hn->Hq->Prop}(I:Inv X KQ σ H s)(a:Gl X x)(b:X.mg x=KA u)(h:Q u s) (hd:(x==("__debug__":Str))=KG:=by decide):Hy (HI X.prog X.w) X.A (eval (.Name x pos) X.env) Q E s:=Calls.Name_function_global I.ok.kind a (Calls.loadGlobal_global (by rw[I.ok.glob];exact I.mod.glob.keeps I.bk) b h) hd
def fL{E:Hn->Hq->Prop}{KQ:sm}{s:Hq}{σ:St}{H:Hp}{x:Str}{u:Hn}{pos:Pos}{Q:Hn->Hq->Prop}(I:Inv X KQ σ H s)(a:Gl X x)(b:X.mg x=KC)(hv:IG x=KA u)(h:Q u s) (c:x≠"__name__":=by decide) (hd:(x==("__debug__":Str))=KG:=by decide):Hy (HI X.prog X.w) X.A (eval (.Name x pos) X.env) Q E s:=by let[d,h1,h2]:=I.mod.blt;exact Calls.Name_function_global I.ok.kind a (Calls.loadGlobal_builtin (by rw[I.ok.glob];exact I.mod.glob.keeps I.bk) b (by rw[I.ok.blt];exact h1.keeps I.bk) ((h2 x c).trans hv) h) hd
theorem AY{x:Str}{v:V}{u:Hn}{pos:Pos}(a:Gl X x)(b:X.mg x=KC)(hv:IG x=KA u)(r:RelV v u)(c:x≠"__name__":=by decide)(hd:(x==("__debug__":Str))=KG:=by decide):PE X (.Name x pos) (tC v):=λ_ _ _ H _ I h=>fL I a b hv #[v,H,I,r,h] c hd
variable{a b:sg}{ta tb:TE}{pos:Pos}
def PC(X:Cx)(op:CmpOp)(a b:sg)(t:TE):Prop:=
 ∀(KQ:sm)(s:Hq)(σ:St)(H:Hp)(Q:VK),Inv X KQ σ H s->t σ H Q->
  Hy (HI X.prog X.w) X.A (eval a X.env) (λv c=>Hy (HI X.prog X.w) X.A (eval b X.env) (λu d=>Hy (HI X.prog X.w) X.A (Ik op v u) (EP X KQ σ Q) X.xe d) X.xe c) X.xe s
def tB(t:TE):TT:=λσ H Q=>t σ H λx H1=>∃c,x=.bl c/\Q c H1
def El{op:CmpOp}{t:TE}(h:PC X op a b t)(h1:K0 op b=KG:=by first|exact nobehind _ ⋯ ⋯|rfl):PT X (.Compare a [op] [b] pos) (tB t):=by intro KQ s σ H Q I f;refine wpAny_isTrue_Compare1 (LS (h KQ s σ H _ I f) λv k h1=>LS h1 λu l h2=>LS h2 λc m e=>?_) h1;let[x,H1,g,i,j]:=e;let[d,8,q]:=j;cases i;exact Jf #[H1,g,q]
def Dl{e:sg}{t:TE}(h:PE X e t)(g:∀c,isTrue e X.env c=(do let v <-c;standAt e.pos;holding [v] (truthy v)):=by intro _;rfl):PT X e (tB t):=by intro KQ s σ H Q I i;refine isTrue_plain (LS (h KQ s σ H _ I i) λv m f=>?_) (g _);let[x,H1,j,k,l]:=f;let[d,8,q]:=l;cases k;exact Jf #[H1,j,q]
variable{tA KR:TT}{rest:tr}
def G0(t u:TT):TT:=λσ H Q=>t σ H λc H1=>if c=KD then u σ H1 Q else Q KG H1
def ZK(t u:TT):TT:=λσ H Q=>t σ H λc H1=>if c=KD then Q KD H1 else u σ H1 Q
def Hk(t:TT):TT:=λσ H Q=>t σ H λc H1=>Q (!c) H1
def z5(d:PT X a tA):PW X (.BoolOp .And [a] pos) tA:=by
 intro f KQ s σ H Q I h;refine isTrue_and (LS (d KQ s σ H Q I h) λc g e=>?_);cases c with
 |true=>exact isTrue_and_nil e
 |false=>exact e
def B2(d:PT X a tA):PW X (.BoolOp .Or [a] pos) tA:=by
 intro f KQ s σ H Q I h;refine isTrue_or (LS (d KQ s σ H Q I h) λc g e=>?_);cases c with
 |false=>exact isTrue_or_nil e
 |true=>exact e
def D4(g:PT X a tA)(i:PW X (.BoolOp .And (b::rest) pos) KR):PW X (.BoolOp .And (a::b::rest) pos) (G0 tA KR):=by
 intro j KQ s σ H Q I h;refine isTrue_and (LS (g KQ s σ H _ I h) λc k d=>?_);let[H1,e,f]:=d;cases c with
 |true=>exact i j KQ k σ H1 Q e f
 |false=>exact #[H1,e,f]
def Es(g:PT X a tA)(i:PW X (.BoolOp .Or (b::rest) pos) KR):PW X (.BoolOp .Or (a::b::rest) pos) (ZK tA KR):=by
 intro j KQ s σ H Q I h;refine isTrue_or (LS (g KQ s σ H _ I h) λc k d=>?_);let[H1,e,f]:=d;cases c with
 |true=>exact #[H1,e,f]
 |false=>exact i j KQ k σ H1 Q e f
def Cq(d:PT X a tA):PT X (.UnaryOp .Not a pos) (Hk tA):=by intro KQ s σ H Q I h;exact isTrue_not (d KQ s σ H (λc H1=>Q (!c) H1) I h)
def Ex(ta tb:TE):TE:=λσ H Q=>ta σ H λx H1=>∃c,x=.bl c/\if c=KD then tb σ H1 Q else Q (.bl KG) H1
def EX(ta:TE):TE:=λσ H Q=>ta σ H λx H1=>∃c,x=.bl c/\Q (.bl (!c)) H1
theorem Ee{op}{t:TE}(h:PE X a t):PE X (.BoolOp op [a] pos) t:=λKQ s σ H Q I c=>BoolOp_one (h KQ s σ H Q I c)
def Dx(g:PE X a ta)(i:PE X (.BoolOp .And (b::rest) pos) tb):PE X (.BoolOp .And (a::b::rest) pos) (Ex ta tb):=by
 intro KQ s σ H Q I h;refine BoolOp_and (LS (g KQ s σ H _ I h) λv j d=>?_);let[x,H1,f,k,e]:=d;let[c,8,e]:=e;cases k;refine Jf ?_;cases c with
 |true=>exact i KQ j σ H1 Q f e
 |false=>exact #[.bl KG,H1,f,8,e]
def Dm(f:PE X a ta):PE X (.UnaryOp .Not a pos) (EX ta):=by intro KQ s σ H Q I h;refine UnaryOp_ (LS (f KQ s σ H _ I h) λv j d=>?_);let[x,H1,g,i,e]:=d;let[c,8,e]:=e;cases i;exact not_of (Jf #[.bl (!c),H1,g,8,e])
def ZL(t:TT)(ta tb:TE):TE:=λσ H Q=>t σ H λc H1=>if c=KD then ta σ H1 Q else tb σ H1 Q
def xQ{c:sg}(j:PT X c tA)(k:PE X a ta)(l:PE X b tb):PE X (.IfExp c a b pos) (ZL tA ta tb):=by
 intro KQ s σ H Q I h;refine wpAny_IfExp (LS (j KQ s σ H _ I h) λd f e=>?_);let[H1,g,i]:=e;cases d with
 |true=>exact k KQ f σ H1 Q g i
 |false=>exact l KQ f σ H1 Q g i
end
def L8(K:Hm)(H:Hp)(a:r4)(xs:vo):Prop:=
 Rd H a (.lst xs)\/
  ∃(o:Obj) (b:Array Hn) (n:Nat),K.lookup a=KA o/\o.cls=.type "list"/\o.dict=KC/\o.data=.seq b n/\b.size<=HK/\Vals xs b.toList
def L7(K:Hm)(H:Hp)(a:r4)(xs:vo):Prop:=
 Rd H a (.tup xs)\/
  ∃(o:Obj) (b:Array Hn) (n:Nat),K.lookup a=KA o/\(o.cls=.type "tuple"/\o.dict=KC)/\o.data=.seq b n/\b.size<=HK/\Vals xs b.toList
def GN:Hn->Option V
 |.none=>KA .non
 |.bool b=>KA (.bl b)
 |.int i _=>KA (.int i)
 |.str x _=>KA (.str x)
 |.bytes b _=>KA (.byt b)
 |.float b _=>KA (.flt b)
 |.ref a=>KA (.ref a)
 |.type n=>KA (.ty n)
 |_=>KC
def RelV.abs{x:V}{u:Hn}(r:RelV x u):GN u=KA x:=by
 cases x with
 |non=>cases r;rfl
 |bl _=>cases r;rfl
 |int _=>let[t,8]:=r;rfl
 |str _=>let[t,8]:=r;rfl
 |byt _=>let[t,8]:=r;rfl
 |flt _=>let[t,8]:=r;rfl
 |ref _=>cases r;rfl
 |ty _=>cases r;rfl
theorem RelV.inj{x y:V}{u:Hn}(r:RelV x u)(q:RelV y u):x=y:=Option.some.inj (r.abs.symm.trans q.abs)
def Vals.inj:∀{xs ys:vo}{us:List Hn},Vals xs us->Vals ys us->xs=ys:=by
 intro xs ys us h
 induction h generalizing ys with
 |nil=>intro k;cases k;rfl
 |cons r t a=>
  intro k
  cases k with
  |cons b c=>rw[r.inj b,a c]
section
variable{X:Cx}{KQ:sm}{σ:St}{H:Hp}{s:Hq}{a:r4}{xs ys:vo}
theorem L8.of{K:Hm}(h:H a=KA (.lst xs)):L8 K H a xs:=.inl (.inl h)
theorem L7.of{K:Hm}(h:H a=KA (.tup xs)):L7 K H a xs:=.inl (.inl h)
def Inv.list(I:Inv X KQ σ H s)(h:L8 X.K H a xs):∃its:List Hn,Vals xs its/\PlainL s.heap a its.toArray/\xs.length<=HK:=by
 rcases h with h|⟨o,its,n,b,c,hd,d,f,r⟩
 .obtain⟨z,its,n,r,e⟩:=h.ok I.hok;exact #[its,r,#[_,n,e,8,8,rfl],z]
 .exists its.toList,r,#[o,n,I.kIn a o b,c,hd,‹d›];let e:=r.length;simp only[J0]at e;omega
def Inv.tuple(I:Inv X KQ σ H s)(h:L7 X.K H a xs):∃its:List Hn,Vals xs its/\IsTup s.heap a its.toArray/\xs.length<=HK:=by
 rcases h with h|⟨o,its,n,b,c,d,f,r⟩
 .obtain⟨z,its,r,p,_⟩:=h.ok I.hok;exact #[its,r,p,z]
 .exists its.toList,r,#[o,I.kIn a o b,c.1,n,‹d›];let e:=r.length;simp only[J0]at e;omega
def Inv.DX(I:Inv X KQ σ H s)(h:L7 X.K H a xs):QZ s.heap a:=by
 rcases h with h|⟨o,b,n,c,d,e,f,r⟩
 .obtain⟨z,b,r,_,p⟩:=h.ok I.hok;exact p
 .exact #[o,I.kIn a o c,d.2]
def Inv.jQ(I:Inv X KQ σ H s)(h:L8 X.K H a xs)(h':L8 X.K H a ys):xs=ys:=by
 obtain⟨c,r,⟨o,n,e,_,_,d⟩,_⟩:=I.list h;obtain⟨b,i,⟨k,l,f,_,_,g⟩,_⟩:=I.list h';rw[e]at f;cases f;rw[d]at g;injection g with j _;have:c=b:=‹congrArg Array.toList j›
 subst this;exact r.inj i
def Inv.nR(I:Inv X KQ σ H s)(h:L7 X.K H a xs)(h':L7 X.K H a ys):xs=ys:=by
 obtain⟨c,r,⟨o,e,_,n,d⟩,_⟩:=I.tuple h;obtain⟨b,i,⟨k,f,_,l,g⟩,_⟩:=I.tuple h';rw[e]at f;cases f;rw[d]at g;injection g with j _;have:c=b:=‹congrArg Array.toList j›
 subst this;exact r.inj i
end
abbrev Cx.nI(X:Cx)(E:Hn->Hq->Prop):Cx:={ X with xe:=E }
abbrev Cx.nox(X:Cx):Cx:=X.nI λ_ _=>False
theorem Cx.Ok.nI{X:Cx}(ok:X.Ok)(E:Hn->Hq->Prop):(X.nI E).Ok:=#[ok.mod,ok.kind,ok.glob,ok.blt,ok.above,ok.inj,ok.has,ok.cab,ok.hd,ok.frames,ok.stk,ok.exf,ok.bs,ok.bsz,ok.noex,ok.exfs,ok.hZ,ok.frf]
theorem Cx.Ok.ik{X:Cx}{E:Hn->Hq->Prop}(ok:(X.nI E).Ok):X.Ok:=#[ok.mod,ok.kind,ok.glob,ok.blt,ok.above,ok.inj,ok.has,ok.cab,ok.hd,ok.frames,ok.stk,ok.exf,ok.bs,ok.bsz,ok.noex,ok.exfs,ok.hZ,ok.frf]
section
variable{X:Cx}{KQ:sm}{σ:St}{H:Hp}{s:Hq}{E:Hn->Hq->Prop}
theorem Inv.nI(I:Inv X KQ σ H s)(E:Hn->Hq->Prop):Inv (X.nI E) KQ σ H s:=#[I.ok.nI E,I.os,I.bare,I.base,I.loc,I.cell,I.free,I.freeC,I.pin,I.hok,I.len]
theorem Inv.ik(I:Inv (X.nI E) KQ σ H s):Inv X KQ σ H s:=#[I.ok.ik,I.os,I.bare,I.base,I.loc,I.cell,I.free,I.freeC,I.pin,I.hok,I.len]
def SP.ik{D:Ends}{f:Flow}{c:Hq}(h:SP (X.nI E) KQ D f c):SP X KQ D f c:=by
 cases f with
 |next=>let[a,b,I,q]:=h;exact #[a,b,I.ik,q]
 |brk=>let[a,b,I,q]:=h;exact #[a,b,I.ik,q]
 |cont=>let[a,b,I,q]:=h;exact #[a,b,I.ik,q]
 |ret u=>let[v,a,b,I,r,q]:=h;exact #[v,a,b,I.ik,r,q]
theorem NY.nox{st:tq}{t:TS}(h:NY X.nox st t):NY X st t:=λKQ s σ H D I a=>HJ (h KQ s σ H D (I.nI _) a) (λ_ _ q=>q.ik) λ_ _ z=>HS z
end
section
variable{X:Cx}{st:r8}{rest:tq}{t u:TS}{e:sg}{te:TE}{pos:Pos}
def Fh:TS:=λD σ H=>D.nx σ H
def GY(t u:TS):TS:=λD σ H=>t { D with nx:=u D } σ H
theorem zI:NY X [] Fh:=λ_ _ σ H _ I h=>wpAny_execs_nil #[σ,H,I,h]
def yw(h1:PS X st t)(h2:NY X rest u):NY X (st::rest) (GY t u):=by
 intro KQ s σ H D I h;refine wpAny_execs_cons (LS (h1 KQ s σ H { D with nx:=u D } I h) λf b q=>?_);cases f with
 |next=>
  let[a,c,d,q]:=q
  exact h2 KQ b a c D d q
 |ret v=>exact q
 |brk=>exact q
 |cont=>exact q
def zU(h1:PS X st t):NY X [st] t:=by
 intro KQ s σ H D I h;refine wpAny_execs_cons (LS (h1 KQ s σ H D I h) λf a q=>?_);cases f with
 |next=>exact wpAny_execs_nil q
 |ret v=>exact q
 |brk=>exact q
 |cont=>exact q
def Inv.quiet{KQ:sm}{σ:St}{H:Hp}{s:Hq}(I:Inv X KQ σ H s):interactive X.env=KG:=by simp[interactive,I.ok.kind]
def EE(te:TE):TS:=λD σ H=>te σ H λ_ H1=>D.nx σ H1
def Az(b:PE X e te)(c:JH e KC pos.line X.env=pure KG:=by rfl):PS X (.Expr e pos) (EE te):=by intro KQ s σ H D I h;exact wpAny_Expr_any (LS (b KQ s σ H _ I h) λv g a=>by let[x,H1,d,i,f]:=a;exact(#[σ,H1,d,f])) I.quiet c
def G8(te:TE):TS:=λD σ H=>te σ H D.rt
def Cc(b:PE X e te):PS X (.Return (KA e) pos) (G8 te):=by intro KQ s σ H D I h;exact wpAny_Return_some (LS (b KQ s σ H _ I h) λv g a=>by let[x,H1,c,d,f]:=a;exact(#[x,σ,H1,c,d,f]))
def GH(c:TT)(t u:TS):TS:=λD σ H=>c σ H λb H1=>if b=KD then t D σ H1 else u D σ H1
def Fc{c:sg}{a b:tq}{tc:TT}(k:PT X c tc)(l:NY X a t)(m:NY X b u):PS X (.If c a b pos) (GH tc t u):=by
 intro KQ s σ H D I h;refine wpAny_If (LS (k KQ s σ H _ I h) λd g f=>?_);let[H1,i,j]:=f;cases d with
 |true=>exact l KQ g σ H1 D i j
 |false=>exact m KQ g σ H1 D i j
def yA:TS:=λ_ _ _=>False
theorem yT:PS X st yA:=λ_ _ _ _ _ _ h=>h.elim
theorem vN{a:tq}:NY X a yA:=λ_ _ _ _ _ _ h=>h.elim
end
abbrev TG:=V->St->Hp->(St->Hp->Prop)->Prop
abbrev Pr:=vo->St->Hp->(St->Hp->Prop)->Prop
def PG(X:Cx)(a:sg)(t:TG):Prop:=
 ∀(KQ:sm)(s:Hq)(σ:St)(H:Hp)(v:V)(u:Hn)(Q:St->Hp->Prop),Inv X KQ σ H s->RelV v u->t v σ H Q->
  Hy (HI X.prog X.w) X.A (Kk a X.env u) (λ_ d=>∃b c,Inv X KQ b c d/\Q b c) X.xe s
def QY(X:Cx)(c:tr)(t:Pr):Prop:=
 ∀(KQ:sm)(s:Hq)(σ:St)(H:Hp)(vs:vo)(us:List Hn)(Q:St->Hp->Prop),Inv X KQ σ H s->Vals vs us->t vs σ H Q->
  Hy (HI X.prog X.w) X.A (assignInOrder ((Ki c X.env).map (·.2)) us) (λ_ d=>∃a b,Inv X KQ a b d/\Q a b) X.xe s
abbrev B9:=V->V->V->Hp->(Hp->Prop)->Prop
def Fw(X:Cx)(t:B9):Prop:=
 ∀(KQ:sm)(s:Hq)(σ:St)(H:Hp)(o i v:V)(a b u:Hn)(Q:Hp->Prop),Inv X KQ σ H s->RelV o a->RelV i b->RelV v u->t o i v H Q->
  Hy (HI X.prog X.w) X.A (setItem a b u) (λ_ d=>∃c,Inv X KQ σ c d/\Q c) X.xe s
abbrev W0:=V->V->Hp->VK->Prop
def W7(X:Cx)(op:Operator)(t:W0):Prop:=
 ∀(KQ:sm)(s:Hq)(σ:St)(H:Hp)(x y:V)(v u:Hn)(Q:VK),Inv X KQ σ H s->RelV x v->RelV y u->t x y H Q->
  Hy (HI X.prog X.w) X.A (inplaceOp op v u) (EP X KQ σ Q) X.xe s
section
variable{X:Cx}{pos:Pos}
def dq(i:Nat):TG:=λv σ H Q=>Q (σ.set i (KA v)) H
def ui{i:Nat}{x:Str}(a:X.N.Nodup)(b:X.N[i]?=KA x)(hx:Loc X.env.scope x)(c:X.fn x=KD\/X.env.scope.names.lookup x=KA .local:=by first|exact .inl rfl|exact .inr rfl|assumption):PG X (.Name x pos) (dq i):=by intro KQ s σ H v u Q I r h;exact wpAny_assign_Name (gR I a b hx r (λe d=>#[_,H,d,h]) c)
def tF:Pr:=λvs σ H Q=>vs=[]/\Q σ H
def fV(t:TG)(u:Pr):Pr:=λvs σ H Q=>∃v r,vs=v::r/\t v σ H λa b=>u r a b Q
def lV:QY X [] tF:=by intro KQ s σ H vs us Q I r h;let[e,h]:=h;subst e;cases r;exact assignInOrder_nil #[σ,H,I,h]
def eP{e:sg}{es:tr}{t:TG}{u:Pr}(h1:PG X e t)(h2:QY X es u) (c:(Ki (e::es) X.env).map (·.2)=Kk e X.env::(Ki es X.env).map (·.2):=by rfl):QY X (e::es) (fV t u):=by
 intro KQ s σ H vs us Q I r h;let[v,j,e1,h]:=h;subst e1;cases r with
 |cons r d=>
  rw[c]
  refine assignInOrder_cons (LS (h1 KQ s σ H _ _ _ I r h) λ_ f a=>?_)
  let[b,H1,g,i]:=a
  exact h2 KQ f b H1 _ _ Q g d i
def sv(K:Hm)(n:Nat)(t:Pr):TG:=λv σ H Q=>∃a xs,v=.ref a/\L7 K H a xs/\xs.length=n/\t xs σ H Q
def pE{es:tr}{k:Nat}{t:Pr}{n:Nat}(g:X.calm=KD)(h:QY X es t)
 (i:(Ki es X.env).length=n:=by rfl) (c:(Ki es X.env).findIdx? (·.1)=KC:=by rfl):PG X (.Tuple es k pos) (sv X.K n t):=by
 intro KQ s σ H v u Q I r d
 let[a,xs,e1,j,l,d]:=d
 subst e1
 cases r
 let[m,f,p,x]:=I.tuple j
 refine assign_Tuple_tuple (I.ok.hd g) p (by simp[i,<-l,f.length]) c λq hx=>?_
 let w:Inv X KQ σ H { s with heap:=q }:=I.kept (t':=s.toks) λb o e=>hx b o (HX (HE e)) e
 exact h KQ _ σ H xs _ Q w ‹f› d
def GF(to a:TE)(t:B9):TG:=λv σ H Q=>to σ H λo H1=>a σ H1 λi b=>t o i v b λc=>Q σ c
def Dy{o i:sg}{to f:TE}{t:B9}(g:PE X o to)(j:PE X i f)(k:Fw X t)
 (l:∀v,Kk (.Subscript o i pos) X.env v=(do
  let d <-holding [v] (eval o X.env)
  let e <-holding [v,d] (eval i X.env)
  standAt pos
  holding [v,d,e] (setItem d e v)
  release [v,d,e] []):=by intro _;rfl):PG X (.Subscript o i pos) (GF to f t):=by
 intro KQ s σ H v u Q I r h
 rw[l]
 refine Hl (IM (LS (g KQ s σ H _ I h) λd m a=>?_))
 let[x,H1,n,p,q]:=a
 refine Hl (IM (LS (j KQ m σ H1 _ n q) λe w b=>?_))
 let[y,z,A,B,C]:=b
 refine Hl (Jw (Hl (IM (LS (k KQ w σ z x y v d e u _ A p B r C) λ_ G c=>?_))))
 let[D,E,F]:=c
 exact wpAny_release #[σ,D,E,F]
def A6(te:TE)(g:TG):TS:=λD σ H=>te σ H λx H1=>g x σ H1 D.nx
def BX{tg e:sg}{te:TE}{g:TG}(b:PE X e te)(c:PG X tg g)(d:swapsWithSole [tg] e pos.line X.env=pure KG:=by rfl)(hw:swappedStores [tg] e X.env=pure KC:=by rfl) (h1:(Ki [tg] X.env).map (·.2)=[Kk tg X.env]:=by rfl):PS X (.Assign [tg] e pos) (A6 te g):=by intro KQ s σ H D I h;refine wpAny_Assign_stores (LS (b KQ s σ H _ I h) λv f a=>?_) d hw;let[x,H1,i,j,k]:=a;rw[h1];exact LS (c KQ f σ H1 x v _ i j k) λ_ l q=>q
def C0{i:Nat}{x:Str}{e:sg}{te:TE}{b:Pos}(c:X.N.Nodup)(d:X.N[i]?=KA x)(hx:Loc X.env.scope x)(f:PE X e te)(g:JH e (KA (.Name x b)) pos.line X.env=pure KG:=by rfl)(j:X.fn x=KD\/X.env.scope.names.lookup x=KA .local:=by first|exact .inl rfl|exact .inr rfl|assumption) : PS X (.Assign [.Name x b] e pos) (A6 te (dq i)):=by intro KQ s σ H D I h;refine wpAny_Assign_Name (LS (f KQ s σ H _ I h) λv o a=>?_) g;let[y,H1,k,l,m]:=a;exact gR k c d hx l (λp n=>#[_,H1,n,m]) j
def GZ(i j:Nat)(a:TA):TS:=λD σ H=>a σ H λvs H1=>∃v w,vs=[v,w]/\D.nx ((σ.set i (KA v)).set j (KA w)) H1
def CZ{i j:Nat}{x y:Str}{a b:sg}{C:TA}{l m pt:Pos}{n r d}(J:X.calm=KD)(E:X.N.Nodup)(K:X.N[i]?=KA x)(L:X.N[j]?=KA y)(t:i≠j)
 (hx:X.env.scope.names.lookup x=KA .local) (F:X.env.scope.names.lookup y=KA .local) (M:PA X [a,b] C)
 (hw:swappedStores [.Tuple [.Name x l,.Name y m] n pt] (.Tuple [a,b] r d) X.env=pure (KA [x,y]))
 (O:swapsWithSole [.Tuple [.Name x l,.Name y m] n pt] (.Tuple [a,b] r d) pos.line X.env=pure KG:=by rfl) :
 PS X (.Assign [.Tuple [.Name x l,.Name y m] n pt] (.Tuple [a,b] r d) pos) (GZ i j C):=by
 intro KQ s σ H D I h
 rw[exec_Assign_arm]
 refine Hl (Jw ?_)
 rw[O]
 refine Hl (Hs ?_)
 rw[KH ⋯]
 refine Hl (Tuple_ (LS (M _ KQ s σ H _ I h) λus f c=>?_))
 let[vs,H1,P,Q,u]:=c
 let[v,w,e1,u]:=u
 subst e1
 obtain⟨g,k,rfl,R,z⟩:∃g k,us=[g,k]/\RelV v g/\RelV w k:=by
  cases Q with
  |cons p q=>
   cases q with
   |cons S T=>
    cases T
    exact #[_,7,p,S]
 refine ID ?_ (by show 2<=HK;decide)
 let U:Inv X KQ σ H1 { f with heap:=f.heap.push { cls:=.type "tuple",data:=.seq [g,k].toArray } }:=P.kept (t':=f.toks) λb o e=>Hr _ e
 rw[hw]
 refine Hl (Hs ?_)
 show Hy (HI X.prog X.w) X.A (do rule "assign.swapped-stores";let items <-unpackItems (.ref f.z) 2 KC;assignInOrder [λv=>bindName X.env y v,λv=>bindName X.env x v] items.reverse;pure Flow.next) _ _ _
 refine Hl (wpAny_rule (Hl (unpackItems_tuple (items:=(List.toArray [g,k])) (I.ok.hd J) (IsTup.new f.heap _) λh' B=>?_)))
 let V:=U.kept (h':=h') (t':=f.toks) λb o e=>B b o (HX (HE e)) e
 show Hy _ _ (assignInOrder [λv=>bindName X.env y v,λv=>bindName X.env x v] [k,g] >>= λ_=>pure Flow.next) _ _ _
 refine Hl (assignInOrder_cons (wpAny_bindName (gR V E L (.inl F) z (λY W=>?_) (.inr F))))
 refine assignInOrder_cons (wpAny_bindName (gR W E K (.inl hx) R (λZ G=>assignInOrder_nil (Hs ?_)) (.inr hx)))
 rw[List.set_comm _ _ (Ne.symm t)]at G
 exact #[_,H1,G,u]
def GX(i:Nat)(te:TE)(a:W0):TS:=λD σ H=>∃x,σ[i]?=KA (KA x)/\te σ H λy H1=>a x y H1 λz b=>D.nx (σ.set i (KA z)) b
def C7{i:Nat}{x:Str}{e:sg}{te:TE}{op:Operator}{p:W0}{g:Pos}(t:X.N.Nodup)(q:X.N[i]?=KA x)(hx:Loc X.env.scope x)(B:PE X e te)(C:W7 X op p)(E:X.fn x=KD\/X.env.scope.names.lookup x=KA .local:=by first|exact .inl rfl|exact .inr rfl|assumption) :
 PS X (.AugAssign (.Name x g) op e pos) (GX i te p):=by
 intro KQ s σ H D I h
 let[v,e1,h]:=h
 let[m,F,G]:=I.loc
 let o:WM X.env.scope x:=by rcases hx with k|k;exact .inl k;exact .inr (.inl k)
 let[u,r,l]:=G i x v q e1 o
 refine wpAny_AugAssign_Name ?_
 let go:Hy (HI X.prog X.w) X.A (eval e X.env) (λw j=>Hy (HI X.prog X.w) X.A (inplaceOp op u w) (λr n=>Hy (HI X.prog X.w) X.A (storeName X.env x r) (λ_=>SP X KQ D .next) X.xe n) X.xe j) X.xe s:=by
  refine LS (B KQ s σ H _ I h) λw J a=>?_
  let[y,H1,K,L,M]:=a
  refine LS (C KQ J σ H1 v y u w _ K r L M) λz V b=>?_
  let[W,O,P,Q,R]:=b
  exact gR P t q hx Q (λY S=>#[_,O,S,R]) E
 rcases l with⟨d,T⟩|⟨d,c,U,f⟩
 .exact wpAny_loadName_local I.ok.kind d F T go
 .rcases d with d|d
  .exact wpAny_loadName_cell I.ok.kind d U f go
  .rcases hx with k|k
   .have:X.env.scope.names.lookup x=KA .free:=d
    rw[k]at this;cases this
   .have:X.env.scope.names.lookup x=KA .free:=d
    rw[k]at this;cases this
def Y1(f:Int->Int->Int):W0:=λx y H Q=>∃i j,x=.int i/\y=.int j/\Q (.int (f i j)) H
def wK:W7 X .Add (Y1 λi j=>i+j):=by intro KQ s σ H x y v u Q I a b h;let[i,j,e1,e2,q]:=h;subst e1;subst e2;let[t,8]:=a;let[c,8]:=b;exact iadd_int #[.int _,H,I.tok _,#[_,rfl],q]
def Df:W7 X .Sub (Y1 λi j=>i-j):=by intro KQ s σ H x y v u Q I a b h;let[i,j,e1,e2,q]:=h;subst e1;subst e2;let[t,8]:=a;let[c,8]:=b;exact isub_int #[.int _,H,I.tok _,#[_,rfl],q]
end
section
variable{X:Cx}{pos:Pos}
def DQ(c:TT)(f:TS):TS:=λD σ H=>∃W:Nat->St->Hp->Prop,(∃m,W m σ H)/\∀m σ H,W m σ H->
 c σ H λb H1=>if b=KD then ∃N:St->Hp->Prop,(∀a d,N a d->∃e,e<m/\W e a d)/\f { D with nx:=N,ct:=N,bk:=D.nx } σ H1 else D.nx σ H1
def xI{c:sg}{body:tq}{tc:TT}{r:TS}(t:PassesOwn (HI X.prog X.w) X.A X.env X.xe)(B:PT X c tc)(C:NY X body r):PS X (.While c body [] pos) (DQ tc r):=by
 intro KQ s σ H D I h;obtain⟨W,⟨E,F⟩,g⟩:=h;refine wpAny_While (codeAny_whileLoop (λn G=>∃i u,Inv X KQ i u G/\W n i u) ?_ E #[σ,H,I,F]);rintro n J ⟨d,H1,K,L⟩;refine Ka t (LS (B KQ J d H1 _ K (g n d H1 L)) λb M e=>?_);let[x,y,k]:=e;cases b with
 |true=>
  let[N,z,k]:=k
  rw[KI rfl]
  refine Ka t (LS (C KQ M d x _ y k) λf O l=>?_)
  cases f with
  |next=>
   let[a,j,m,n3]:=l
   let[o,p,q]:=z a j n3
   exact #[o,p,a,j,m,q]
  |cont=>
   let[a,j,m,n3]:=l
   let[o,p,q]:=z a j n3
   exact #[o,p,a,j,m,q]
  |brk=>exact l
  |ret v=>exact l
 |false=>
  rw[KH HF]
  exact wpAny_execs_nil #[d,x,y,k]
end
structure It where
 go:Nat->Hp->Prop
 yld:Nat->Hp->V->Hp->Prop
 stop:Nat->Hp->Prop
def cJ(X:Cx)(KQ:sm)(H:Hp)(b:r4):Prop:=
 H b=KC/\b≠X.env.locals/\b∉X.fs/\(b∈X.ex\/X.s₀.z<=b)/\(∀x c,X.env.cells.lookup x=KA c->c≠b)/\∀p∈X.pn++KQ,p.1≠b
def Inv.pD{X:Cx}{KQ:sm}{σ:St}{H d:Hp}{s:Hq}{b:r4}(I:Inv X KQ σ H s)(a:s.z<=b)(f:d b=KC):cJ X KQ d b:=by
 refine #[f,Nat.ne_of_gt (HY I.lt a),I.GS a,.inr (Iv I.sz a),λx c e z=>?_,λp g z=>?_]
 .obtain⟨v,q⟩:=I.cell x c e;exact absurd (HY q.lt (by rw[z];exact a)) (Kh _)
 .exact absurd (HY (HE (I.pin p g).1) (by rw[z];exact a)) (Kh _)
structure Turn(P:HL)(w:Il)(K:Hm)(tg:sg)(J:It)(fp:t_)(it:r4)(tn:Nat->r_->Prop):Prop where
 mem:it∈fp
 obj:∀i h,tn i h->∀b∈fp,∃o,h.get? b=KA o/\∀v,o.data≠.cell v
 keep:∀i h h',tn i h->(∀b∈fp,∀o,h.get? b=KA o->h'.get? b=KA o)->tn i h'
 item:∀(X:Cx),X.prog=P->X.w=w->X.K=K->X.calm=KD->∀(i:Nat)(KQ:sm)(s:Hq)(σ:St)(H:Hp)(E:Hn->Hq->Prop),Inv X KQ σ H s->(∀b∈fp,cJ X KQ H b)->tn i s.heap->J.go i H->
  Hy (HI P w) X.A (pyNext (.ref it)) (λr s1=>∃u,r=KA u/\
   Hy (HI P w) X.A (JI tg (.ref it) u) (λ_ s2=>∃x H',Inv X KQ σ H' s2/\RelV x u/\J.yld i H x H'/\tn (i+1) s2.heap/\∀b∈fp,H' b=KC) E s1) E s
 done:∀(X:Cx),X.prog=P->X.w=w->X.K=K->X.calm=KD->∀(i:Nat)(KQ:sm)(s:Hq)(σ:St)(H:Hp)(E:Hn->Hq->Prop),Inv X KQ σ H s->(∀b∈fp,cJ X KQ H b)->tn i s.heap->J.stop i H->
  Hy (HI P w) X.A (pyNext (.ref it)) (λr s1=>r=KC/\Inv X KQ σ H s1) E s
 self:∀(A:Ig)(i:Nat)(s:Hq)(Q:Hn->Hq->Prop)(E:Hn->Hq->Prop),tn i s.heap->Q (.ref it) s->Hy (HI P w) A (pyIter (.ref it)) Q E s
abbrev TI:=St->Hp->(It->Hp->Prop)->Prop
def Yh(X:Cx)(KQ:sm)(σ:St)(tg:sg)(R:It->Hp->Prop)(a:Hn)(d:Hq):Prop:=
 ∃(it:r4) (fp:t_) (tn:Nat->r_->Prop) (J:It) (c:Hp),a=.ref it/\Inv X KQ σ c d/\Turn X.prog X.w X.K tg J fp it tn/\tn 0 d.heap/\(∀b∈fp,cJ X KQ c b)/\R J c
def PI(X:Cx)(tg a:sg)(b:TI):Prop:=
 ∀(KQ:sm)(s:Hq)(σ:St)(H:Hp)(R:It->Hp->Prop),Inv X KQ σ H s->b σ H R->
  Hy (HI X.prog X.w) X.A (eval a X.env) (λv c=>Hy (HI X.prog X.w) X.A (pyIter v) (Yh X KQ σ tg R) X.xe c) X.xe s
def yC{M:Model}{A:Ig}{E:Hn->Hq->Prop}{s:Hq}{tg:sg}{it:r4}{u:Hn}{o:Obj}{n:String}{vs:Array Hn}{Q:Unit->Hq->Prop}(b:s.heap.get? it=KA o)(c:o.cls=.type n)(hd:o.data=.fields vs) (d:["enumerate","zip","dict_itemiterator","dict_reverseitemiterator","odict_iterator","itertools.zip_longest","itertools.pairwise"].contains n=KG) (a:Q .unit s):Hy M A (JI tg (.ref it) u) Q E s:=by
 unfold JI
 cases tg<;>first
  |exact Hs a
  |(cases u<;>first
   |exact Hs a
   |(refine Hl (wpAny_load b ?_)
     rw[c,hd]
     show Hy M A (if(["enumerate","zip","dict_itemiterator","dict_reverseitemiterator","odict_iterator","itertools.zip_longest","itertools.pairwise"].contains n&&vs[0]?==KA (Kr _))=KD then _ else _) Q E s
     rw[KH (by intro h;rw[d,Bool.false_and]at h;cases h)]
     exact Hs a))
def Ym(K:Hm)(a:r4):It:=
 #[λi H=>∃xs x,L8 K H a xs/\xs[i]?=KA x,λi H x b=>b=H/\∀xs,L8 K H a xs->xs[i]?=KA x,λi H=>∃xs,L8 K H a xs/\xs.length<=i]
def Yl(K:Hm)(a:r4):It:=
 #[λi H=>∃xs x,L7 K H a xs/\xs[i]?=KA x,λi H x b=>b=H/\∀xs,L7 K H a xs->xs[i]?=KA x,λi H=>∃xs,L7 K H a xs/\xs.length<=i]
def Qd(a:Int)(n:Nat):It:=#[λi _=>i<n,λi H x b=>b=H/\x=.int (a+i),λi _=>n<=i]
def vg{P:HL}{w:Il}{K:Hm}{tg:sg}(a it:r4):Turn P w K tg (Ym K a) [it] it (λi h=>h.IsListIter it a i) where
 mem:=by simp
 obj:=λi h st b f=>by
  let e:b=it:=‹f›
  subst e
  let[o,e,c,d]:=st
  exact #[o,e,λv z=>by rw[d]at z;cases z]
 keep:=λi h j st k=>st.at λo e=>k it (_) o e
 item:=by
  intro X n q r J i KQ s σ H E I l st t
  subst n q r
  let[xs,x,m,hx]:=t
  let[y,A,p,L]:=I.list m
  let[u,M,N]:=A.get hx
  let[B,C,O,D,F,G]:=l it (_)
  refine wpAny_pyNext_list_item st p.isList (x:=u) ‹M› λj g Q=>?_
  let R:Inv X KQ σ H { s with heap:=j }:=I.turned (t':=s.toks) (λb o f e=>(Q.2 b f).trans e) B C D F G
  let[o,e,c,d]:=id g
  exact #[u,8,yC (s:={ s with heap:=j }) e c d ⋯ #[x,H,R,N,#[8,λT S=>by rw[I.jQ S m];exact hx],g,λb f=>(l b f).1]]
 done:=by
  intro X n q r J i KQ s σ H E I l st t
  subst n q r
  let[xs,m,hx]:=t
  let[y,A,p,L]:=I.list m
  let[B,C,O,D,F,G]:=l it (_)
  let U:=A.length
  exact wpAny_pyNext_list_end (I.ok.hd J) st p.isList (by simp;omega) λj eb=>#[8,I.turned (t':=s.toks) (λb o f e=>eb b o f e) B C D F G]
 self:=λ_ _ _ _ _ st h=>wpAny_pyIter_listiter st h
def sU{P:HL}{w:Il}{K:Hm}{tg:sg}(a it:r4):Turn P w K tg (Yl K a) [it] it (λi h=>h.IsTupleIter it a i) where
 mem:=by simp
 obj:=λi h st b f=>by
  let e:b=it:=‹f›
  subst e
  let[o,e,c,d]:=st
  exact #[o,e,λv z=>by rw[d]at z;cases z]
 keep:=λi h l st k=>st.at λo e=>k it (_) o e
 item:=by
  intro X q r t J i KQ s σ H E I m st y
  subst q r t
  let[xs,x,n,hx]:=y
  let[g,A,p,L]:=I.tuple n
  let[u,M,N]:=A.get hx
  let[B,C,O,D,F,G]:=m it (_)
  refine wpAny_pyNext_tuple_item st (show s.heap.IsTuple a g.toArray from p) (x:=u) ‹M› λl j Q=>?_
  let R:Inv X KQ σ H { s with heap:=l }:=I.turned (t':=s.toks) (λb o f e=>(Q.2 b f).trans e) B C D F G
  let[o,e,c,d]:=id j
  exact #[u,8,yC (s:={ s with heap:=l }) e c d ⋯ #[x,H,R,N,#[8,λT S=>by rw[I.nR S n];exact hx],j,λb f=>(m b f).1]]
 done:=by
  intro X q r t J i KQ s σ H E I m st y
  subst q r t
  let[xs,n,hx]:=y
  let[g,A,p,L]:=I.tuple n
  let[B,C,O,D,F,G]:=m it (_)
  let U:=A.length
  exact wpAny_pyNext_tuple_end (I.ok.hd J) st (show s.heap.IsTuple a g.toArray from p) (by simp;omega) λl eb=>#[8,I.turned (t':=s.toks) (λb o f e=>eb b o f e) B C D F G]
 self:=λ_ _ _ _ _ st h=>wpAny_pyIter_tupleiter st h
def sf{P:HL}{w:Il}{K:Hm}{tg:sg}(it:r4)(d:Int)(n:Nat):Turn P w K tg (Qd d n) [it] it (λi h=>IsRangeIter h it (d+(i:Nat)*1) ((n:Int)-(i:Nat)) 1) where
 mem:=by simp
 obj:=λi h st b a=>by
  let e:b=it:=‹a›
  subst e
  exact #[_,st,λv z=>by
   let C:Data.fields _=Data.cell v:=z
   cases C]
 keep:=λi h f st k=>k it (_) _ st
 item:=by
  intro X j l m p i KQ s σ H E I g st q
  subst j l m
  let[r,u,D,x,y,A]:=g it (_)
  let W:=Walks.range (prog:=X.prog) (w:=X.w) (I.ok.hd p) it d 1 n
  refine W.item i s _ _ q st λv f B hv c F=>?_
  let[t,8]:=hv
  let G:Inv X KQ σ H { s with heap:=f,toks:=B }:=I.turned (λb o a e=>F b o ‹a› e) r u x y A
  refine #[7,yC (s:={ s with heap:=f,toks:=B }) (n:="range_iterator") c rfl rfl ⋯ #[.int (d+i),H,G,#[t,?_],#[8,rfl],c,λb a=>(g b a).1]]
  rw[Int.mul_one]
 done:=by
  intro X j l m p i KQ s σ H E I g st q
  subst j l m
  let[r,u,D,x,y,A]:=g it (_)
  exact wpAny_pyNext_range_end (I.ok.hd p) st (by have:n<=i:=q;omega) λf eb=>#[8,I.turned (t':=s.toks) (λb o a e=>eb b o a e) r u x y A]
 self:=λ_ _ _ _ _ st h=>wpAny_pyIter_rangeiter st h
section
variable{X:Cx}{tg:sg}
def zo{KQ:sm}{σ:St}{H:Hp}{s:Hq}{R:It->Hp->Prop}{E:Hn->Hq->Prop}{a c:Int}{t u v:Tok}{tk:Nat}(I:Inv X KQ σ H s)(h1:-(2^62)<=a)(h2:a<2^62)(f:-(2^62)<=c)(g:c<2^62)
 (q:R (Qd a (c-a).toNat) H):Hy (HI X.prog X.w) X.A (pyIter (.ref s.z)) (Yh X KQ σ tg R) E { s with heap:=s.heap.push { cls:=.type "range",data:=.fields (List.toArray [.int a t,.int c u,.int 1 v]) },toks:=tk }:=by
 refine wpAny_pyIter_range (IsRange.new ..) (small_one h1 h2 f g) ?_
 let d:Inv X KQ σ H { s with heap:=s.heap.push { cls:=.type "range",data:=.fields (List.toArray [.int a t,.int c u,.int 1 v]) },toks:=tk }:=I.kept λb o e=>Hr _ e
 refine #[(s.heap.push { cls:=.type "range",data:=.fields (List.toArray [.int a t,.int c u,.int 1 v]) }).objs.size,[(s.heap.push { cls:=.type "range",data:=.fields (List.toArray [.int a t,.int c u,.int 1 v]) }).objs.size],_,_,H,8,
  d.kept (t':=tk) λb o e=>Hr _ e,sf _ a (c-a).toNat,?_,λb h=>?_,q]
 .have e1:a+((0:Nat):Int)*1=a:=by simp
  let e2:(((c-a).toNat:Nat):Int)-((0:Nat):Int)=Builtin.Range.rangeSize a c 1:=by rw[rangeSize_one];split<;>omega
  show IsRangeIter _ _ (a+((0:Nat):Int)*1) ((((c-a).toNat:Nat):Int)-((0:Nat):Int)) 1
  rw[e1,e2]
  exact Hx _ rfl
 .have e:b=(s.heap.push { cls:=.type "range",data:=.fields (List.toArray [.int a t,.int c u,.int 1 v]) }).objs.size:=‹h›
  subst e
  exact d.pD (Hu _) (d.hok.fresh (Hu _))
def F8(a:TA):TI:=λσ H R=>a σ H λvs H1=>∃j:Int,vs=[.int j]/\-(2^62)<=j/\j<2^62/\R (Qd 0 j.toNat) H1
def nP{a:sg}{d:TA}{p pos:Pos}(f:Gl X "range")(g:X.mg "range"=KC)(i:PA X [a] d)(k:HC [a] X.env=[(KG,eval a X.env)]:=by rfl):PI X tg (.Call (.Name "range" p) [a] [] pos) (F8 d):=by
 intro KQ s σ H R I h;refine Call_ (fL I f g boot_range (Jg (LS (i pos KQ s σ H _ I h) λus u b=>?_) k rfl));let[vs,H1,l,m,c]:=b;let[j,e,c,n,q]:=c;subst e;cases m with
 |cons r o=>
  cases o
  let[t,8]:=r
  exact call_range_1 (zo l () () c n ‹q›)
def GO(e:TI)(g:TG)(f:TS):TS:=λD σ H=>e σ H λJ H1=>∃W:Nat->Nat->St->Hp->Prop,(∃m,W 0 m σ H1)/\∀i m σ H,W i m σ H->
 (J.stop i H/\D.nx σ H)\/(J.go i H/\∃N:St->Hp->Prop,(∀a b,N a b->∃d,d<m/\W (i+1) d a b)/\∀x b,J.yld i H x b->g x σ b λc h=>f { D with nx:=N,ct:=N,bk:=D.nx } c h)
def gN(fp:t_)(h:r_):sm:=fp.filterMap λb=>(h.get? b).map λo=>(b,o)
theorem bN{fp:t_}{h:r_}{b:r4}{o:Obj}(a:b∈fp)(e:h.get? b=KA o):(b,o)∈gN fp h:=List.mem_filterMap.mpr #[b,a,by rw[e];rfl]
def vW{fp:t_}{h:r_}{p:r4×Obj}(a:p∈gN fp h):p.1∈fp/\h.get? p.1=KA p.2:=by
 let[b,c,e]:=List.mem_filterMap.mp a;cases q:h.get? b with
 |none=>rw[q]at e;cases e
 |some o=>
  rw[q]at e
  let d:(b,o)=p:=Option.some.inj e
  subst d
  exact #[c,q]
theorem Inv.pinned{KQ:sm}{σ:St}{H:Hp}{s:Hq}{fp:t_}(I:Inv X KQ σ H s)(f:∀b∈fp,cJ X KQ H b)(g:∀b∈fp,∃o,s.heap.get? b=KA o/\∀v,o.data≠.cell v):Inv X (KQ++gN fp s.heap) σ H s:=
 I.uF λp h=>(HQ.mp h).elim (λz=>I.pin p (HP _ z)) λz=>by
  let[a,e]:=vW z
  let[i,j,k,_]:=f p.1 a
  let[o,c,d]:=g p.1 a
  rw[e]at c;cases c
  exact #[e,i,j,k,d]
theorem Inv.eZ{KQ pl:sm}{σ:St}{H:Hp}{s:Hq}(I:Inv X (KQ++pl) σ H s):Inv X KQ σ H s:=I.uF λp a=>I.pin p (HP _ (List.mem_append_left _ a))
def xJ{c:sg}{body:tq}{Y:TI}{g:TG}{Z:TS}{pos:Pos}(K:PassesOwn (HI X.prog X.w) X.A X.env X.xe)(hc:X.calm=KD)(hi:PI X tg c Y)(hg:PG X tg g)(j:NY X body Z)
 (hs:∀x,Ia c X.env x=pure x:=by intro _;rfl):PS X (.For tg c body [] pos) (GO Y g Z):=by
 intro KQ s σ H D I h
 refine wpAny_For (LS (hi KQ s σ H _ I h) λv s1 h1=>LS h1 λa0 s2 h2=>?_) hs
 obtain⟨it,fp,tn,J,H2,e,I2,T,Qq,f2,W,⟨m0,w0⟩,L⟩:=h2
 subst e
 let k:∀{z:Hp},(∀b∈fp,z b=KC)->∀b∈fp,cJ X KQ z b:=λhn b j=>#[hn b j,(f2 b j).2]
 refine codeAny_forLoop_any (λn s'=>∃i l z,Inv X KQ l z s'/\tn i s'.heap/\(∀b∈fp,z b=KC)/\W i n l z) ?_ m0 #[0,σ,H2,I2,Qq,λb j=>(f2 b j).1,w0]
 rintro n s3 ⟨i,p,P,I3,Q7,M,w3⟩
 rcases L i n p P w3 with⟨stop,qn⟩|⟨go,N,hN,step⟩
 .refine Ka K (LS (T.done X rfl rfl rfl hc i KQ s3 p P X.xe I3 (k M) Q7 stop) λr s4 B=>?_)
  let[Q,I4]:=B
  subst Q
  exact wpAny_execs_nil #[p,P,I4,qn]
 .refine Ka K (LS (T.item X rfl rfl rfl hc i KQ s3 p P X.xe I3 (k M) Q7 go) λr s4 C=>?_)
  let[u,Q,h4]:=C
  subst Q
  refine Ka K (LS h4 λ_ s5 E=>?_)
  let[x,H5,I5,r5,y5,NK,R]:=E
  let S:=I5.pinned (k R) (T.obj _ _ NK)
  refine Ka K (LS (hg _ s5 p H5 x u _ S r5 (step x H5 y5)) λ_ s6 F=>?_)
  let[U,H6,I6,q6]:=F
  refine Ka K (LS (j _ s6 U H6 _ I6 q6) λf V G=>?_)
  let q:∀{a:St}{t:Hp},Inv X (KQ++gN fp s5.heap) a t V->N a t->∃m,m<n/\∃i l z,Inv X KQ l z V/\tn i V.heap/\(∀b∈fp,z b=KC)/\W i m l z:=λ{a t} y O=>by
   let[m',hm,w7]:=hN a t O
   refine #[m',hm,i+1,a,t,y.eZ,T.keep _ _ _ NK λb j o e=>(y.pin (b,o) (HP _ (HP _ (bN j e)))).1,λb j=>?_,w7]
   let[o,e,d]:=T.obj _ _ NK b j
   exact(y.pin (b,o) (HP _ (HP _ (bN j e)))).2.1
  cases f with
  |next=>let[a,t,y,O]:=G;exact q y O
  |cont=>let[a,t,y,O]:=G;exact q y O
  |brk=>let[a,t,y,G]:=G;exact #[a,t,y.eZ,G]
  |ret v=>let[x7,a,t,y,r7,G]:=G;exact #[x7,a,t,y.eZ,r7,G]
end
def vZ{h:Int}{n:Nat}{g:TG}{k:TS}{D:Ends}{σ:St}{H:Hp}(a:Nat->St->Hp->Prop)(h0:a 0 σ H)
 (o:∀i σ H,i<n->a i σ H->g (.int (h+i)) σ H λb j=>k { D with nx:=a (i+1),ct:=a (i+1),bk:=D.nx } b j) (hd:∀σ H,a n σ H->D.nx σ H) :
 ∃W:Nat->Nat->St->Hp->Prop,(∃m,W 0 m σ H)/\∀i m σ H,W i m σ H->
  ((Qd h n).stop i H/\D.nx σ H)\/((Qd h n).go i H/\∃N:St->Hp->Prop,(∀c d,N c d->∃l,l<m/\W (i+1) l c d)/\∀x d,(Qd h n).yld i H x d->g x σ d λb j=>k { D with nx:=N,ct:=N,bk:=D.nx } b j):=by
 refine #[λi m σ H=>m=n-i/\i<=n/\a i σ H,#[n,by simp,IB _,h0],?_]
 rintro i m σ H ⟨rfl,r,p⟩
 by_cases f:i<n
 .refine .inr #[f,a (i+1),λc d q=>#[n-(i+1),(),8,f,q],λx d y=>?_]
  let[e,y]:=y
  subst e y
  exact o i σ _ f p
 .have e:i=n:=()
  subst e
  exact .inl #[Hu _,hd σ H p]
abbrev R2:=V->V->Hp->VK->Prop
def Lq(X:Cx)(f:Hn->Hn->Sem Hn)(r:R2):Prop:=
 ∀(KQ:sm)(s:Hq)(σ:St)(H:Hp)(x y:V)(v u:Hn)(Q:VK),Inv X KQ σ H s->RelV x v->RelV y u->r x y H Q->
  Hy (HI X.prog X.w) X.A (f v u) (EP X KQ σ Q) X.xe s
def WN(X:Cx)(f:Hn->Sem Hn)(r:V->Hp->VK->Prop):Prop:=
 ∀(KQ:sm)(s:Hq)(σ:St)(H:Hp)(x:V)(v:Hn)(Q:VK),Inv X KQ σ H s->RelV x v->r x H Q->
  Hy (HI X.prog X.w) X.A (f v) (EP X KQ σ Q) X.xe s
def bY(X:Cx)(f:Hn)(r:vo->Hp->VK->Prop):Prop:=
 ∀(KQ:sm)(s:Hq)(σ:St)(H:Hp)(xs:vo)(us:List Hn)(Q:VK),Inv X KQ σ H s->Vals xs us->r xs H Q->
  Hy (HI X.prog X.w) X.A (call f us) (EP X KQ σ Q) X.xe s
def Gn(X:Cx)(r:V->Hp->(Bool->Hp->Prop)->Prop):Prop:=
 ∀(KQ:sm)(s:Hq)(σ:St)(H:Hp)(x:V)(v:Hn)(Q:Bool->Hp->Prop),Inv X KQ σ H s->RelV x v->r x H Q->
  Hy (HI X.prog X.w) X.A (truthy v) (TP X KQ σ Q) X.xe s
def Qf(r:R2)(a b:TE):TE:=λσ H Q=>a σ H λx H1=>b σ H1 λy c=>r x y c Q
def ZI(r:V->Hp->VK->Prop)(a:TE):TE:=λσ H Q=>a σ H λx H1=>r x H1 Q
def rI(C:Int->Int->Prop)(g:Int->Int->V):R2:=λx y H Q=>∃i j,x=.int i/\y=.int j/\C i j/\Q (g i j) H
def Pp(g:Int->Int->V):R2:=λx y H Q=>∃i j,x=.int i/\y=.int j/\Q (g i j) H
def rU(g:Int->V):V->Hp->VK->Prop:=λx H Q=>∃i,x=.int i/\Q (g i) H
section
variable{X:Cx}{a b c:sg}{ta tb tc:TE}{pos:Pos}
def CD(l:PE X a ta)(m:PE X b tb){KQ:sm}{s:Hq}{σ:St}{H:Hp}{R:V->V->Hp->Prop}(I:Inv X KQ σ H s) (h:ta σ H λx H1=>tb σ H1 λy g=>R x y g) {Q:Hn->Hq->Prop} {f:Hn->Hn->Sem Hn} (n:∀v u k x y g,Inv X KQ σ g k->RelV x v->RelV y u->R x y g->Hy (HI X.prog X.w) X.A (f v u) Q X.xe k) : Hy (HI X.prog X.w) X.A (eval a X.env) (λv i=>Hy (HI X.prog X.w) X.A (eval b X.env) (λu j=>Hy (HI X.prog X.w) X.A (f v u) Q X.xe j) X.xe i) X.xe s:=by refine LS (l KQ s σ H _ I h) λv o d=>?_;let[x,H1,p,q,r]:=d;refine LS (m KQ o σ H1 _ p r) λu k e=>?_;let[y,g,t,z,B]:=e;exact n v u k x y g t q z B
def F7{op:Operator}{r:R2}(d:Lq X (JL op) r)(e:PE X a ta)(f:PE X b tb):PE X (.BinOp a op b pos) (Qf r ta tb):=by intro KQ s σ H Q I h;exact wpAny_BinOp (CD e f I h λv u g x y i j k l q=>d KQ g σ i x y v u Q j k l q)
def EA{op:UnaryOp}{r:V->Hp->VK->Prop}(e:WN X (unaryOp op) r)(f:PE X a ta):PE X (.UnaryOp op a pos) (ZI r ta):=by intro KQ s σ H Q I h;exact UnaryOp_ (LS (f KQ s σ H _ I h) λv g d=>by let[x,H1,i,j,k]:=d;exact(e KQ g σ H1 x v Q i j k))
def WZ{f:Hn->Hn->Sem Hn}{C:Int->Int->Prop}{g:Int->Int->Int} (d:∀(i j:Int)(t u:Tok)(s:Hq)(Q:Hn->Hq->Prop)(E:Hn->Hq->Prop),C i j->Q (.int (g i j) s.toks) { s with toks:=s.toks+1 }->Hy (HI X.prog X.w) X.A (f (.int i t) (.int j u)) Q E s) : Lq X f (rI C λi j=>.int (g i j)):=by intro KQ s σ H x y v u Q I e k h;let[i,j,8,8,l,q]:=h;let[t,8]:=e;let[m,8]:=k;exact d i j t m s _ _ l #[.int (g i j),H,I.tok _,#[_,rfl],q]
def Ec{f:Hn->Hn->Sem Hn}{g:Int->Int->Int} (d:∀(i j:Int)(t u:Tok)(s:Hq)(Q:Hn->Hq->Prop)(E:Hn->Hq->Prop),Q (.int (g i j) s.toks) { s with toks:=s.toks+1 }->Hy (HI X.prog X.w) X.A (f (.int i t) (.int j u)) Q E s) : Lq X f (Pp λi j=>.int (g i j)):=by intro KQ s σ H x y v u Q I e k h;let[i,j,8,8,q]:=h;let[t,8]:=e;let[l,8]:=k;exact d i j t l s _ _ #[.int (g i j),H,I.tok _,#[_,rfl],q]
def Cy{f:Hn->Hn->Sem Hn}{g:Int->Int->Bool} (d:∀(i j:Int)(t u:Tok)(s:Hq)(Q:Hn->Hq->Prop)(E:Hn->Hq->Prop),Q (.bool (g i j)) s->Hy (HI X.prog X.w) X.A (f (.int i t) (.int j u)) Q E s) : Lq X f (Pp λi j=>.bl (g i j)):=by intro KQ s σ H x y v u Q I e k h;let[i,j,8,8,q]:=h;let[t,8]:=e;let[l,8]:=k;exact d i j t l s _ _ #[.bl (g i j),H,I,8,q]
def Fz(i j:Int):Prop:=0<=j/\j<=1000000/\i.natAbs<2^64
theorem CO:Lq X (JL .Add) (Pp λi j=>.int (i+j)):=Ec λ_ _ _ _ _ _ _ q=>add_int q
theorem D2:Lq X (JL .Sub) (Pp λi j=>.int (i-j)):=Ec λ_ _ _ _ _ _ _ q=>sub_int q
theorem zP:Lq X (JL .Mod) (rI (λ_ j=>j≠0) λi j=>.int (i.fmod j)):=WZ λ_ _ _ _ _ _ _ d q=>mod_int' d q
theorem DJ:Lq X (JL .Pow) (rI Fz λi j=>.int (i^j.toNat)):=WZ λ_ _ _ _ _ _ _ d q=>pow_int_small d.1 d.2.1 d.2.2 q
theorem DB:Lq X (JL .BitXor) (Pp λi j=>.int (Builtin.bitXor i j)):=Ec λ_ _ _ _ _ _ _ q=>xor_int q
def Yv{f:Hn->Sem Hn}{g:Int->Int} (d:∀(i:Int)(t:Tok)(s:Hq)(Q:Hn->Hq->Prop)(E:Hn->Hq->Prop),Q (.int (g i) s.toks) { s with toks:=s.toks+1 }->Hy (HI X.prog X.w) X.A (f (.int i t)) Q E s) : WN X f (rU λi=>.int (g i)):=by intro KQ s σ H x v Q I e h;let[i,8,q]:=h;let[t,8]:=e;exact d i t s _ _ #[.int (g i),H,I.tok _,#[_,rfl],q]
theorem Cr:WN X (unaryOp .USub) (rU λi=>.int (-i)):=Yv λ_ _ _ _ _ q=>neg_int q
end
def GG:V->V->Bool
 |.non,.non=>KD|.non,.int _=>KD|.int _,.non=>KD|.non,.bl _=>KD|.bl _,.non=>KD|.non,.str _=>KD|.str _,.non=>KD
 |.int _,.int _=>KD|.bl _,.bl _=>KD|.str _,.str _=>KD|.byt _,.byt _=>KD
 |.int _,.str _=>KD|.str _,.int _=>KD|.bl _,.str _=>KD|.str _,.bl _=>KD
 |_,_=>KG
def ZQ:R2:=λx y H Q=>GG x y=KD/\Q (.bl (decide (x=y))) H
def zN{i j:Int}:decide (V.int i=V.int j)=(i==j):=by rw[JJ];simp
def Ct{i j:Bool}:decide (V.bl i=V.bl j)=(i==j):=by rw[JJ];simp
def zG{i j:Str}:decide (V.str i=V.str j)=(i==j):=by rw[JJ];simp
def Ah{i j:Array UInt8}:decide (V.byt i=V.byt j)=(i.toList==j.toList):=by rw[JJ];cases i;cases j;simp
section
variable{X:Cx}{a b c:sg}{ta tb tc:TE}{pos:Pos}
def cO{KQ:sm}{σ:St}{H:Hp}{s:Hq}{Q:VK}{k d:Bool}(I:Inv X KQ σ H s)(q:Q (.bl k) H)(e:k=d):EP X KQ σ Q (.bool d) s:=by subst e;exact #[.bl k,H,I,8,q]
def F4:Lq X (Ik .Eq) ZQ:=by
 intro KQ s σ H x y v u Q I g d h;let[f,q]:=h;cases x with
 |non=>
  cases g
  cases y with
  |non=>cases d;exact PySem.EqNone.eq_none_none (cO I q (_))
  |bl j=>cases d;exact PySem.EqNone.eq_none_bool (cO I q (_))
  |int j=>let[e,8]:=d;exact PySem.EqNone.eq_none_int (cO I q (_))
  |str j=>let[e,8]:=d;exact PySem.EqNone.eq_none_str (cO I q (_))
  |_=>exact absurd (show KG=KD from f) HF
 |bl i=>
  cases g
  cases y with
  |non=>cases d;exact PySem.EqNone.eq_bool_none (cO I q (_))
  |bl j=>cases d;exact eq_bool (cO I q Ct)
  |str j=>let[e,8]:=d;exact PySem.EqMixed.eq_bool_str (cO I q (_))
  |_=>exact absurd (show KG=KD from f) HF
 |int i=>
  let[t,8]:=g
  cases y with
  |non=>cases d;exact PySem.EqNone.eq_int_none (cO I q (_))
  |int j=>let[e,8]:=d;exact eq_int (cO I q zN)
  |str j=>let[e,8]:=d;exact PySem.EqMixed.eq_int_str (cO I q (_))
  |_=>exact absurd (show KG=KD from f) HF
 |str i=>
  let[t,8]:=g
  cases y with
  |non=>cases d;exact PySem.EqNone.eq_str_none (cO I q (_))
  |bl j=>cases d;exact PySem.EqMixed.eq_str_bool (cO I q (_))
  |int j=>let[e,8]:=d;exact PySem.EqMixed.eq_str_int (cO I q (_))
  |str j=>let[e,8]:=d;exact eq_str (cO I q zG)
  |_=>exact absurd (show KG=KD from f) HF
 |byt i=>
  let[t,8]:=g
  cases y with
  |byt j=>let[e,8]:=d;exact PySem.W.eq_bytes (cO I q Ah)
  |_=>exact absurd (show KG=KD from f) HF
 |_=>cases y<;>exact absurd (show KG=KD from f) HF
theorem Ep:Lq X (Ik .Lt) (Pp λi j=>.bl (decide (i<j))):=Cy λ_ _ _ _ _ _ _ q=>lt_int q
theorem Eo:Lq X (Ik .LtE) (Pp λi j=>.bl (decide (i<=j))):=Cy λ_ _ _ _ _ _ _ q=>le_int q
theorem FI:Lq X (Ik .Gt) (Pp λi j=>.bl (decide (j<i))):=Cy λ_ _ _ _ _ _ _ q=>gt_int q
def Lq.or{f:Hn->Hn->Sem Hn}{r d:R2}(h:Lq X f r)(h':Lq X f d):Lq X f (λx y H Q=>r x y H Q\/d x y H Q):=by
 intro KQ s σ H x y v u Q I e g q;rcases q with q|q
 .exact h KQ s σ H x y v u Q I e g q
 .exact h' KQ s σ H x y v u Q I e g q
def yj(b:sg){op:CmpOp}(h:op≠.In:=by decide)(h2:op≠.NotIn:=by decide):K0 op b=KG:=by
 let e1:(op==CmpOp.In)=KG:=by cases op<;>first|rfl|exact absurd rfl h
 let e2:(op==CmpOp.NotIn)=KG:=by cases op<;>first|rfl|exact absurd rfl h2
 cases b<;>simp[K0,e1,e2]
def AX{op:CmpOp}{r:R2}(d:Lq X (Ik op) r)(e:PE X a ta)(f:PE X b tb)(g:K0 op b=KG):PE X (.Compare a [op] [b] pos) (Qf r ta tb):=by intro KQ s σ H Q I h;exact wpAny_Compare1 (CD e f I h λv u i x y j k l m q=>d KQ i σ j x y v u Q k l m q) g
def yL(t:TE):TT:=λσ H Q=>t σ H λx d=>∃k,x=.bl k/\Q k d
def tW{op:CmpOp}{r:R2}(d:Lq X (Ik op) r)(f:PE X a ta)(g:PE X b tb)(i:K0 op b=KG):PT X (.Compare a [op] [b] pos) (yL (Qf r ta tb)):=by intro KQ s σ H Q I h;refine wpAny_isTrue_Compare1 (LS (f KQ s σ H _ I h) λv j ⟨x,H1,l,m,n⟩=>LS (g KQ j σ H1 _ l n) λu o ⟨y,p,q,t,w⟩=>LS (d KQ o σ p x y v u _ q m t w) λc E ⟨z,A,B,C,k,e,D⟩=>?_) i;subst e;cases C;exact Jf #[A,B,D]
def wM(r e:R2)(ta tb tc:TE):TE:=λσ H Q=>ta σ H λx H1=>tb σ H1 λy f=>r x y f λz d=>∃k,z=.bl k/\
 (if k=KD then tc σ d λg h=>e y g h Q else Q (.bl KG) d)
def yH{op g:CmpOp}{r j:R2}(p:Lq X (Ik op) r)(i:Lq X (Ik g) j)(q:PE X a ta)(t:PE X b tb)(w:PE X c tc) (A:lastMarks [op,g] [b,c]=KG:=by with_unfolding_all rfl):PT X (.Compare a [op,g] [b,c] pos) (yL (wM r j ta tb tc)):=by
 intro KQ s σ H Q I h;refine isTrue_chain (LS (q KQ s σ H _ I h) λv B ⟨x,H1,C,D,E⟩=>test_link (LS (t KQ B σ H1 _ C E) λu F ⟨y,G,J,l,K⟩=>LS (p KQ F σ G x y v u _ J D l K) λd L ⟨z,m,n,M,k,e,o⟩=>?_)) A;subst e;cases M;refine Jf ?_;cases k with
 |false=>
  let[k',N,O]:=o
  cases N
  exact ite_ff #[m,n,O]
 |true=>
  refine ite_tt (test_last (LS (w KQ L σ m _ n o) λP R ⟨S,T,U,V,W⟩=>LS (i KQ R σ T y S u P _ U l V W) λd' s5 f=>?_))
  let[z2,Y,Z,r5,k2,e2,q5]:=f
  subst e2
  cases r5
  exact Jf #[Y,Z,q5]
def F5(K:Hm)(x:V)(H:Hp)(k:Bool):Prop:=
 match x with
 |.non=>k=KG
 |.bl b=>k=b
 |.int i=>k=(i != 0)
 |.str y=>y.length<=HK/\k=((y.length:Int) != 0)
 |.byt y=>y.size<=HK/\k=((y.size:Int) != 0)
 |.ref p=>(∃xs,L8 K H p xs/\k=!xs.isEmpty)\/(∃xs,L7 K H p xs/\k=!xs.isEmpty)\/∃kvs,H p=KA (.dK kvs)/\k=!kvs.isEmpty
 |_=>False
def tE{κ:Type}{kvs:List (κ×V)}{vs:List (κ×Hn)}(r:KV kvs vs):(!vs.isEmpty)=!kvs.isEmpty:=by cases r<;>rfl
def mF{xs:vo}{its:List Hn}(r:Vals xs its):(!its.toArray.isEmpty)=!xs.isEmpty:=by cases r<;>simp
def kH:(HK:Nat)<2^63:=by rw[J7];decide
def DH:Gn X (λx H Q=>∃k,F5 X.K x H k/\Q k H):=by
 intro KQ s σ H x v Q I g h;let[k,e,q]:=h;let z:=kH;let A:HK=16777216:=J7;cases x with
 |non=>
  cases g
  let d:k=KG:=e
  subst d
  exact truthy_none #[H,I,q]
 |bl b=>
  cases g
  let d:k=b:=e
  subst d
  exact Jf #[H,I,q]
 |int i=>
  let[t,8]:=g
  let d:k=(i != 0):=e
  subst d
  exact PySem.P.truthy_int #[H,I,q]
 |str y=>
  let[t,8]:=g
  obtain⟨o,d⟩:y.length<=HK/\k=((y.length:Int) != 0):=e
  subst d
  exact PySem.P.truthy_str () #[H,I.tok _,q]
 |byt y=>
  let[t,8]:=g
  obtain⟨o,d⟩:y.size<=HK/\k=((y.size:Int) != 0):=e
  subst d
  exact PySem.W.truthy_bytes () #[H,I.tok _,q]
 |ref p=>
  cases g
  let d:(∃xs,L8 X.K H p xs/\k=!xs.isEmpty)\/(∃xs,L7 X.K H p xs/\k=!xs.isEmpty)\/∃kvs,H p=KA (.dK kvs)/\k=!kvs.isEmpty:=e
  rcases d with⟨xs,hx,d⟩|⟨xs,hx,d⟩|⟨kvs,hx,d⟩
  .subst d;let[j,r,l,n]:=I.list hx;let f:=r.length;exact wpAny_truthy_list l.isList (by simp only[HD];omega) #[H,I.tok _,by rw[mF r];exact q]
  .subst d;let[j,r,l,n]:=I.tuple hx;let f:=r.length;exact truthy_tuple l (by simp only[HD];omega) #[H,I.tok _,by rw[mF r];exact q]
  .subst d;obtain⟨n,u,vs,r,m⟩:kvs.length<=HK/\(p==Jz)=KG/\∃vs,KV kvs vs/\s.heap.DictOf (b8 X.prog X.w) p vs:=I.hok p _ hx;let f:kvs.length=vs.length:=Paired.length r;exact wpAny_truthy_dict u m () #[H,I.tok _,by rw[tE r];exact q]
 |_=>exact(show False from e).elim
def wJ(g:PE X a ta)(i:∀d,isTrue a X.env d=(do let v <-d;standAt a.pos;holding [v] (truthy v))) :
 PT X a (λσ H Q=>ta σ H λx f=>∃k,F5 X.K x f k/\Q k f):=by
 intro KQ s σ H Q I h
 exact isTrue_plain (LS (g KQ s σ H _ I h) λv j e=>by let[x,H1,l,m,n]:=e;exact(DH KQ j σ H1 x v Q l m n)) (i _)
def vals1{x:V}{us:List Hn}(r:Vals [x] us):∃u,us=[u]/\RelV x u:=by
 cases r with
 |cons d e=>cases e;exact #[7,d]
def vals2{x y:V}{us:List Hn}(r:Vals [x,y] us):∃u d,us=[u,d]/\RelV x u/\RelV y d:=by
 cases r with
 |cons e f=>
  cases f with
  |cons g h=>cases h;exact #[_,7,e,g]
def yd:bY X (.builtin "abs") (λxs H Q=>∃i,xs=[.int i]/\Q (.int (if i<0 then -i else i)) H):=by intro KQ s σ H xs us Q I r h;let[i,8,q]:=h;let[u,8,t,8]:=vals1 r;exact call_abs_int λu d=>#[.int (if i<0 then -i else i),H,I.tok _,#[_,rfl],q]
def v5(e:X.calm=KD):bY X (.builtin "max") (λxs H Q=>∃i j,xs=[.int i,.int j]/\Q (.int (if j>i then j else i)) H):=by
 intro KQ s σ H xs us Q I r h;let[i,j,8,q]:=h;obtain⟨u,f,rfl,⟨t,rfl⟩,⟨g,rfl⟩⟩:=vals2 r;refine max_two_ints (I.ok.hd e) λl m k=>#[_,H,I.kept k,?_,q];by_cases d:j>i
 .rw[KI d,KI d];exact #[_,rfl]
 .rw[KH d,KH d];exact #[_,rfl]
def wa(e:X.calm=KD):bY X (.builtin "min") (λxs H Q=>∃i j,xs=[.int i,.int j]/\Q (.int (if j<i then j else i)) H):=by
 intro KQ s σ H xs us Q I r h;let[i,j,8,q]:=h;obtain⟨u,f,rfl,⟨t,rfl⟩,⟨g,rfl⟩⟩:=vals2 r;refine min_two_ints (I.ok.hd e) λl m k=>#[_,H,I.kept k,?_,q];by_cases d:j<i
 .rw[KI d,KI d];exact #[_,rfl]
 .rw[KH d,KH d];exact #[_,rfl]
def vh:bY X (.type "int") (λxs H Q=>(∃i,xs=[.int i]/\Q (.int i) H)\/∃k,xs=[.bl k]/\Q (.int (if k then 1 else 0)) H):=by
 intro KQ s σ H xs us Q I r h;rcases h with⟨i,rfl,q⟩|⟨k,rfl,q⟩
 .obtain⟨u,rfl,t,rfl⟩:=vals1 r;exact call_int_int #[.int i,H,I,#[_,rfl],q]
 .obtain⟨u,rfl,d⟩:=vals1 r;cases d;exact call_int_bool #[.int (if k then 1 else 0),H,I.tok _,#[_,rfl],q]
end
structure Nq(h:r_)(x dx C:r4)(mA:Str->Option Hn):Prop where
 obj:h.get? x=KA (JV C dx)
 ns:h.Ns1 dx mA
 ne:dx≠x
def u9{h:r_}{c:r4}{mA:Str->Option Hn}(n:h.Ns1 c mA):∃od,h.get? c=KA od/\∀name,PySem.W.lookIn name od=KA (mA name):=by
 let[o,d,l,f,hd,g,_,i]:=n;refine #[o,f,λname=>?_];let e:=i name;unfold nsFind findBy at e;rw[<-Array.find?_toList]at e;unfold PySem.W.lookIn;rw[hd];dsimp only;split
 .rename_i y q;rw[q]at e;exact congrArg KA e
 .rename_i q;rw[q]at e;let a:d.toList.any (·.refKey)=KG:=by rw[List.any_eq_false];intro y j;let[z,t,b]:=g y (Array.mem_toList_iff.mp j);simp[DictEntry.refKey,b]
  let k:¬d.toList.any (·.refKey)=KD:=by rw[a];exact HF
  rw[KH k];exact congrArg KA e
theorem Nq.look{h:r_}{x a C:r4}{mA:Str->Option Hn}(I:Nq h x a C mA):∃od,PySem.W.InstAt h x (JV C a) C (KA od)/\∀name,PySem.W.lookIn name od=KA (mA name):=
 let⟨od,b,c⟩:=u9 I.ns
 #[od,#[I.obj,8,8,b],c]
section
variable{prog:HL}{w:Il}{A:Ig}{E:Hn->Hq->Prop}{s:Hq}{K:Hm}{x dx C f:r4}{mA:Str->Option Hn}{name:Str}{v:Hn}
def get_map{a:Bool}{Q:Hn->Hq->Prop}(X:K.In s.heap)(I:Nq s.heap x dx C mA)(c:PySem.W.plainGet K C name=KD)(d:PySem.W.hasDictIn K C=KD) (e:Jc K (.ref C) name=KA KC) (hv:mA name=KA v) (b:PySem.W.handedIn v=KD) (h:Q v { s with toks:=s.toks+1 }) : Hy (HI prog w) A (getAttr (.ref x) name a) Q E s:=by let[od,J,g]:=I.look;exact PySem.W.get_value X J (PySem.W.plainGet_of c).1 (PySem.W.findObj_own d e rfl (by rw[g,hv])) b h
def xr{pl:Sem Bool}{Q:Hn×List Hn->Hq->Prop}(X:K.In s.heap)(I:Nq s.heap x dx C mA)(a:PySem.W.plainGet K C name=KD) (b:Jc K (.ref C) name=KA (KA (.ref f))) (c:PySem.W.isFn K (.ref f)=KD) (hv:mA name=KC) (h:Q (.ref f,[.ref x]) s) : Hy (HI prog w) A (getMethod (.ref x) name pl) Q E s:=by let[od,J,d]:=I.look;exact PySem.W.method_fn X J (PySem.W.plainGet_of a).1 (PySem.W.plainGet_of a).2 b (beq_iff_eq.mp c) (by show(PySem.W.lookIn name od).map (·.isSome)=KA KG;rw[d,hv];rfl) h
def Bj{ns:u_}{Q:Unit->Hq->Prop}(X:K.In s.heap)(I:Nq s.heap x dx C mA)
 (k:Jc K (.ref C) "__setattr__"=KA (KA (.builtin "object.__setattr__"))) (l:PySem.W.plainOver K C=KD) (m:PySem.W.takerIn K C name=KA KC) (n:PySem.W.hasDictIn K C=KD)
 (hw:PySem.Within mA ns) (hsz:ns.length<=HK)
 (h:∀h',Nq h' x dx C (λy=>if y=name then KA v else mA y)->JD dx s.heap h'->Q ⟨⟩ { s with heap:=h',toks:=s.toks+2 }) :
 Hy (HI prog w) A (setAttr (.ref x) name v) Q E s:=by
 let[od,J,t]:=I.look
 refine PySem.W.set_plain X J k (PySem.W.osa_open (s:={ s with toks:=s.toks+1 }) (r:=KC) X J l m λb=>?_)
 let[u,o,e]:=PySem.W.any_some n
 let hx:s.heap.get? x=KA #[.ref C,KA dx,.plain,#[]]:=I.obj
 refine Hl (Hs (Hl (Hl (wpAny_loadPart hx (Hl (PySem.W.Looks.here (s:={ s with toks:=s.toks+1 }) (PySem.W.looks_clsIn X o) ?_))))))
 rw[e]
 refine Hs (a:=KA dx) (Hl (Hs (Hl ?_)))
 refine wpAny_nsSet1 (s:={ s with toks:=s.toks+1 }) I.ns λh' c d=>?_
 let[z,p,q,g,i,j]:=c.count (PySem.Within.cons name v hw)
 refine Hl (wpAny_lookBehind g (by rw[i];exact pastItsLine_dict (Iv j (by rw[Ih];omega))) ?_)
 exact Hs (h _ #[(d.2 _ (Ne.symm I.ne)).trans I.obj,c,I.ne] d)
def xn{R:Result->Hq->Prop}{vs:List Hn}{a:List (Str×Hn)}(X:K.In s.heap)(b:PySem.W.makesIn K C=KD)
 (c:Jc K (.ref C) "__init__"=KA (KA (.ref f))) (e:PySem.W.typeIn K (.ref f)=KA (.type "function"))
 (h:JE (HI prog w) (A.under (.builtin "type.__call__" #[.ref C::vs,a])) (.call (.ref f) #[.ref (s.z+1)::vs,a]) (PySem.W.InitBack (s.z+1) R)
  { s with heap:=(s.heap.push Ju).push (JV C s.z) }) :
 JE (HI prog w) A (.call (.ref C) #[vs,a]) R s:=by
 let[i,g,d,t,os]:=s
 exact PySem.W.make_core (PySem.W.makes_of X b) (PySem.W.looks_findIn X c) (λself=>PySem.W.bind_fn X self e) (.inl rfl) h
end
def gC(f:Str)(v:V):List (Str×V)->List (Str×V)
 |[]=>[(f,v)]
 |(g,x)::r=>if g=f then(g,v)::r else(g,x)::gC f v r
theorem lB(f g:Str)(v:V):∀fs:List (Str×V),(gC f v fs).lookup g=if g=f then KA v else fs.lookup g
 |[]=>by
  show List.lookup g [(f,v)]=_
  by_cases h:g=f
  .have a:(g==f)=KD:=beq_iff_eq.mpr h
   simp only[List.lookup,a,KI h]
  .have a:(g==f)=KG:=beq_eq_false_iff_ne.mpr h
   simp only[List.lookup,a,KH h]
 |(k,x)::r=>by
  let c:=lB f g v r
  rw[show gC f v ((k,x)::r)=(if k=f then(k,v)::r else(k,x)::gC f v r)from rfl]
  by_cases b:k=f
  .rw[KI b]
   by_cases h:g=k
   .have a:(g==k)=KD:=beq_iff_eq.mpr h
    simp only[List.lookup,a,KI (h.trans b)]
   .have a:(g==k)=KG:=beq_eq_false_iff_ne.mpr h
    simp only[List.lookup,a,KH (λe:g=f=>h (e.trans b.symm))]
  .rw[KH b]
   by_cases h:g=k
   .have a:(g==k)=KD:=beq_iff_eq.mpr h
    simp only[List.lookup,a,KH (λe:g=f=>b (h.symm.trans e))]
   .have a:(g==k)=KG:=beq_eq_false_iff_ne.mpr h
    simp only[List.lookup,a]
    exact c
theorem jX(f:Str)(v:V):∀fs:List (Str×V),f∈(gC f v fs).map (·.1)/\∀g,g∈fs.map (·.1)->g∈(gC f v fs).map (·.1)
 |[]=>#[by simp[gC],λg h=>by simp at h]
 |(k,x)::r=>by
  let[b,c]:=jX f v r
  rw[show gC f v ((k,x)::r)=(if k=f then(k,v)::r else(k,x)::gC f v r)from rfl]
  by_cases a:k=f
  .rw[KI a]
   subst a
   exact #[by simp,λg h=>‹h›]
  .rw[KH a]
   refine #[?_,λg h=>?_]
   .rw[HG]
    exact IL _ b
   .rw[HG]at h ⊢
    rcases Iw.mp h with e|e
    .exact Iw.mpr (.inl e)
    .exact IL _ (c g e)
theorem ly(f:Str)(v:V):∀fs:List (Str×V),(gC f v fs).length<=fs.length+1
 |[]=>by simp[gC]
 |(k,x)::r=>by
  let b:=ly f v r
  rw[show gC f v ((k,x)::r)=(if k=f then(k,v)::r else(k,x)::gC f v r)from rfl]
  by_cases a:k=f
  .rw[KI a,Ih,Ih];omega
  .rw[KH a,Ih,Ih];omega
def jC.some_of{v:V}{o:Option Hn}(r:jC (KA v) o):∃u,o=KA u/\RelV v u:=by
 cases o with
 |none=>exact(show False from r).elim
 |some u=>exact #[u,8,r]
def jC.none_of{o:Option Hn}(r:jC KC o):o=KC:=by
 cases o with
 |none=>rfl
 |some u=>exact(show False from r).elim
def vQ{v:V}{u:Hn}(r:RelV v u):PySem.W.handedIn u=KD:=by
 cases v with
 |non=>cases (show u=Value.none from r);rfl
 |bl b=>cases (show u=JU b from r);rfl
 |int i=>let[t,e]:=(show ∃t,u=Value.int i t from r);cases e;rfl
 |str x=>let[t,e]:=(show ∃t,u=Value.str x t from r);cases e;rfl
 |byt b=>let[t,e]:=(show ∃t,u=Value.bytes b t from r);cases e;rfl
 |flt b=>let[t,e]:=(show ∃t,u=Value.float b t from r);cases e;rfl
 |ref a=>cases (show u=II a from r);rfl
 |ty n=>cases (show u=Kg n from r);rfl
section
variable{P:HL}{w:Il}{H H':Hp}{h h':r_}{a C dx:r4}{fs KO:List (Str×V)}
def pB(hok:MC P w H h)(e:H a=KA (.ins C dx fs)):∃mA,Nq h a dx C mA/\(∀f,jC (fs.lookup f) (mA f))/\PySem.Within mA (fs.map (·.1))/\fs.length<=1000/\H dx=KA (.own a):=by let[d,z,ne,b,mA,n,r,q]:=(show bO P w H h a (.ins C dx fs)from hok a _ e);exact #[mA,#[b,n,ne],r,q,z,d]
end
structure Cls(K:Hm)(C:r4):Prop where
 pg:PySem.W.plainGet K C Str.empty=KD
 hd:PySem.W.hasDictIn K C=KD
 po:PySem.W.plainOver K C=KD
 sa:Jc K (.ref C) "__setattr__"=KA (KA (.builtin "object.__setattr__"))
theorem Cls.get{K:Hm}{C:r4}(c:Cls K C)(f:Str):PySem.W.plainGet K C f=KD:=c.pg
def bV(K:Hm)(C:r4)(f:Str):Prop:=Jc K (.ref C) f=KA KC
def bV.Fl{K:Hm}{C:r4}{f:Str}(n:bV K C f):PySem.W.takerIn K C f=KA KC:=by unfold PySem.W.takerIn;rw[show Jc K (.ref C) f=KA KC from n];rfl
structure Meth(K:Hm)(C:r4)(m:Str)(f:r4):Prop where
 at_:Jc K (.ref C) m=KA (KA (.ref f))
 fn:PySem.W.isFn K (.ref f)=KD
 kp:J5 K (.ref f)=KD
section
variable{X:Cx}{KQ:sm}{σ:St}{H:Hp}{s:Hq}{a C dx:r4}{fs:List (Str×V)}{f:Str}{v:V}{A:Ig}{E:Hn->Hq->Prop}
def rO{b:Bool}{Q:Hn->Hq->Prop}(I:Inv X KQ σ H s)(e:H a=KA (.ins C dx fs))(c:Cls X.K C)(n:bV X.K C f)(l:fs.lookup f=KA v) (h:∀u d,Inv X KQ σ H d->RelV v u->Q u d):Hy (HI X.prog X.w) A (getAttr (.ref a) f b) Q E s:=by let[mA,O,r,_,_,_]:=pB I.hok e;let[u,i,g]:=jC.some_of (v:=v) (o:=mA f) (by rw[<-l];exact r f);exact get_map I.kIn O (c.get f) c.hd n i (vQ g) (h u _ (I.tok _) g)
def tu{m:Str}{g:r4}{pl:Sem Bool}{Q:Hn×List Hn->Hq->Prop}(I:Inv X KQ σ H s)(e:H a=KA (.ins C dx fs))(c:Cls X.K C)(k:Meth X.K C m g)(l:fs.lookup m=KC)
 (h:Q (.ref g,[.ref a]) s):Hy (HI X.prog X.w) A (getMethod (.ref a) m pl) Q E s:=by
 let[mA,O,r,_,_,_]:=pB I.hok e
 let b:mA m=KC:=jC.none_of (by rw[<-l];exact r m)
 exact xr I.kIn O (c.get m) k.at_ k.fn b h
def sN{y:V}{u:Hn}{Q:Unit->Hq->Prop}(I:Inv X KQ σ H s)(e:H a=KA (.ins C dx fs))(c:Cls X.K C)(n:bV X.K C f)(G:fs.length<1000)(l:RelV y u)
 (h:∀i,Inv X KQ σ (upd H a (.ins C dx (gC f y fs))) i->Q .unit i):Hy (HI X.prog X.w) A (setAttr (.ref a) f u) Q E s:=by
 let[mA,O,r,j,_,k]:=pB I.hok e
 let m:(fs.map (·.1)).length<=HK:=by rw[Ho,J7];omega
 refine Bj I.kIn O c.sa c.po n.Fl c.hd j m λp d t=>h _ ?_
 let hd:∃o,p.get? dx=KA o:=let⟨o,_,_,B,_⟩:=d.ns;#[o,B]
 refine I.write (x:=a) (e:=dx) (by rw[e];exact JA) (.inr k) (λb q D z=>(t.2 b D).trans z) hd ?_
 refine #[by rw[aG O.ne];exact k,?_,O.ne,d.obj,_,d.ns,λg=>?_,λg F=>?_]
 .have:=ly f y fs;omega
 .show jC ((gC f y fs).lookup g) (if g=f then KA u else mA g)
  rw[lB]
  by_cases q:g=f
  .rw[KI q,KI q];exact l
  .rw[KH q,KH q];exact r g
 .by_cases q:g=f
  .rw[q];exact(jX f y fs).1
  .refine(jX f y fs).2 g (j g λz=>F ?_)
   show(if g=f then KA u else mA g)=KC
   rw[KH q];exact z
def Inv.made(I:Inv X KQ σ H s):Inv X KQ σ (upd (upd H s.z (.own (s.z+1))) (s.z+1) (.ins C s.z []))
 { s with heap:=(s.heap.push Ju).push (JV C s.z) }:=by
 let e1:(s.heap.push Ju).get? s.z=KA Ju:=Hx s.heap rfl
 let e2:((s.heap.push Ju).push (JV C s.z)).get? (s.z+1)=KA (JV C s.z):=by
  have:=Hx (s.heap.push Ju) (o:=JV C s.z) rfl
  rwa [J6]at this
 let e3:(s.heap.push Ju).Ns s.z (λ_=>KC):=#[Ju,#[],_,e1,8,(λe c=>absurd c (_)),λ_=>rfl]
 let d:=I.laid (a:=s.z) (o:=.own (s.z+1)) (h':=s.heap.push Ju) (t':=s.toks) (λb u q=>Hr _ q) (Hu _) #[_,e1]
 refine d.laid (a:=s.z+1) (o:=.ins C s.z []) (t':=s.toks) (λb u q=>Hr _ q) (Nat.le_of_eq (J6 _ _)) ?_
 let ne:s.z≠s.z+1:=HX (Nat.lt_succ_self _)
 refine #[by rw[aG ne,aH],IB _,ne,e2,λ_=>KC,(Heap.Ns1.of_empty e3).at λo q=>Hr _ q,λ_=>JA,λy g=>absurd rfl g]
theorem AW{prog:HL}{w:Il}{env:Env}{e:sg}{f:Str}{pos:Pos}{s:Hq}{Q:Hn->Hq->Prop}(c:JO e f env (eval e env)=eval e env) (h:Hy (HI prog w) A (eval e env) (λo b=>Hy (HI prog w) A (getAttr o f KD) Q E b) E s):Hy (HI prog w) A (eval (.Attribute e f pos) env) Q E s:=Attribute_any_ h (by rw[arm_eval_Attribute,c])
end
def GI(K:Hm)(b:TE)(f:Str):TE:=λσ H Q=>b σ H λx H1=>∃a C c fs v,x=.ref a/\H1 a=KA (.ins C c fs)/\Cls K C/\bV K C f/\fs.lookup f=KA v/\Q v H1
def Gq(K:Hm)(d e:TE)(f:Str):TS:=λD σ H=>e σ H λy H1=>d σ H1 λx b=>∃a C c fs,x=.ref a/\b a=KA (.ins C c fs)/\Cls K C/\bV K C f/\fs.length<1000/\
 D.nx σ (upd b a (.ins C c (gC f y fs)))
section
variable{X:Cx}{o e value:sg}{f:Str}{pos pos' KS:Pos}{ta tv:TE}
def Co(d:PE X e ta)(g:JO e f X.env (eval e X.env)=eval e X.env):PE X (.Attribute e f pos) (GI X.K ta f):=by intro KQ s σ H Q I h;refine AW g (LS (d KQ s σ H _ I h) λu p b=>?_);let[x,H1,i,j,a,C,r,fs,v,ex,ea,c,n,l,q]:=b;subst ex;obtain rfl:u=II a:=j;exact rO i ea c n l λt w k m=>#[v,H1,k,m,q]
def Cw(d:PE X o ta)(hv:PE X value tv)(g:JH value (KA (.Attribute o f pos')) pos.line X.env=pure KG):PS X (.Assign [.Attribute o f pos'] value pos) (Gq X.K ta tv f):=by intro KQ s σ H D I h;refine plainObj_wpAny_Assign_Attribute (LS (hv KQ s σ H _ I h) λu i ⟨y,H1,j,k,q⟩=>LS (d KQ i σ H1 _ j q) λm w b=>?_) g;let[x,z,p,r,a,C,A,fs,ex,ea,c,n,l,t]:=b;subst ex;obtain rfl:m=II a:=r;exact sN p ea c n l k λB v=>#[σ,_,v,t]
end
structure LU(k:Nat)(A:Ig):Prop where
 hd:A.handled=KC
 dp:A.depth+3*k+5<recursionLimit
 un:A.units+16*k+200<IV
 gd:A.guards=KA []
theorem LU.mono{j k:Nat}{A:Ig}(r:LU k A)(h:j<=k):LU j A:=#[r.hd,by have:=r.dp;omega,by have:=r.un;omega,r.gd]
theorem LU.deeper{k:Nat}{A:Ig}(r:LU (k+1) A)(env:Env):LU k (A.deeper env):=#[r.hd,by have:=r.dp;show A.depth+1+3*k+5<_;omega,by have:=r.un;show A.units+3+16*k+200<_;omega,r.gd]
theorem LU.in1{k:Nat}{A:Ig}(r:LU (k+1) A):LU k A.in1:=#[r.hd,by have:=r.dp;show A.depth+3*k+5<_;omega,by have:=r.un;show A.units+1+16*k+200<_;omega,r.gd]
def rN{A:Ig}{C:r4}{us:List Hn}{a:List (Str×Hn)}:(A.under (.builtin "type.__call__" #[.ref C::us,a])).depth=A.depth+1:=by first|rfl|simp[Around.under,Code.weight,Code.isCreation,Code.isGuard,Code.isCaller,Code.frames,Code.isFrame,guardIds]
def rC{A:Ig}{C:r4}{us:List Hn}{a:List (Str×Hn)}:(A.under (.builtin "type.__call__" #[.ref C::us,a])).units=A.units+1:=by first|rfl|simp[Around.under,Code.cUnits,Code.frames,Code.isFrame]
theorem LU.make{k:Nat}{A:Ig}(r:LU (k+1) A)(C:r4)(us:List Hn)(a:List (Str×Hn)):LU k (A.under (.builtin "type.__call__" #[.ref C::us,a])):=#[r.hd,by have:=r.dp;rw[rN];omega,by have:=r.un;rw[rC];omega,by first|exact r.gd|(have:=r.gd;simpa[Around.under,Code.isGuard,guardIds]using this)]
def LU.depth{k:Nat}{A:Ig}(r:LU k A):A.depth<recursionLimit:=by have:=r.dp;omega
def LU.units{k:Nat}{A:Ig}(r:LU k A):A.units+64<IV:=by have:=r.un;omega
def Gx:TA:=λ_ H Q=>Q [] H
def Ft(a:TE)(b:TA):TA:=λσ H Q=>a σ H λx H1=>b σ H1 λxs c=>Q (x::xs) c
section
variable{X:Cx}{e:sg}{es:tr}{te:TE}{t:TA}{pos:Pos}
theorem Cm:PA X [] Gx:=λ_ _ _ _ H Q I h=>Calls.spliced_nil #[[],H,I,.nil,h]
def Ay(c:PE X e te)(d:PA X es t)(f:HC (e::es) X.env=(KG,eval e X.env)::HC es X.env:=by rfl):PA X (e::es) (Ft te t):=by intro pos KQ s σ H Q I h;rw[f];show Hy _ _ (spliced ((KG,eval e X.env)::IY pos (HC es X.env))) _ _ s;refine Calls.spliced_cons (LS (c KQ s σ H _ I h) λu g a=>?_);let[x,H1,i,j,k]:=a;exact LS (d pos KQ g σ H1 _ i k) λus p b=>by let[xs,l,m,n,o]:=b;exact(#[x::xs,l,m,.cons j n,o])
def G1(t:TA):TE:=λσ H Q=>t σ H λxs H1=>xs.length<=HK/\∀p,H1 p=KC->Q (.ref p) (upd H1 p (.tup xs))
def GK(t:TA):TE:=λσ H Q=>t σ H λxs H1=>xs.length<=HK/\∀p,H1 p=KC->Q (.ref p) (upd H1 p (.lst xs))
def Cj{x1}(h:PA X es t):PE X (.Tuple es x1 pos) (G1 t):=by intro KQ s σ H Q I d;refine wpAny_Tuple_spliced (LS (h pos KQ s σ H _ I d) λus a ⟨xs,H1,c,r,z,q⟩=>#[by rw[<-r.length];exact z,?_]);let f:H1 a.z=KC:=c.hok.fresh (Hu _);refine #[.ref a.z,upd H1 a.z (.tup xs),c.laid (t':=a.toks) (λb u e=>Hr _ e) (Hu _) ?_,8,q _ f];exact #[z,us,r,#[_,Hx _ rfl,8,7],#[_,Hx _ rfl,rfl]]
def DV(h:PA X es t):PE X (.List es pos) (GK t):=by intro KQ s σ H Q I d;refine wpAny_List_spliced (LS (h pos KQ s σ H _ I d) λus a ⟨xs,H1,c,r,z,q⟩=>#[by rw[<-r.length];exact z,?_]);let f:H1 a.z=KC:=c.hok.fresh (Hu _);refine #[.ref a.z,upd H1 a.z (.lst xs),c.laid (t':=a.toks) (λb u e=>Hr _ e) (Hu _) ?_,8,q _ f];exact #[z,us,0,r,Hx _ rfl]
end
abbrev Sp:=vo->Hp->VK->XK->Prop
abbrev QB:=List Env->Hp->Hq->XK->Hn->Hq->Prop
structure Mf(P:HL)(w:Il)(K:Hm)(mg:Str->Option Hn)(base:r_)(A:Ig)(outer:List Env)(s:Hq)(H:Hp):Prop where
 frames:A.frames=KA outer
 mod:Mod K mg base
 bs:∀b o,base.get? b=KA o->s.heap.get? b=KA o/\H b=KC
 bsz:base.objs.size<=s.z
 hZ:s.heap.FunFrames base outer
 frf:∀b∈NW outer,H b=KC
 hok:MC P w H s.heap
 bare:AllBare s.gens
def CE(outer:List Env)(P:HL)(w:Il)(H:Hp)(s:Hq)(Q:VK)(u:Hn)(a:Hq):Prop:=
 ∃v b,a.os=s.os/\AllBare a.gens/\Un (NW outer) [] H b s.heap a.heap/\MC P w b a.heap/\RelV v u/\Q v b
def CR(CX:QB)(outer:List Env)(P:HL)(w:Il)(H:Hp)(s:Hq)(Q:VK)(E:XK)(r:Result)(a:Hq):Prop:=
 match r with
 |.ok (.ret u)=>CE outer P w H s Q u a
 |.ok _=>False
 |.error e=>CX outer H s E e a
structure Ll(P:HL)(w:Il)(K:Hm)(mg:Str->Option Hn)(base:r_)(CX:QB)(k:Nat)(f:r4)(fd:FuncData)(ps:u_)(sp:Sp):Prop where
 len:∀vs H Q E,sp vs H Q E->vs.length=ps.length
 run:∀(A:Ig)(outer:List Env)(s:Hq)(H:Hp)(args:Args)(us:List Hn)(vs:vo)(Q:VK)(E:XK),LU k A->Mf P w K mg base A outer s H->BindsTo s fd args (ps.zip us)->Vals vs us->sp vs H Q E->
  JE (HI P w) A (.call (.ref f) args) (CR CX outer P w H s Q E) s
theorem Ll.mono{P:HL}{w:Il}{K:Hm}{mg:Str->Option Hn}{base:r_}{CX:QB}{j k:Nat}{f:r4}{fd:FuncData}{ps:u_}{sp:Sp}(F:Ll P w K mg base CX j f fd ps sp)(h:j<=k) : Ll P w K mg base CX k f fd ps sp:=#[F.len,λA outer s H args us vs Q E a=>F.run A outer s H args us vs Q E (a.mono h)]
theorem Mf.make{P:HL}{w:Il}{K:Hm}{mg:Str->Option Hn}{base:r_}{A:Ig}{outer:List Env}{s:Hq}{H:Hp}(e:Mf P w K mg base A outer s H)(C:r4)(us:List Hn)(a:List (Str×Hn)) : Mf P w K mg base (A.under (.builtin "type.__call__" #[.ref C::us,a])) outer s H:=#[by first|exact e.frames|(simpa[Around.under,Code.envs,Code.isFrame,pushEnvs]using e.frames),e.mod,e.bs,e.bsz,e.hZ,e.frf,e.hok,e.bare]
section
variable{X:Cx}{KQ:sm}{σ:St}{H:Hp}{s s':Hq}
theorem Inv.Cs(I:Inv X KQ σ H s):Mf X.prog X.w X.K X.mg X.base X.A X.stack s H:=#[I.ok.frames,I.ok.mod,I.bs,Iv I.ok.bsz I.sz,I.stack,I.uc,I.hok,I.bare]
def Inv.after{Q:VK}{u:Hn}(I:Inv X KQ σ H s)(h:CE X.stack X.prog X.w H s Q u s'):EP X KQ σ Q u s':=by let[v,c,os,bare,un,hok,r,q]:=h;let[e,g,d,t,a]:=s';obtain rfl:a=s.os:=os;exact #[v,c,I.call (h':=e) (g':=g) (d':=d) (t':=t) (ch:=[]) un hok bare (λb z=>absurd z (_)),r,q]
end
def E7(sp:Sp)(a:vo)(E:XK)(t:TA):TE:=λσ H Q=>t σ H λvs H1=>sp (vs++a) H1 Q E
def F0(C:r4)(m:Str)(sp:Sp)(b:vo)(E:XK)(c:TE)(t:TA):TE:=λσ H Q=>c σ H λx H1=>∃a d fs,x=.ref a/\H1 a=KA (.ins C d fs)/\fs.lookup m=KC/\
 t σ H1 λvs e=>sp (x::(vs++b)) e Q E
def FW(C:r4)(sp:Sp)(b:vo)(E:XK)(t:TA):TE:=λσ H Q=>t σ H λvs H1=>∀x a,H1 x=KC->H1 a=KC->a≠x->
 sp (.ref x::(vs++b)) (upd (upd H1 a (.own x)) x (.ins C a [])) (λv c=>v=.non/\Q (.ref x) c) E
def Binds(K:Hm)(fd:FuncData)(ps:u_)(ds:List Hn):Prop:=
 ∀(s:Hq)(us:List Hn),K.In s.heap->(us++ds).length=ps.length->BindsTo s fd #[us,[]] (ps.zip (us++ds))
theorem Binds.all{K:Hm}{fd:FuncData}{ps:u_}(h:∀us:List Hn,us.length=ps.length->Kc fd #[us,[]]=pure (ps.zip us)):Binds K fd ps []:=λs us _ a=>by rw[Jm]at a ⊢;exact .of_eq (h us a)
def Passes(CX:QB)(X:Cx)(E:XK):Prop:=∀(KQ:sm)(σ:St)(H:Hp)(s:Hq)(e:Hn)(a:Hq),Inv X KQ σ H s->CX X.stack H s E e a->X.xe e a
section
variable{X:Cx}{CX:QB}{k:Nat}{f C:r4}{fd:FuncData}{ps:u_}{sp:Sp}{KU:vo}{ds:List Hn}{E:XK}{x m:Str}{p pos apos:Pos}{e o:sg}{es:tr}{ta:TE}{t:TA}
def rL{KQ:sm}{σ:St}{H:Hp}{s:Hq}{Q:VK}{us:List Hn}{vs:vo}(F:Ll X.prog X.w X.K X.mg X.base CX k f fd ps sp)(c:LU k X.A)(d:Binds X.K fd ps ds)(hd:Vals KU ds)(hx:Passes CX X E)
 (I:Inv X KQ σ H s) (r:Vals vs us) (h:sp (vs++KU) H Q E):Hy (HI X.prog X.w) X.A (call (.ref f) us) (EP X KQ σ Q) X.xe s:=by
 let b:Vals (vs++KU) (us++ds):=r.append hd
 let g:(us++ds).length=ps.length:=by rw[<-b.length];exact F.len _ _ _ _ h
 refine wpAny_call (codeAny_mono (F.run X.A X.stack s H #[us,[]] (us++ds) (vs++KU) Q E c I.Cs (d s us I.kIn g) b h) λr i a=>?_)
 cases r with
 |error e=>exact hx KQ σ H s e i I a
 |ok j=>
  cases j with
  |ret u=>exact I.after a
  |next=>exact HS a
  |brk=>exact HS a
  |cont=>exact HS a
def zV(F:Ll X.prog X.w X.K X.mg X.base CX k f fd ps sp)(d:LU k X.A)(g:Gl X x)(i:X.mg x=KA (.ref f))(j:J5 X.K (.ref f)=KD)(l:Binds X.K fd ps ds)(hd:Vals KU ds)(hx:Passes CX X E) (n:PA X (e::es) t) (a:(x==("__debug__":Str))=KG:=by decide) (u:HC (e::es) X.env=(KG,eval e X.env)::HC es X.env:=by rfl) (b:(IY pos (HC es X.env)).any (·.1)=KG:=by rfl) : PE X (.Call (.Name x p) (e::es) [] pos) (E7 sp KU E t):=by intro KQ s σ H Q I h;refine JN (pj I g i ?_ a);refine PySem.W.callWith_K (h₀:=X.base) I.ok.mod.kin j (LS (n pos KQ s σ H _ I h) λus v ⟨vs,H1,c,r,q⟩=>#[c.kIn,?_]) u b;exact rL F d l hd hx c r q
def A0{pl:Sem Bool}(v:PE X o ta)(c:Cls X.K C)(i:Meth X.K C m f)(F:Ll X.prog X.w X.K X.mg X.base CX k f fd ps sp)(y:LU k X.A)(z:Binds X.K fd ps ds)(hd:Vals KU ds)(hx:Passes CX X E)(B:PA X (e::es) t)
 (d:HC (e::es) X.env=(KG,eval e X.env)::HC es X.env:=by rfl) (g:(IY pos (HC es X.env)).any (·.1)=KG:=by rfl)
 (D:eval (.Call (.Attribute o m apos) (e::es) [] pos) X.env=(do
  let ov <-eval o X.env
  standAt apos.atName
  let(f,first) <-holding [ov] (getMethod ov m pl)
  callWith pos f first (IY pos (HC (e::es) X.env)) (Ks pos (JK [] X.env))):=by rfl) :
 PE X (.Call (.Attribute o m apos) (e::es) [] pos) (F0 C m sp KU E ta t):=by
 intro KQ s σ H Q I h
 refine PySem.W.methodCall_KW (pl:=pl) (LS (v KQ s σ H _ I h) λu G b=>?_) D
 let[x,H1,j,J,a,M,fs,ex,ea,l,q]:=b
 subst ex
 obtain rfl:u=II a:=J
 refine tu j ea c i l ?_
 refine PySem.W.callWith_K (first:=[.ref a]) (h₀:=X.base) I.ok.mod.kin i.kp (LS (B pos KQ G σ H1 _ j q) λus N ⟨vs,O,n,r,L⟩=>#[n.kIn,?_]) d g
 exact rL (us:=.ref a::us) (vs:=.ref a::vs) F y z hd hx n (.cons rfl r) L
structure Mk(K:Hm)(C f:r4):Prop where
 makes:PySem.W.makesIn K C=KD
 init:Jc K (.ref C) "__init__"=KA (KA (.ref f))
 fn:PySem.W.isFn K (.ref f)=KD
 kp:J5 K (.ref C)=KD
def y6{KQ:sm}{σ:St}{H:Hp}{s:Hq}{Q:VK}{us:List Hn}{vs:vo}(M:Mk X.K C f)(F:Ll X.prog X.w X.K X.mg X.base CX k f fd ps sp)(i:LU (k+1) X.A)(j:Binds X.K fd ps ds)(hd:Vals KU ds)
 (hx:Passes CX X E) (I:Inv X KQ σ H s) (r:Vals vs us)
 (h:∀x b,H x=KC->H b=KC->b≠x->sp (.ref x::(vs++KU)) (upd (upd H b (.own x)) x (.ins C b [])) (λv l=>v=.non/\Q (.ref x) l) E) :
 Hy (HI X.prog X.w) X.A (call (.ref C) us) (EP X KQ σ Q) X.xe s:=by
 let d:=h (s.z+1) s.z (I.hok.fresh (Kq _)) (I.hok.fresh (Hu _)) (HX (Nat.lt_succ_self _))
 let c:=Inv.made (C:=C) I
 let g:Vals (V.ref (s.z+1)::(vs++KU)) (II (s.z+1)::(us++ds)):=.cons rfl (r.append hd)
 let n:(II (s.z+1)::us++ds).length=ps.length:=by
  let e:=g.length
  rw[F.len _ _ _ _ d]at e
  exact e.symm
 refine wpAny_call (xn (f:=f) I.kIn M.makes M.init (beq_iff_eq.mp M.fn) (codeAny_mono (F.run _ X.stack _ _ #[II (s.z+1)::us,[]] (II (s.z+1)::(us++ds)) _ _ E (i.make C us [])
  (c.Cs.make C us []) (j _ (II (s.z+1)::us) c.kIn n) g d) λr q a=>?_))
 cases r with
 |error e=>exact hx KQ σ _ _ e q c a
 |ok y=>
  cases y with
  |ret u=>
   let[v,z,B,D,G,J]:=c.after a
   subst G
   exact #[D,#[V.ref (s.z+1),z,B,8,J]]
  |next=>exact HS a
  |brk=>exact HS a
  |cont=>exact HS a
def As(M:Mk X.K C f)(F:Ll X.prog X.w X.K X.mg X.base CX k f fd ps sp)(d:LU (k+1) X.A)(g:Gl X x)(i:X.mg x=KA (.ref C))(j:Binds X.K fd ps ds)(hd:Vals KU ds)(hx:Passes CX X E) (l:PA X (e::es) t) (a:(x==("__debug__":Str))=KG:=by decide) (n:HC (e::es) X.env=(KG,eval e X.env)::HC es X.env:=by rfl) (b:(IY pos (HC es X.env)).any (·.1)=KG:=by rfl) : PE X (.Call (.Name x p) (e::es) [] pos) (FW C sp KU E t):=by intro KQ s σ H Q I h;refine JN (pj I g i ?_ a);refine PySem.W.callWith_K (h₀:=X.base) I.ok.mod.kin M.kp (LS (l pos KQ s σ H _ I h) λus u ⟨vs,H1,c,r,q⟩=>#[c.kIn,?_]) n b;exact y6 M F d j hd hx c r q
end
structure LN(N P:u_)(sc:JB):Prop where
 kind:sc.kind=.function
 co:sc.isCoroutine=KG
 gen:sc.isGenerator=KG
 nd:N.Nodup
 pre:N.take P.length=P
 par:∀x∈P,sc.names.lookup x=KA .local\/sc.names.lookup x=KA .cell
 nofree:∀y∈sc.names,y.2≠.free
theorem nU{kindOf:Str->Option JQ}{x:Str}:∀{binds:List (Str×Hn)} {m:Str->Option Hn},(∀v,(x,v)∉binds)->bindL kindOf binds m x=m x
 |[],_,_=>rfl
 |(n,v)::r,m,h=>by
  unfold bindL
  rw[nU λw a=>h w (IL _ a)]
  split
  .have:x≠n:=by rintro rfl;exact h v K6
   simp[this]
  .rfl
theorem nY{kindOf:Str->Option JQ}{x:Str}:∀{binds:List (Str×Hn)} {m:Str->Option Hn},(∀v,(x,v)∉binds)->bindC kindOf binds m x=m x
 |[],_,_=>rfl
 |(n,v)::r,m,h=>by
  unfold bindC
  rw[nY λw a=>h w (IL _ a)]
  split
  .rfl
  .have:x≠n:=by rintro rfl;exact h v K6
   simp[this]
theorem oe{kindOf:Str->Option JQ}{x:Str}{v:Hn}:∀{P:u_}{vs:List Hn}{i:Nat}{m:Str->Option Hn},P.Nodup->P[i]?=KA x->vs[i]?=KA v->kindOf x=KA .local->
 bindL kindOf (P.zip vs) m x=KA v
 |[],_,_,_,_,h,_,_=>by simp at h
 |_::_,[],_,_,_,_,h,_=>by simp at h
 |p::P,w::vs,0,m,nd,h1,h2,hk=>by
  simp at h1 h2;subst h1;subst h2
  show bindL kindOf ((p,w)::P.zip vs) m p=_
  unfold bindL
  rw[nU λv hv=>(List.nodup_cons.mp nd).1 (List.of_mem_zip hv).1,KI hk]
  simp
 |p::P,w::vs,i+1,m,nd,h1,h2,hk=>by
  show bindL kindOf ((p,w)::P.zip vs) m x=_
  unfold bindL
  exact oe (i:=i) (List.nodup_cons.mp nd).2 ‹h1› ‹h2› hk
theorem nQ{kindOf:Str->Option JQ}{x:Str}{v:Hn}:∀{P:u_}{vs:List Hn}{i:Nat}{m:Str->Option Hn},P.Nodup->P[i]?=KA x->vs[i]?=KA v->kindOf x≠KA .local->
 bindC kindOf (P.zip vs) m x=KA v
 |[],_,_,_,_,h,_,_=>by simp at h
 |_::_,[],_,_,_,_,h,_=>by simp at h
 |p::P,w::vs,0,m,nd,h1,h2,hk=>by
  simp at h1 h2;subst h1;subst h2
  show bindC kindOf ((p,w)::P.zip vs) m p=_
  unfold bindC
  rw[nY λv hv=>(List.nodup_cons.mp nd).1 (List.of_mem_zip hv).1,KH hk]
  simp
 |p::P,w::vs,i+1,m,nd,h1,h2,hk=>by
  show bindC kindOf ((p,w)::P.zip vs) m x=_
  unfold bindC
  exact nQ (i:=i) (List.nodup_cons.mp nd).2 ‹h1› ‹h2› hk
def start(N:u_)(vs:vo):St:=vs.map KA++Ic (N.length-vs.length) KC
def hW(CX:QB)(P:HL)(w:Il)(K:Hm)(mg:Str->Option Hn)(base:r_)(N:u_)(qual:Str)(scope:JB)(f:r4)(cd:Hn)(A:Ig)(outer:List Env)(s:Hq)(H:Hp)(E:XK):Cx where
 prog:=P
 w:=w
 K:=K
 mg:=mg
 base:=base
 A:=A.deeper (Kl qual scope s.z f cd)
 N:=N
 s₀:=s
 H₀:=H
 env:=Kl qual scope s.z f cd
 outer:=outer
 stack:=Kl qual scope s.z f cd::outer
 ex:=[]
 calm:=KD
 fn:=λ_=>KD
 pn:=[]
 xe:=λe b=>Hy (HI P w) (A.deeper (Kl qual scope s.z f cd)) (leaving (Kl qual scope s.z f cd) e) (λ_ a=>CX outer H s E e a) (λc a=>CX outer H s E c a) b
def mn{sc:JB}{n:Nat}{x:Str}(h:sc.names.lookup x=KA .cell):∃c,(Jv n sc.names []).lookup x=KA c:=by let q:=PySem.W.cellsFrom_some sc.names n [] (.inl h);exact Option.isSome_iff_exists.mp q
def vm{CX:QB}{P:HL}{w:Il}{K:Hm}{mg:Str->Option Hn}{base:r_}{N ps:u_}{qual:Str}{scope:JB}{f:r4}{cd:Hn}{A:Ig}{outer:List Env}{s t:Hq}{H:Hp}{E:XK}{us:List Hn}{vs:vo}
 (S:LN N ps scope) (hd:A.handled=KC) (d:Mf P w K mg base A outer s H) (I:vs.length=ps.length) (r:Vals vs us)
 (x:InCallC s s.z (bindL (Kl qual scope s.z f cd).kindOf (ps.zip us) λ_=>KC) (Jv (s.z+1) scope.names []) (bindC (Kl qual scope s.z f cd).kindOf (ps.zip us) λ_=>KC) t) :
 Inv (hW CX P w K mg base N qual scope f cd A outer s H E) [] (start N vs) H t:=by
 let D:ps.length<=N.length:=by have:=congrArg List.length S.pre;rw[Iu]at this;omega
 let[h1,J,8,B]:=x.done
 let g:∀b:r4,b∉(hW CX P w K mg base N qual scope f cd A outer s H E).ex:=λb z=>absurd (show b∈([]:t_)from z) (_)
 refine #[#[d.mod,S.kind,8,8,Hu _,λy z c h1 h2=>?_,λy j=>?_,λy c _ h=>?_,λ_=>hd,Around.frames_deeper d.frames,.inr #[8,rfl],λb z=>absurd z (g b),d.bs,d.bsz,λb _ _=>g b,λb z=>absurd z (g b),d.hZ,d.frf],
  rfl,d.bare,Un.kept B,#[_,x.toInCall.ns,λi y v h1 h2 L=>?_],λy c h=>#[_,x.cell y c h],d.hok.fresh (Hu _),λy c h=>?_,λp l=>absurd (show p∈([]:sm)from l) (_),d.hok.kept B,?_]
 .exact name_of_addr x.apart (Ii h1) (Ii h2)
 .have j:scope.names.lookup y=KA .cell\/scope.names.lookup y=KA .free:=j
  rcases j with j|j
  .exact mn j
  .exact absurd rfl (S.nofree _ (Ii j))
 .exact JX (x.above y c (Ii h))
 .have o:i<vs.length:=by
   unfold start at h2
   by_cases o:i<vs.length
   .exact o
   .rw[Ij ‹o›]at h2
    rw[List.getElem?_replicate]at h2
    split at h2<;>cases h2
  let F:vs[i]?=KA v:=by
   unfold start at h2
   rw[Im ‹o›,Hv]at h2
   cases e:vs[i]? with
   |none=>rw[e]at h2;cases h2
   |some a=>rw[e]at h2;cases h2;rfl
  let[u,C,G]:=r.get F
  let l:ps[i]?=KA y:=by
   rw[<-S.pre,List.getElem?_take_of_lt ()];exact h1
  let m:ps.Nodup:=by rw[<-S.pre];exact S.nd.sublist (List.take_sublist _ _)
  exists u,G
  rcases S.par y (Hz l)with k|k
  .exact .inl #[k,oe m l C k]
  .obtain⟨c,e⟩:=mn (n:=s.z+1) k
   refine .inr #[.inl k,c,e,?_]
   let q:=x.cell y c e
   rw[nQ m l C (by show scope.names.lookup y≠_;rw[k];decide)]at q
   exact q
 .exact d.hok.fresh (JX (x.above y c (Ii h)))
 .unfold start
  show _=N.length
  rw[Io,Ho,List.length_replicate]
  omega
def Bn{CX:QB}{P:HL}{w:Il}{K:Hm}{mg:Str->Option Hn}{base:r_}{k:Nat}{f:r4}{name qual:Str}{params:Arguments}{body:tq}{scope:JB}{G kV j L cdv ct oc:Hn}{an od:Option r4}
 {osl:Array (Option Hn)} {N ps:u_} {sp:Sp} (R:K.lookup f=KA #[oc,od,.func (IH name qual params body scope G kV j L an cdv ct),osl]) (z:JR K cdv qual=KD) (S:LN N ps scope)
 (len:∀vs H Q E,sp vs H Q E->vs.length=ps.length)
 (g:∀(A:Ig)(outer:List Env)(s:Hq)(H:Hp)(vs:vo)(Q:VK)(E:XK),LU k (A.deeper (Kl qual scope s.z f cdv))->sp vs H Q E->
  ∃t,NY (hW CX P w K mg base N qual scope f cdv A outer s H E) body t/\t { nx:=λ_ d=>Q .non d,rt:=Q } (start N vs) H) :
 Ll P w K mg base CX (k+1) f (IH name qual params body scope G kV j L an cdv ct) ps sp:=by
 refine #[len,λA outer s H args us vs Q E B l T r m=>?_]
 let U:=len _ _ _ _ m
 let M:K.In s.heap:=l.mod.kin.keeps λb o e=>(l.bs b o e).1
 let C:s.heap.NoLimit:=l.mod.nolimit.keeps λb o e=>(l.bs b o e).1
 let h:∀y∈ps.zip us,scope.names.lookup y.1=KA .local\/(scope.names.lookup y.1=KA .cell/\((Jv (s.z+1) scope.names []).lookup y.1).isSome=KD):=λa X=>by
  let[n,v]:=a
  rcases S.par n (List.of_mem_zip X).1 with q|q
  .exact .inl q
  .exact .inr #[q,PySem.W.cellsFrom_some _ _ _ (.inl q)]
 refine codeAny_call_function B.depth (M _ _ R) rfl S.co S.gen rfl (PySem.W.codeRec_of M z) (T _ _ _ _ ?_)
 refine wpAny_newFunctionEnv_cells S.kind h λenv Y O x=>?_
 subst Y
 refine #[C.keeps x.toInCall.keep,codeAny_func ?_]
 let[t,Z,hq]:=g A outer s H vs Q E (B.deeper _) m
 let I:Inv (hW CX P w K mg base N qual scope f cdv A outer s H E) [] (start N vs) H O:=vm S B.hd l U r x
 refine HJ (Z [] O (start N vs) H _ I hq) (λfl D i=>?_) λe D i=>i
 let p:∀{c:St}{d:Hp}{v:V}{u:Hn},Inv (hW CX P w K mg base N qual scope f cdv A outer s H E) [] c d D->RelV v u->Q v d->CE outer P w H s Q u D:=
  λ{c d v u} J F q=>#[v,d,J.os,J.bare,J.base,J.hok,F,q]
 cases fl with
 |ret u=>
  let[v,c,d,J,F,q]:=i
  exact p J F q
 |next=>
  let[c,d,J,q]:=i
  exact p (v:=V.non) (u:=Value.none) J rfl q
 |brk=>
  let[_,_,_,q]:=i
  exact HS q
 |cont=>
  let[_,_,_,q]:=i
  exact HS q
section
variable{X:Cx}{x:Str}{p pos:Pos}{e:sg}{es:tr}{t:TA}{id T:String}{r:vo->Hp->VK->Prop}
def We(r:vo->Hp->VK->Prop)(t:TA):TE:=λσ H Q=>t σ H λvs H1=>r vs H1 Q
def yy(d:bY X (.builtin id) r)(f:Gl X x)(g:X.mg x=KC)(hv:IG x=KA (.builtin id))(i:PA X (e::es) t)(j:x≠"__name__":=by decide)(b:(x==("__debug__":Str))=KG:=by decide) (k:HC (e::es) X.env=(KG,eval e X.env)::HC es X.env:=by rfl) (c:(IY pos (HC es X.env)).any (·.1)=KG:=by rfl):PE X (.Call (.Name x p) (e::es) [] pos) (We r t):=by intro KQ s σ H Q I h;refine JN (fL I f g hv ?_ j b);exact PyProof.Rows.callWith_builtin1 (LS (i pos KQ s σ H _ I h) λus l a=>by let[vs,H1,m,n,o]:=a;exact(d KQ l σ H1 vs us Q m n o)) k c
def uT(d:bY X (.type T) r)(f:Gl X x)(g:X.mg x=KC)(hv:IG x=KA (.type T))(i:PA X (e::es) t)(j:x≠"__name__":=by decide)(b:(x==("__debug__":Str))=KG:=by decide) (k:HC (e::es) X.env=(KG,eval e X.env)::HC es X.env:=by rfl) (c:(IY pos (HC es X.env)).any (·.1)=KG:=by rfl):PE X (.Call (.Name x p) (e::es) [] pos) (We r t):=by intro KQ s σ H Q I h;refine JN (fL I f g hv ?_ j b);exact Jg (LS (i pos KQ s σ H _ I h) λus l a=>by let[vs,H1,m,n,o]:=a;exact(d KQ l σ H1 vs us Q m n o)) k c
end
end L2
namespace HT
open PySem PyProof.Rows
def lexLt:sy->sy->Bool
 |[],[]=>KG
 |[],_::_=>KD
 |_::_,[]=>KG
 |x::xs,y::ys=>if x=y then lexLt xs ys else decide (x<y)
theorem sP(x y:Int)(xs ys:sy):lexLt (x::xs) (y::ys)=if x=y then lexLt xs ys else decide (x<y):=rfl
theorem nC:lexLt [] []=KG:=rfl
theorem m7(y:Int)(ys:sy):lexLt [] (y::ys)=KD:=rfl
theorem mQ(x:Int)(xs:sy):lexLt (x::xs) []=KG:=rfl
theorem p7(A:Ig)(s:Hq)(a:Int)(t:Tok)(c:Int)(u:Tok):∃e,SeqAt.EqAt A s (.int a t) (.int c u) e/\(e=KD↔a=c):=#[(a==c),SeqAt.EqAt.int_int a t c u,by simp]
theorem zy(A:Ig)(s:Hq)(a:Int)(t:Tok)(c:Int)(u:Tok)(prog:HL)(w:Il)(E:Hn->Hq->Prop)(Q:Hn->Hq->Prop)(h:Q (.bool (decide (a<c))) s) : Hy (HI prog w) A (richCompare .Lt (.int a t) (.int c u)) Q E s:=(PyProof.Rows.lt_int h:Hy (HI prog w) A (Ik .Lt (.int a t) (.int c u)) Q E s)
section
open PySem.SeqAt
open PySem.AutoSeq1 (wpAny_loadPart')
open PySem.MeetsSeq PySem.MeetsSeq2 PySem.MeetsSeq3
theorem nG(l b:r4)(items f:Array Hn)(n n2:Nat)(O H:Option r4)(P I:Array (Option Hn))(ns ms:sy)(M:Jk items.toList ns)(N:Jk f.toList ms) :
 Meets (Kd.«tuple.__lt__» #[[.ref l,.ref b],[]])
  (λ_ R s=>s.heap.get? l=KA { cls:=.type "tuple",dict:=O,data:=.seq items n,slots:=P }/\s.heap.get? b=KA { cls:=.type "tuple",dict:=H,data:=.seq f n2,slots:=I }/\
   R (.ok (.ret (.bool (lexLt ns ms)))) s):=
 .of_wp λprog w A R s h=>by
  let[F,g,d,G,os]:=s;let[Q,S,h]:=h
  let W:=AutoSeq1.sub_tuple_tuple
  let X:items.size=ns.length:=by rw[<-M.length];simp
  let Y:f.size=ms.length:=by rw[<-N.length];simp
  wp_walk using J3 Q,J3 S,wpAny_forIn_list _ (λp b J=>b.1=KC/\J=#[F,g,d,G,os]/\∃(vs ws:List Hn) (j k:sy),p=vs.zip ws/\
   Jk vs j/\Jk ws k/\j.length+f.size=k.length+items.size/\R (.ok (.ret (.bool (lexLt j k)))) #[F,g,d,G,os]) _
  case turn=>
   rintro⟨y,x⟩ p b J ⟨z,rfl,vs,ws,j,k,m,B,o,i,r⟩
   cases B with
   |nil=>rw[List.zip_nil_left]at m;cases m
   |cons a t D=>
    cases o with
    |nil=>rw[List.zip_nil_right]at m;cases m
    |cons c u E=>
     rw[List.zip_cons_cons]at m
     injection m with K C
     injection K with T hx
     subst T hx
     rw[sP]at r
     simp only[Ih]at i
     let[e,U,v]:=p7 A.in1 #[F,g,d,G,os] a t c u
     refine Hl (U prog w _ _ ?_)
     cases e with
     |true=>
      rw[KI (v.mp rfl)]at r
      wp_walk
      exact #[8,8,_,_,_,_,C,D,E,(),r]
     |false=>
      rw[KH (λq=>absurd (v.mpr q) HF)]at r
      let L:=zy A.in1 #[F,g,d,G,os] a t c u prog w
      wp_walk using L
      exact #[7,‹r›]
  case fin=>
   rintro⟨b1,Z⟩ J ⟨z,rfl,vs,ws,j,k,m,B,o,i,r⟩
   simp only at z
   subst z
   let hv:lexLt j k=decide (items.size<f.size):=by
    cases B with
    |nil=>
     cases o with
     |nil=>
      simp only[List.length_nil]at i
      rw[nC]
      exact(KJ ()).symm
     |cons c u V=>
      simp only[List.length_nil,Ih]at i
      rw[m7]
      exact(KL ()).symm
    |cons a t hv=>
     cases o with
     |nil=>
      simp only[List.length_nil,Ih]at i
      rw[mQ]
      exact(KJ ()).symm
     |cons c u V=>
      rw[List.zip_cons_cons]at m
      cases m
   rw[hv]at r
   wp_walk
   exact #[7,by simpa[Builtin.Tuple.tupleCompareSizes]using r]
  case h=>
   exact #[8,8,items.toList,f.toList,ns,ms,8,M,N,(),h]
end
section
variable{prog:HL}{w:Il}{A:Ig}{E:Hn->Hq->Prop}{s:Hq}
def me{l b:r4}{items a:Array Hn}{ns ms:sy}{Q:Hn->Hq->Prop}(o:IsTup s.heap l items)(p:IsTup s.heap b a)(q:Jk items.toList ns)(r:Jk a.toList ms) (t:A.units<IV) (h:Q (.bool (lexLt ns ms)) s):Hy (HI prog w) A (Ik .Lt (.ref l) (.ref b)) Q E s:=by obtain⟨⟨cls,u,data,v⟩,j,k,n,hd⟩:=id o;obtain⟨⟨m,f,g,i⟩,c,d,n2,e⟩:=id p;simp only at k hd d e;subst k hd d e;exact richCompare_meets_room (op:=.Lt) #[_,j,rfl] #[_,c,rfl] PySem.F.slot_tuple_lt PySem.F.entry_tuple_lt (PySem.F.args_tuple_lt_2 _ _) (nG l b items a n n2 u f v i ns ms q r) #[j,c,show JU (lexLt ns ms)≠Value.notImplemented/\Q (.bool (lexLt ns ms)) s from #[(λx=>nomatch x),h]] t
def A9{t b:r4}{vs ws:List Hn}{Q:Hn->Hq->Prop}(p:IsTup s.heap t vs.toArray)(q:IsTup s.heap b ws.toArray)(hv:vs≠[])
 (h1:ws=[]->Q (.ref t) s) (h2:ws≠[]->Q (.ref s.z) { s with heap:=s.heap.push { cls:=.type "tuple",data:=.seq (vs++ws).toArray } })
 (hsz:vs.length+ws.length<=HK):Hy (HI prog w) A (JL .Add (.ref t) (.ref b)) Q E s:=by
 obtain⟨⟨cls,k,data,l⟩,h,m,n,hd⟩:=id p
 obtain⟨⟨o,c,j,d⟩,a,f,n2,g⟩:=id q
 simp only at m hd f g
 subst m hd f g
 let e:vs.toArray++ws.toArray=(vs++ws).toArray:=by simp
 by_cases i:ws=[]
 .exact concat_meets #[_,h,rfl] #[_,a,rfl] noFill_tuple_add seq_tuple_add PySem.F.slot_tuple_add PySem.F.entry_tuple_add (PySem.F.args_tuple_add_2 _ _)
   (tuple_addW1 t b vs.toArray ws.toArray n n2 k c l d ‹hv› (by simp[i])) #[h,a,h1 i]
 .refine concat_meets #[_,h,rfl] #[_,a,rfl] noFill_tuple_add seq_tuple_add PySem.F.slot_tuple_add PySem.F.entry_tuple_add (PySem.F.args_tuple_add_2 _ _)
   (tuple_addW2 t b vs.toArray ws.toArray n n2 k c l d ‹hv› ‹i› (by rw[HD,HD];exact hsz)) #[h,a,?_]
  rw[e]
  exact h2 i
def sIx(n d:Nat):ti->Nat
 |none=>d
 |some v=>if v<0 then(v+(n:Int)).toNat else min v.toNat n
theorem mX(n d:Nat):sIx n d KC=d:=rfl
def jv(n d k:Nat):sIx n d (KA (k:Int))=min k n:=by show(if(k:Int)<0 then((k:Int)+(n:Int)).toNat else min (k:Int).toNat n)=min k n;rw[KH (),IJ]
def DY(n d:Nat)(hd:d<=n)(o:ti):sIx n d o<=n:=by
 cases o with
 |none=>exact hd
 |some v=>
  show(if v<0 then(v+(n:Int)).toNat else min v.toNat n)<=n
  by_cases hv:v<0
  .rw[KI hv];omega
  .rw[KH hv];exact Nat.min_le_right _ _
def tP(v:Int)(n d:Nat):(if v<0 then max (v+(n:Int)) 0 else min v (n:Int))=((sIx n d (KA v):Nat):Int):=by
 show(if v<0 then max (v+(n:Int)) 0 else min v (n:Int))=(((if v<0 then(v+(n:Int)).toNat else min v.toNat n):Nat):Int);by_cases hv:v<0
 .simp only[KI hv];omega
 .simp only[KH hv];omega
def sO(a b:ti)(n:Nat):Builtin.Slice.sliceAdjust a b 1 (n:Int)=(((sIx n 0 a:Nat):Int),((sIx n n b:Nat):Int)):=by
 let h1:¬((1:Int)<0):=()
 unfold Builtin.Slice.sliceAdjust;simp only[h1,if_false];refine Prod.ext ?_ ?_
 .cases a with
  |none=>rfl
  |some v=>exact tP v n 0
 .cases b with
  |none=>rfl
  |some v=>exact tP v n n
def rF(i j:Nat):Builtin.Slice.slicePlaces (i:Int) (j:Int) 1=j-i:=by
 unfold Builtin.Slice.slicePlaces;let h1:(1:Int)>0:=()
 simp only[h1,if_true,Int.ediv_one];split<;>omega
def ml{v:Hn}{o:ti}{Q:ti->Hq->Prop}(p:IsPart v o)(h:Q o s):Hy (HI prog w) A (Builtin.Slice.slicePartIndex v) Q E s:=by
 cases p with
 |none=>exact slicePart_none h
 |int i t=>exact slicePart_int h
def j9{f:r4}{vl e:Hn}{a b:ti}{n:Nat}{Q:Int×Int×Nat->Hq->Prop}(g:s.heap.IsSliceOf f vl e .none)(pl:IsPart vl a)(i:IsPart e b)
 (h:Q (((sIx n 0 a:Nat):Int),1,sIx n n b-sIx n 0 a) s):Hy (HI prog w) A (Builtin.Slice.sliceApplied (.ref f) (pure (n:Int))) Q E s:=by
 let[os,c,j,d]:=id g
 unfold Builtin.Slice.sliceApplied Builtin.Slice.sliceFields
 refine Hl (Hl (Ke c d (x:=vl) rfl (Hl (Ke c d (x:=e) rfl (Hl (Ke c d (x:=.none) rfl (Hs ?_)))))))
 refine Hl (slicePart_none ?_)
 show Hy _ _ (if((1:Int)==0)=KD then _ else _) _ _ s
 rw[KH ⋯]
 refine Hl (ml pl (Hl (ml i (Hl (Hs ?_)))))
 show Hy _ _ (match Builtin.Slice.sliceAdjust a b 1 (n:Int)with|(a,b)=>pure (a,(1:Int),Builtin.Slice.slicePlaces a b 1)) _ _ s
 rw[sO a b n]
 show Hy _ _ (pure (((sIx n 0 a:Nat):Int),(1:Int),Builtin.Slice.slicePlaces ((sIx n 0 a:Nat):Int) ((sIx n n b:Nat):Int) 1)) _ _ s
 rw[rF]
 exact Hs h
def xN(xs:Array Hn)(i k:Nat):((HM k).filterMap λ(m:Nat)=>xs[((i:Int)+(m:Int)*1).toNat]?).toArray=((xs.toList.drop i).take k).toArray:=by
 let e:(λ(m:Nat)=>xs[((i:Int)+(m:Int)*1).toNat]?)=λm=>xs[i+m]?:=by
  funext m
  have:((i:Int)+(m:Int)*1).toNat=i+m:=()
  rw[this]
 rw[e];have:=pick_run xs i k;rw[List.filterMap_map]at this;let e2:((λx=>xs[x]?)∘λx=>i+x)=λm=>xs[i+m]?:=rfl;rw[e2]at this;rw[this]
def jE{t e:r4}{items:Array Hn}{vl k:Hn}{b c:ti}{Q:Hn->Hq->Prop}(d:IsTup s.heap t items)(l:s.heap.IsSliceOf e vl k .none)(pl:IsPart vl b)(n:IsPart k c)
 (hw:¬(sIx items.size 0 b=0/\sIx items.size items.size c=items.size))
 (h:Q (.ref s.z) { s with heap:=s.heap.push { cls:=.type "tuple",data:=.seq ((items.toList.drop (sIx items.size 0 b)).take (sIx items.size items.size c-sIx items.size 0 b)).toArray } })
 (hsz:items.size<=HK):Hy (HI prog w) A (getItem (.ref t) (.ref e)) Q E s:=by
 let a:sizeOk (.seq ((items.toList.drop (sIx items.size 0 b)).take (sIx items.size items.size c-sIx items.size 0 b)).toArray):=by
  show((items.toList.drop (sIx items.size 0 b)).take (sIx items.size items.size c-sIx items.size 0 b)).toArray.size<=HK
  rw[HD,Iu,Jd,J0]
  omega
 let p:sIx items.size items.size c<=items.size:=DY _ _ (Hu _) c
 let[os,f,g,o]:=id l
 let i:s.TypeIs (.ref e) "slice":=#[os,f,g]
 unfold getItem
 try with_reducible refine IM ?_
 first|refine Hl (Hs ?_)|skip
 refine Hl (wpAny_sequenceKey d.typeIs ⋯ ?_)
 refine Hl (JT (name:=IW "__getitem__") d.typeIs PyProof.Rows.slot_tuple_getitem
  (JC PyProof.Rows.slot_tuple_getitem d.typeIs entry_tuple_getitem ?_ (args_tuple_getitem _ _)))
 show Hy _ _ (Builtin.Tuple.tupleItemsOf (.ref t) >>= _) _ _ s
 refine Hl (tupleItemsOf_ d ?_)
 refine Hl (wpAny_typeOf i ?_)
 rw[KI ⋯]
 refine Hl (j9 l pl n ?_)
 let j:¬((((sIx items.size 0 b:Nat):Int)==0&&(1:Int)==1&&(sIx items.size items.size c-sIx items.size 0 b)==items.size)=KD):=by
  intro q
  rw[Je,Je]at q
  let r:((sIx items.size 0 b:Nat):Int)=0:=eq_of_beq q.1.1
  let u:sIx items.size items.size c-sIx items.size 0 b=items.size:=eq_of_beq q.2
  exact hw #[(),()]
 show Hy _ _ (if(((sIx items.size 0 b:Nat):Int)==0&&(1:Int)==1&&(sIx items.size items.size c-sIx items.size 0 b)==items.size)=KD then _ else _) _ _ s
 rw[KH j,xN]
 first
  |exact Hl (m:=Builtin.Tuple.tupleExact _) (ID (Hs #[7,Hs h]) a)
  |exact Hl (m:=Builtin.Tuple.tupleExact _) (ID (Hl (Hs (Hs #[7,Hs h]))) a)
  |exact Hl (Hl (m:=Builtin.Tuple.tupleExact _) (ID (Hs (Hs #[7,Hs h])) a))
  |exact Hl (Hl (m:=Builtin.Tuple.tupleExact _) (ID (Hs #[7,Hs h]) a))
end
end HT
namespace L2
open PySem PySem.Spec PyProof.Rows
abbrev TO:=St->Hp->(ti->Hp->Prop)->Prop
def PO(X:Cx)(e:Option sg)(t:TO):Prop:=
 ∀(KQ:sm)(s:Hq)(σ:St)(H:Hp)(Q:ti->Hp->Prop),Inv X KQ σ H s->t σ H Q->
  Hy (HI X.prog X.w) X.A (evalPart e X.env) (λu b=>∃o a,Inv X KQ σ a b/\IsPart u o/\Q o a) X.xe s
def AV:TO:=λ_ H Q=>Q KC H
def F6(t:TE):TO:=λσ H Q=>t σ H λx H1=>∃i,x=.int i/\Q (KA i) H1
def intsAre_of{ns:sy}:∀{us:List Hn},Vals (ns.map V.int) us->Jk us ns:=by
 induction ns with
 |nil=>intro us r;rw[JF]at r;cases r;exact .nil
 |cons n ns a=>
  intro us r
  rw[HG]at r
  cases r with
  |cons b c=>
   let[t,e]:=b
   subst e
   exact .cons n t (a c)
section
variable{X:Cx}{e:sg}{te:TE}{lo hi:Option sg}{tl th:TO}{pos p2:Pos}
def Av:PO X KC AV:=by intro KQ s σ H Q I h;rw[evalPart_none];exact Hs #[KC,H,I,.none,h]
def A7(h:PE X e te):PO X (KA e) (F6 te):=by intro KQ s σ H Q I b;rw[evalPart_some];refine LS (h KQ s σ H _ I b) λu g a=>?_;let[x,H1,c,d,f]:=a;let[i,8,q]:=f;let[t,8]:=d;exact #[KA i,H1,c,.int i t,q]
def QW(X:Cx)(r:V->ti->ti->Hp->VK->Prop):Prop:=
 ∀(KQ:sm)(s:Hq)(σ:St)(H:Hp)(x:V)(v vl a:Hn)(lo hi:ti)(b:r4)(Q:VK),Inv X KQ σ H s->RelV x v->s.heap.IsSliceOf b vl a .none->IsPart vl lo->IsPart a hi->r x lo hi H Q->
  ∃T id,typeLookup (.type T) "__getitem__"=pure (KA (.builtin id))/\s.TypeIs v T/\Hy (HI X.prog X.w) X.A (getItem v (.ref b)) (EP X KQ σ Q) X.xe s
def QW.or{r a:V->ti->ti->Hp->VK->Prop}(h:QW X r)(h':QW X a):QW X (λx lo hi H Q=>r x lo hi H Q\/a x lo hi H Q):=by
 intro KQ s σ H x v vl b lo hi c Q I d f g i q;rcases q with q|q
 .exact h KQ s σ H x v vl b lo hi c Q I d f g i q
 .exact h' KQ s σ H x v vl b lo hi c Q I d f g i q
def ZJ(r:V->ti->ti->Hp->VK->Prop)(te:TE)(tl th:TO):TE:=λσ H Q=>te σ H λx H1=>tl σ H1 λl a=>th σ a λu b=>r x l u b Q
def wx{r:V->ti->ti->Hp->VK->Prop}(i:QW X r)(j:PE X e te)(k:PO X lo tl)(m:PO X hi th):PE X (.Subscript e (.Slice lo hi KC p2) pos) (ZJ r te tl th):=by intro KQ s σ H Q I h;refine Subscript_ (LS (j KQ s σ H _ I h) λv n c=>?_);let[x,H1,o,p,t]:=c;refine wpAny_Slice (LS (k KQ n σ H1 _ o t) λvl y ⟨l,z,B,C,D⟩=>LS (m KQ y σ z _ B D) λf a d=>?_);let[u,g,E,F,G]:=d;rw[evalPart_none];refine Hs ?_;let J:Inv X KQ σ g { a with heap:=a.heap.push { cls:=.type "slice",data:=.fields (List.toArray [vl,f,.none]) } }:=E.kept (t':=a.toks) λb N q=>Hr _ q;let[T,id,K,L,M]:=i KQ { a with heap:=a.heap.push { cls:=.type "slice",data:=.fields (List.toArray [vl,f,.none]) } } σ g x v vl f l u a.z Q J p (Heap.IsSliceOf.new ..) C F G;show Hy (HI X.prog X.w) X.A (subscriptTail e (.Slice lo hi KC p2) v (.ref a.z)) (EP X KQ σ Q) X.xe { a with heap:=a.heap.push { cls:=.type "slice",data:=.fields (List.toArray [vl,f,.none]) } };exact tail_any (ops:=[.ref a.z,v]) L K M (by with_unfolding_all rfl)
def qM(xs:vo)(lo hi:ti):vo:=(xs.drop (HT.sIx xs.length 0 lo)).take (HT.sIx xs.length xs.length hi-HT.sIx xs.length 0 lo)
def lh(xs:vo)(lo hi:ti):(qM xs lo hi).length<=xs.length:=by unfold qM;rw[Iu,Jd];omega
def GQ(K:Hm):V->ti->ti->Hp->VK->Prop:=λx lo hi H Q=>∃a xs,x=.ref a/\L7 K H a xs/\
 ¬(HT.sIx xs.length 0 lo=0/\HT.sIx xs.length xs.length hi=xs.length)/\∀p,H p=KC->Q (.ref p) (upd H p (.tup (qM xs lo hi)))
def C3:QW X (GQ X.K):=by
 intro KQ s σ H x v vl n lo hi p Q I i j k l h;let[a,xs,8,hx,m,q]:=h;cases i;let[d,r,f,g]:=I.tuple hx;let c:d.toArray.size=xs.length:=by rw[HD];exact r.length.symm
 exists "tuple",_,PyProof.Rows.slot_tuple_getitem.lookup,f.typeIs;refine HT.jE f j k l (by rw[c];exact m) ?_ (by rw[c];exact g);rw[c];refine #[.ref s.z,_,I.laid (t':=s.toks) (o:=.tup (qM xs lo hi)) (λb t q=>Hr _ q) (Hu _) ?_,8,q _ (I.hok.fresh (Hu _))];exact #[Iv (lh xs lo hi) g,_,(r.drop (HT.sIx xs.length 0 lo)).take (HT.sIx xs.length xs.length hi-HT.sIx xs.length 0 lo),IsTup.new _ _,QZ.new _ _]
def GB(K:Hm):R2:=λx y H Q=>∃a b ns c,x=.ref a/\y=.ref b/\L7 K H a (ns.map V.int)/\L7 K H b (c.map V.int)/\Q (.bl (HT.lexLt ns c)) H
def C8(g:X.A.units<IV):Lq X (Ik .Lt) (GB X.K):=by intro KQ s σ H x y v u Q I i j h;let[a,b,ns,f,8,8,k,l,q]:=h;cases i;cases j;let[d,m,n,_]:=I.tuple k;let[c,o,p2,_]:=I.tuple l;let p:Jk d.toArray.toList ns:=intsAre_of m;let r:Jk c.toArray.toList f:=intsAre_of o;exact HT.me n p2 p r g #[.bl (HT.lexLt ns f),H,I,8,q]
def Eu(K:Hm):R2:=λx y H Q=>∃a b xs c,x=.ref a/\y=.ref b/\L7 K H a xs/\L7 K H b c/\xs≠[]/\xs.length+c.length<=HK/\
 (c=[]->Q (.ref a) H)/\(c≠[]->∀p,H p=KC->Q (.ref p) (upd H p (.tup (xs++c))))
def Vals.pA{xs:vo}{us:List Hn}(r:Vals xs us):us=[]↔xs=[]:=by
 cases r with
 |nil=>simp
 |cons _ _=>simp
def AJ:Lq X (JL .Add) (Eu X.K):=by intro KQ s σ H x y v u Q I i j h;let[a,b,xs,k,8,8,l,m,hx,f,n,p]:=h;cases i;cases j;let[r,d,t,_]:=I.tuple l;let[g,c,p2,_]:=I.tuple m;refine HT.A9 t p2 (λz=>hx (d.pA.mp z)) (λz=>#[.ref a,H,I,8,n (c.pA.mp z)]) (λz=>?_) (by rw[<-d.length,<-c.length];exact f);refine #[.ref s.z,_,I.laid (t':=s.toks) (o:=.tup (xs++k)) (λb A q=>Hr _ q) (Hu _) ?_,8,p (λw=>z (c.pA.mpr w)) _ (I.hok.fresh (Hu _))];exact #[by rw[Io];exact f,_,d.append c,IsTup.new _ _,QZ.new _ _]
end
def ixN(n:Nat)(i:Int):Option Nat:=if 0<=i then(if i<n then KA i.toNat else KC)else if -(n:Int)<=i then KA (i+n).toNat else KC
def atI{a:Type}(xs:List a)(i:Int):Option a:=(ixN xs.length i).bind λj=>xs[j]?
def tH{n:Nat}{i:Int}{j:Nat}(h:ixN n i=KA j):seqIndex? i n=KA j/\j<n/\-(n:Int)<=i/\i<n:=by
 unfold ixN at h;by_cases h0:0<=i
 .rw[KI h0]at h;by_cases h1:i<n
  .rw[KI h1]at h;let e:i.toNat=j:=Option.some.inj h;exact #[by rw[seqIndex_of h0 h1,e],(),(),h1]
  .rw[KH h1]at h;cases h
 .rw[KH h0]at h;by_cases h1:-(n:Int)<=i
  .rw[KI h1]at h;let e:(i+n).toNat=j:=Option.some.inj h;exact #[by rw[seqIndex_neg () h1,e],(),h1,()]
  .rw[KH h1]at h;cases h
def oK{a:Type}{xs:List a}{i:Int}{v:a}(h:atI xs i=KA v):∃j,seqIndex? i xs.length=KA j/\xs[j]?=KA v/\j<xs.length/\-(xs.length:Int)<=i/\i<xs.length:=by
 unfold atI at h;cases e:ixN xs.length i with
 |none=>rw[e]at h;cases h
 |some j=>
  rw[e]at h
  let[h1,h2,b,c]:=tH e
  exact #[j,h1,h,h2,b,c]
def aW{a:Type}{xs:List a}{j:Nat}{v:a}(h:xs[j]?=KA v):atI xs (j:Int)=KA v:=by
 let b:j<xs.length:=(Hw.mp h).1;let e:ixN xs.length (j:Int)=KA j:=by unfold ixN;rw[KI (),KI ()];simp
 unfold atI;rw[e];exact h
def oU(b:sg):Prop:=∀o i,subscripted b KG o i=operate [o,i] (getItem o i)
def OH(X:Cx)(r:R2):Prop:=
 ∀(b a:sg)(KQ:sm)(s:Hq)(σ:St)(H:Hp)(x y:V)(v u:Hn)(Q:VK),Inv X KQ σ H s->RelV x v->RelV y u->r x y H Q->
  subscripted a KG v u=operate [v,u] (getItem v u)->Hy (HI X.prog X.w) X.A (subscriptTail b a v u) (EP X KQ σ Q) X.xe s
def Yi(X:Cx)(id:String)(r:V->vo->Hp->VK->Prop):Prop:=
 ∀(KQ:sm)(s:Hq)(σ:St)(H:Hp)(x:V)(xs:vo)(v:Hn)(us:List Hn)(Q:VK),Inv X KQ σ H s->RelV x v->Vals xs us->r x xs H Q->
  Hy (HI X.prog X.w) X.A (call (.builtin id) (v::us)) (EP X KQ σ Q) X.xe s
section
variable{X:Cx}{a b:sg}{ta tb:TE}{pos:Pos}
def OH.or{r e:R2}(h:OH X r)(h':OH X e):OH X (λx y H Q=>r x y H Q\/e x y H Q):=by
 intro c d KQ s σ H x y v u Q I f g q i;rcases q with q|q
 .exact h c d KQ s σ H x y v u Q I f g q i
 .exact h' c d KQ s σ H x y v u Q I f g q i
def EU{r:R2}(c:OH X r)(d:PE X a ta)(e:PE X b tb)(f:oU b):PE X (.Subscript a b pos) (Qf r ta tb):=by intro KQ s σ H Q I h;exact Subscript_ (CD d e I h λv u g x y i j k l q=>c a b KQ g σ i x y v u Q j k l q (f _ _))
def Gf(K:Hm):R2:=λx y H Q=>∃p xs i v,x=.ref p/\y=.int i/\L8 K H p xs/\atI xs i=KA v/\Q v H
def FG(K:Hm):R2:=λx y H Q=>∃p xs i v,x=.ref p/\y=.int i/\L7 K H p xs/\atI xs i=KA v/\Q v H
def EO:R2:=λx y H Q=>∃z i c,x=.str z/\y=.int i/\z.length<=HK/\atI z.cps.toList i=KA c/\Q (.str ⟨#[c]⟩) H
def Ap:OH X (Gf X.K):=by
 intro d e KQ s σ H x y v u Q I o A h m;let[p,xs,i,z,8,8,B,C,q]:=h;cases o;let[t,8]:=A;let[f,r,g,J]:=I.list B;let[j,h1,h2,L,D,E]:=oK C;let[w,n,k]:=r.get h2;let F:=r.length;let M:=kH;let c:EP X KQ σ Q w s:=#[z,H,I,k,q];by_cases h0:0<=i
 .have l:i.toNat=j:=by rw[seqIndex_of h0 E]at h1;exact Option.some.inj h1
  exact item_listR g.isList h0 () (by rw[l];simpa using n) c m
 .have l:(i+(f.toArray.size:Int)).toNat=j:=by rw[seqIndex_neg () D]at h1;rw[HD,<-F];exact Option.some.inj h1
  exact subscriptTail_builtinR (x:=w) g.isList.typeIs slot_list_getitem.lookup (wpAny_getItem_list_neg (Q:=λr G=>r=w/\EP X KQ σ Q r G) g.isList () (by rw[HD]<;>omega) () (by rw[l];simpa using n) #[8,c]) m
def D1:OH X (FG X.K):=by intro c d KQ s σ H x y v u Q I k l h m;let[p,xs,i,z,8,8,n,o,q]:=h;cases k;let[t,8]:=l;let[A,r,g,E]:=I.tuple n;let[j,h1,h2,F,G,J]:=oK o;let[w,B,e]:=r.get h2;let C:=r.length;let L:=kH;let f:EP X KQ σ Q w s:=#[z,H,I,e,q];exact subscriptTail_builtinR (x:=w) g.typeIs slot_tuple_getitem.lookup (getItem_tuple (j:=j) (Q:=λr D=>r=w/\EP X KQ σ Q r D) g () () (by rw[HD,<-C];exact h1) ‹B› #[8,f]) m
def D6:OH X EO:=by
 intro d e KQ s σ H x y v u Q I f g h k;let[z,i,c,8,8,p,l,q]:=h;let[t,8]:=f;let[r,8]:=g;let[j,h1,h2,w,m,n]:=oK l;let o:z.cps.toList.length=z.length:=by simp[Str.length]
 rw[o]at h1 m n;let A:=kH
 exact tail_any (typeIs_str s z t) slot_str_getitem.lookup (getItem_str (c:=c) (by
  let e1:decide (i < -(2^63:Int))=KG:=KJ ()
  let e2:decide (i≥2^63)=KG:=KJ ()
  rw[e1,e2,Bool.or_false]) (by rw[h1];simpa using h2) #[.str ⟨#[c]⟩,H,I.tok _,#[_,rfl],q]) k
def Yb(K:Hm):R2:=λx y H Q=>Gf K x y H Q\/FG K x y H Q\/EO x y H Q
theorem CY:OH X (Yb X.K):=Ap.or (D1.or D6)
def tD(its:List Hn)(n j:Nat)(u:Hn):IK (·.setIfInBounds j u) { cls:=.type "list",data:=.seq its.toArray n }={ cls:=.type "list",data:=.seq (its.set j u).toArray n }:=by simp[IK]
def Inv.lst{KQ:sm}{σ:St}{H:Hp}{s:Hq}{p:r4}{xs:vo}(I:Inv X KQ σ H s)(h:H p=KA (.lst xs)) : ∃(its:List Hn) (n:Nat),Vals xs its/\s.heap.get? p=KA { cls:=.type "list",data:=.seq its.toArray n }/\xs.length<=HK:=by let[z,its,n,r,e]:=I.hok p _ h;exact #[its,n,r,e,z]
def Inv.DC{KQ:sm}{σ:St}{H:Hp}{s:Hq}{p:r4}{xs ys:vo}{its its':List Hn}{n c:Nat}{f:Obj->Obj}(I:Inv X KQ σ H s)(h:H p=KA (.lst xs))
 (g:s.heap.get? p=KA { cls:=.type "list",data:=.seq its.toArray n }) (d:f { cls:=.type "list",data:=.seq its.toArray n }={ cls:=.type "list",data:=.seq its'.toArray c }) (r:Vals ys its') (hz:ys.length<=HK) (t:Nat) :
 Inv X KQ σ (upd H p (.lst ys)) { s with heap:=s.heap.update p f,toks:=t }:=by
 let e:(s.heap.update p f).get? p=KA { cls:=.type "list",data:=.seq its'.toArray c }:=by
  rw[JM f g (by rw[d]<;>rfl),d]
 refine I.write (x:=p) (e:=p) (by rw[h];trivial) (.inl rfl) (λb u i q=>(Jn _ _ (Ne.symm i)).trans q) #[_,e] ?_
 exact #[hz,its',c,r,e]
def EV:V->V->V->Hp->(Hp->Prop)->Prop:=λo i v H Q=>∃p xs k j,o=.ref p/\i=.int k/\H p=KA (.lst xs)/\ixN xs.length k=KA j/\Q (upd H p (.lst (xs.set j v)))
def set_list:Fw X EV:=by
 intro KQ s σ H o i v C D u Q I x y z h;let[p,xs,k,j,8,8,g,A,q]:=h;cases x;let[t,8]:=y;let[c,n,r,d,B]:=I.lst g;let[h1,h2,l,m]:=tH A;let e:=r.length;let E:=kH;let w:Inv X KQ σ (upd H p (.lst (xs.set j v))) { s with heap:=s.heap.update p (IK (·.setIfInBounds j u)) }:=I.DC g d (tD c n j u) (r.set z j) (by rw[List.length_set];exact B) s.toks;by_cases h0:0<=k
 .have f:k.toNat=j:=by rw[seqIndex_of h0 m]at h1;exact Option.some.inj h1
  exact PySem.W.ki_setAt d h0 () (by rw[HD,<-e];exact m) (by rw[f];exact #[_,w,q])
 .have f:(k+(c.toArray.size:Int)).toNat=j:=by rw[seqIndex_neg () l]at h1;rw[HD,<-e];exact Option.some.inj h1
  exact PySem.W.ki_setBack d () (by rw[HD,<-e];exact l) () (by rw[f];exact #[_,w,q])
def pI(c d:ti)(n:Nat):(sliceBounds c d KC n).1=((HT.sIx n 0 c:Nat):Int)/\(sliceBounds c d KC n).2.1=((HT.sIx n n d:Nat):Int)/\(sliceBounds c d KC n).2.2=1:=by
 refine #[?_,?_,rfl]
 .cases c with
  |none=>simp[sliceBounds,HT.sIx]
  |some i=>
   simp only[sliceBounds,HT.sIx,Option.getD_none,show(1:Int)>0 by decide,if_true]
   by_cases h:i<0
   .simp only[h,if_true]<;>omega
   .simp only[h,if_false]<;>omega
 .cases d with
  |none=>simp[sliceBounds,HT.sIx]
  |some i=>
   simp only[sliceBounds,HT.sIx,Option.getD_none,show(1:Int)>0 by decide,if_true]
   by_cases h:i<0
   .simp only[h,if_true]<;>omega
   .simp only[h,if_false]<;>omega
def nE(its:List Hn)(c d:ti):slicePick its.toArray c d KC=((its.drop (HT.sIx its.length 0 c)).take (HT.sIx its.length its.length d-HT.sIx its.length 0 c)).toArray:=by let[h1,h2,e]:=pI c d its.toArray.size;unfold slicePick;rw[h1,h2,e];simp only[sliceRange_one,pick_run,HD]<;>rfl
def GA(K:Hm):V->ti->ti->Hp->VK->Prop:=λx c d H Q=>∃a xs,x=.ref a/\L8 K H a xs/\∀p,H p=KC->Q (.ref p) (upd H p (.lst (qM xs c d)))
def AE:QW X (GA X.K):=by intro KQ s σ H x v vl n d e p Q I g i j k h;let[a,xs,8,hx,q]:=h;cases g;let[l,r,f,m]:=I.list hx;let c:=r.length;exists "list",_,slot_list_getitem.lookup,f.isList.typeIs;refine wpAny_getItem_list_slice f.isList i j k .none (_) ?_ (by rw[HD]<;>omega);rw[nE,<-c];refine #[.ref s.z,_,I.laid (t':=s.toks) (o:=.lst (qM xs d e)) (λb t q=>Hr _ q) (Hu _) ?_,8,q _ (I.hok.fresh (Hu _))];exact #[Iv (lh xs d e) m,_,0,(r.drop (HT.sIx xs.length 0 d)).take (HT.sIx xs.length xs.length e-HT.sIx xs.length 0 d),Hx _ rfl]
def pQ:bY X (.builtin "len") (λxs H Q=>∃p ys,xs=[.ref p]/\(L8 X.K H p ys\/L7 X.K H p ys)/\Q (.int ys.length) H):=by
 intro KQ s σ H xs us Q I r h;let[p,ys,8,d,q]:=h;let[u,8,i]:=vals1 r;cases i;let k:=kH;rcases d with d|d
 .obtain⟨e,f,g,j⟩:=I.list d;let c:=f.length;exact Calls.call_len_list g.isList (by simp only[HD]<;>omega) #[.int ys.length,H,I.tok _,#[s.toks+1,by rw[HD,c]],q]
 .obtain⟨e,f,g,j⟩:=I.tuple d;let c:=f.length;exact len_tuple g (by simp only[HD]<;>omega) #[.int ys.length,H,I.tok _,#[s.toks+1,by rw[HD,c]],q]
def bY.or{f:Hn}{r c:vo->Hp->VK->Prop}(h:bY X f r)(h':bY X f c):bY X f (λxs H Q=>r xs H Q\/c xs H Q):=by
 intro KQ s σ H xs us Q I d q;rcases q with q|q
 .exact h KQ s σ H xs us Q I d q
 .exact h' KQ s σ H xs us Q I d q
def oN:bY X (.type "list") (λxs H Q=>∃p ys,xs=[.ref p]/\(L8 X.K H p ys\/L7 X.K H p ys)/\∀l,H l=KC->Q (.ref l) (upd H l (.lst ys))):=by
 intro KQ s σ H xs us Q I r h;let[p,ys,8,i,q]:=h;let[u,8,z]:=vals1 r;cases z;let j:∀(c:List Hn),Vals ys c->ys.length<=HK->∀(d:r_)(f:Nat),(∀b y,s.heap.get? b=KA y->d.get? b=KA y)->d.get? s.z=KA { cls:=.type "list",dict:=KC,data:=.seq c.toArray f,slots:=#[] }->EP X KQ σ Q (.ref s.z) { s with heap:=d }:=λc g k d f kp e=>#[.ref s.z,_,I.laid (t':=s.toks) kp (Hu _) (show bO X.prog X.w _ d _ (.lst ys)from #[k,c,f,g,e]),8,q _ (I.hok.fresh (Hu _))];rcases i with i|i
 .obtain⟨c,g,t,k⟩:=I.list i;let m:=g.length;let[o,v,x,n,hd]:=t.isList;exact call_list_seq p (.inl rfl) v x hd (λd f kp e=>j c g k d f kp e) (by simp only[HD]<;>omega)
 .obtain⟨c,g,t,k⟩:=I.tuple i;let m:=g.length;let[o,v,x,n,hd]:=t;exact call_list_seq p (.inr rfl) v x hd (λd f kp e=>j c g k d f kp e) (by simp only[HD]<;>omega)
def nH:bY X (.type "tuple") (λxs H Q=>∃p ys,xs=[.ref p]/\((L8 X.K H p ys/\∀l,H l=KC->Q (.ref l) (upd H l (.tup ys)))\/(L7 X.K H p ys/\Q (.ref p) H))):=by
 intro KQ s σ H xs us Q I r h;let[p,ys,8,h]:=h;let[u,8,n]:=vals1 r;cases n;rcases h with⟨f,q⟩|⟨f,q⟩
 .obtain⟨c,g,i,j⟩:=I.list f;let k:=g.length;refine call_tuple_list i.isList (λd kp=>?_) (by simp only[HD]<;>omega);let m:Inv X KQ σ H { s with heap:=d }:=I.kept (t':=s.toks) kp;let t:Inv X KQ σ (upd H d.objs.size (.tup ys)) { s with heap:=d.push { cls:=.type "tuple",data:=.seq c.toArray } }:=m.laid (t':=s.toks) (λb o e=>Hr _ e) (Hu _) (show bO X.prog X.w _ _ _ (.tup ys)from #[j,c,g,IsTup.new _ _,QZ.new _ _]);exact #[.ref d.objs.size,_,t,8,q _ (m.hok.fresh (Hu _))]
 .obtain⟨c,g,i,j⟩:=I.tuple f;exact call_tuple_same i #[.ref p,H,I,8,q]
def Y9(K:Hm)(T:String)(x:V)(H:Hp):Prop:=match x with
 |.str _=>T="str"
 |.int _=>T="int"
 |.ref p=>(T="list"/\∃xs,L8 K H p xs)\/(T="tuple"/\∃o,K.lookup p=KA o/\o.cls=.type "tuple"/\o.dict=KC)\/
  (T="dict"/\((∃kvs,H p=KA (.dK kvs))\/∃kvs,H p=KA (.dT kvs)))\/(T="set"/\∃S n,H p=KA (.set S n))
 |_=>False
def Ek{KQ:sm}{σ:St}{H:Hp}{s:Hq}{T:String}{x:V}{v:Hn}(I:Inv X KQ σ H s)(r:RelV x v)(ty:Y9 X.K T x H) : s.TypeIs v T/\∀a,v=.ref a->∃f,s.heap.get? a=KA f/\f.dict=KC:=by
 cases x with
 |str z=>
  let[t,8]:=r
  cases (show T="str" from ty)
  exact #[typeIs_str s z t,λ_ e=>nomatch e]
 |int i=>
  let[t,8]:=r
  cases (show T="int" from ty)
  exact #[typeIs_int s i t,λ_ e=>nomatch e]
 |ref p=>
  cases r
  rcases ty with⟨rfl,xs,h⟩|⟨rfl,o,d,j,hd⟩|⟨rfl,d⟩|⟨rfl,S,n,d⟩
  .obtain⟨k,_,g,_⟩:=I.list h;refine #[g.isList.typeIs,λa e=>?_];cases e;let[o,n,e,c,hd,_]:=g;exact #[o,e,hd]
  .refine #[#[o,I.kIn p o d,j],λa e=>?_];cases e;exact #[o,I.kIn _ o d,hd]
  .have z:∃o,s.heap.get? p=KA o/\o.ExactDict:=by
    rcases d with⟨kvs,d⟩|⟨kvs,d⟩
    .obtain⟨_,_,_,_,o,_,_,e,ex,_⟩:=I.hok p _ d;exact #[o,e,ex]
    .obtain⟨_,_,_,_,o,_,_,e,ex,_⟩:=I.hok p _ d;exact #[o,e,ex]
   let[o,e,ex]:=z;refine #[#[o,e,ex.1],λa e2=>?_];cases e2;exact #[o,e,ex.2.1]
  .obtain⟨o,_,_,_,e,ex,_⟩:=I.hok p _ d;refine #[#[o,e,ex.1],λa e2=>?_];cases e2;exact #[o,e,ex.2.1]
 |_=>exact HS ty
def ZM(K:Hm)(T:String)(r:V->vo->Hp->VK->Prop)(to:TE)(t:TA):TE:=λσ H Q=>to σ H λx H1=>Y9 K T x H1/\t σ H1 λxs c=>r x xs c Q
variable{o e:sg}{es:tr}{to:TE}{t:TA}{name:Str}{apos KW:Pos}{T id:String}{r:V->vo->Hp->VK->Prop}
def Br(p:PlainAttrs T)(slot:Slot T name id)(k:typeOf (.builtin id)=pure (.type "method_descriptor"))(q:Yi X id r)(u:PE X o to)(w:PA X (e::es) t)
 (g:JO o name X.env (eval o X.env)=eval o X.env:=by rfl)
 (j:((IY KW (HC (e::es) X.env)).all (λx=>!x.1)&&(Ks KW (JK [] X.env)).all (λx=>x.1.isSome)
  && decide ((e::es).length+([]:List Keyword).length+(if([]:List Keyword).isEmpty then 0 else 1)<30))=KD:=by rfl)
 (i:(apos.endLine==KW.line)=KD:=by rfl) (y:HC (e::es) X.env=(KG,eval e X.env)::HC es X.env:=by rfl) (c:(IY KW (HC es X.env)).any (·.1)=KG:=by rfl) :
 PE X (.Call (.Attribute o name apos) (e::es) [] KW) (ZM X.K T r to t):=by
 intro KQ s σ H Q I h
 refine wpAny_Call_method_late g j i rfl (LS (u KQ s σ H _ I h) λv z d=>?_)
 let[x,H1,l,m,ty,A]:=d
 let[h1,h2]:=Ek l m ty
 exists T,id,p,slot,k,h1,h2
 let n:=w KW KQ z σ H1 _ l A
 rw[y]at n ⊢
 refine Calls.callWith_builtin (by show(KG||(IY KW (HC es X.env)).any (·.1))=KG;rw[c]<;>rfl) (Calls.evalArgs_plain ?_)
 exact LS n λus B f=>by let[vs,C,D,E,F]:=f;exact(q KQ B σ C x vs v us Q D m E F)
/- xs.append(e),list.index on a module's tuple .. are Yi facts of 06m -/
end
def Y3(X:Cx)(id:String)(r:V->vo->Hp->VK->Prop):Prop:=
 ∀(KQ:sm)(s:Hq)(σ:St)(H:Hp)(x:V)(xs:vo)(v:Hn)(us:List Hn)(Q:VK),Inv X KQ σ H s->RelV x v->Vals xs us->r x xs H Q->
  Hy (HI X.prog X.w) X.A (call (.builtin id) (v::us)) (EP X KQ σ Q) X.xe s
def Vals.one:∀{x:V}{us:List Hn},Vals [x] us->∃u,us=[u]/\RelV x u:=by
 intro x us h;cases h with
 |cons r t=>cases t;exact #[7,r]
def Vals.two:∀{x y:V}{us:List Hn},Vals [x,y] us->∃u v,us=[u,v]/\RelV x u/\RelV y v:=by
 intro x y us h;cases h with
 |cons r t=>
  cases t with
  |cons q n=>cases n;exact #[_,7,r,q]
theorem Vals.rep{xs:vo}{us:List Hn}(h:Vals xs us):∀k:Nat,Vals (Ic k xs).flatten (Ic k us).flatten
 |0=>.nil
 |k+1=>by
  rw[Js,Js,Kf,Kf]
  exact Vals.append h (Vals.rep h k)
theorem foldl_rep(its:List Hn):∀(k:Nat)(a:List Hn),
 List.foldl (λx1 x2=>x1++x2) a.toArray (Ic k its.toArray)=(a++(Ic k its).flatten).toArray
 |0,a=>by simp
 |k+1,a=>by
  let e:a.toArray++its.toArray=(a++its).toArray:=by simp
  let e2:(a++its)++(Ic k its).flatten=a++(Ic (k+1) its).flatten:=by
   rw[Js,Kf,List.append_assoc]
  rw[<-e2,<-foldl_rep its k (a++its),<-e,Js,List.foldl_cons]
section
variable{X:Cx}{KQ:sm}{σ:St}{H:Hp}{s:Hq}{l b:r4}{xs ys zs:vo}
def Inv.Gi{its its':List Hn}{n:Nat}{f:Array Hn->Array Hn}{t':Nat}(I:Inv X KQ σ H s)(a:H l=KA (.lst xs))
 (e:s.heap.get? l=KA { cls:=.type "list",data:=.seq its.toArray n }) (c:f its.toArray=its'.toArray) (hv:Vals ys its') (hz:ys.length<=HK) :
 Inv X KQ σ (upd H l (.lst ys)) { s with heap:=s.heap.update l (IK f),toks:=t' }:=by
 let q:=PySem.IsL.update e f
 rw[c]at q
 refine I.write (x:=l) (e:=l) (by rw[a];exact trivial) (.inl rfl) (λh u d g=>(Jn s.heap (IK f) (Ne.symm d)).trans g) #[_,q] ?_
 exact #[hz,its',_,hv,q]
theorem Inv.Ge{its:List Hn}{t':Nat}(I:Inv X KQ σ H s)(hv:Vals ys its)(hz:ys.length<=HK) : Inv X KQ σ (upd H s.z (.lst ys)) { s with heap:=s.heap.push { cls:=.type "list",data:=.seq its.toArray },toks:=t' }:=I.laid (λ_ _ q=>Hr _ q) (Hu _) #[hz,its,0,hv,Hx _ rfl]
theorem Inv.fresh(I:Inv X KQ σ H s):H s.z=KC:=I.hok.fresh (Hu _)
def Inv.pS(I:Inv X KQ σ H s)(a:H l=KA (.lst xs)):xs.length<=HK/\∃(its:List Hn) (n:Nat),Vals xs its/\xs.length=its.length/\s.heap.get? l=KA { cls:=.type "list",data:=.seq its.toArray n }:=by let[z,its,n,r,e]:=I.hok l _ a;exact #[z,its,n,r,r.length,e]
def xh{n:Nat}(h:n<=HK):Builtin.List.listTooLong n=KG:=by unfold Builtin.List.listTooLong;exact KJ ()
end
section
variable{X:Cx}
def zO:V->vo->Hp->VK->Prop:=λx vs H Q=>∃l xs y,x=.ref l/\vs=[y]/\H l=KA (.lst xs)/\xs.length<HK/\Q .non (upd H l (.lst (xs++[y])))
def jU:Y3 X "list.append" zO:=by intro KQ s σ H x vs v us Q I c d h;let[l,xs,y,8,8,b,g,q]:=h;cases c;let[u,8,f]:=d.one;let[z,a,n,r,i,e]:=I.pS b;refine call_meets F.slot_list_append #[_,e,rfl] F.entry_list_append (F.args_list_append_2 _ _) (PySem.list_append l a.toArray n u (by rw[HD];omega)) #[e,?_];refine #[.non,_,I.Gi (its':=a++[u]) b e (_) (r.append (.cons f .nil)) ?_,8,q];rw[Io,List.length_singleton];omega
def GU:R2:=λx y H Q=>∃l b xs a,x=.ref l/\y=.ref b/\H l=KA (.lst xs)/\H b=KA (.lst a)/\xs.length+a.length<=HK/\∀p,H p=KC->Q (.ref p) (upd H p (.lst (xs++a)))
def Dr:Lq X (JL .Add) GU:=by
 intro KQ s σ H x y v u Q I d f h;let[l,b,xs,k,8,8,g,hB,m,q]:=h;cases d;cases f;let[z,c,n,r,o,e]:=I.pS g;let[p,a,n2,i,j,e2]:=I.pS hB;refine PySem.P.add_list e e2 ?_ (by rw[HD,HD];omega);let ea:c.toArray++a.toArray=(c++a).toArray:=by simp
 rw[ea];exact #[.ref _,_,I.Ge (t':=s.toks) (r.append i) (by rw[Io];omega),8,q _ I.fresh]
def G6:R2:=λx y H Q=>∃l k xs,x=.ref l/\y=.int k/\H l=KA (.lst xs)/\-(2^63)<=k/\k<2^63/\xs.length*k.toNat<=HK/\
 ∀p,H p=KC->Q (.ref p) (upd H p (.lst (Ic k.toNat xs).flatten))
def len_rep{a:Type}(xs:List a)(k:Nat):(Ic k xs).flatten.length=k*xs.length:=by
 induction k with
 |zero=>simp
 |succ k b=>rw[Js,Kf,Io,b,Nat.succ_mul,Nat.add_comm]
def C2:Lq X (JL .Mult) G6:=by
 intro KQ s σ H x y v u Q I p w h;let[l,k,xs,8,8,A,h1,h2,o,q]:=h;cases p;let[t,8]:=w;let[z,b,n,r,B,e]:=I.pS A;let d:b.toArray.size*k.toNat<=HK:=by rw[HD,<-B];exact o
 let f:¬b.toArray.size*k.toNat>(2^63-1)/8:=by
  have:(HK:Nat)<=(2^63-1)/8:=⋯
  omega
 let g:¬(!Builtin.List.listFitsIndex k)=KD:=by rw[fitsIndex_both h1 h2];exact HF
 let c:¬Builtin.List.listTooLong (b.toArray.size*k.toNat)=KD:=by rw[xh d];exact HF
 let i:List.foldl (λx1 j=>x1++j) #[] (Ic (if b.toArray.isEmpty=KD then 0 else k.toNat) b.toArray)=(Ic k.toNat b).flatten.toArray:=by
  let C:∀m:Nat,List.foldl (λx1 j=>x1++j) #[] (Ic m b.toArray)=(Ic m b).flatten.toArray:=λm=>by
   have:=foldl_rep b m []
   rw[List.nil_append]at this
   exact this
  rw[C]
  cases b with
  |nil=>simp
  |cons a E=>rw[KH (_)]
 refine wpAny_binaryOp_repeat_ref (T:="list") (U:="int") ⋯ #[_,e,rfl] (λD=>typeIs_int D k t) noFill_list_mul F.fills_int_mul F.slot_int_rmul repeat_list F.slot_int_index.lookup
  (call_meets F.slot_int_rmul (typeIs_int s k t) F.entry_int_rmul (F.args_int_rmul_2 _ _) (int___rmul___int_list k t l b.toArray n)
   #[e,8,#[_,e,rfl],call_meets F.slot_list_mul #[_,e,rfl] F.entry_list_mul (F.args_list_mul_2 _ _) (AutoListH.list___mul___list_int_3 l b.toArray n k t g f c) #[e,?_]])
 rw[i];exact #[.ref _,_,I.Ge (t':=s.toks) (r.rep k.toNat) (by rw[len_rep,Nat.mul_comm];exact o),8,q _ I.fresh]
end
end L2
namespace Att
open PySem PySem.W PySem.Calls PyProof.Rows
def lM{P:HN}{h:r_}:∀(ns:sy)(vs:List Hn),WellAll P h vs (ns.map WData.int)->Jk vs ns:=by
 intro ns
 induction ns with
 |nil=>
  intro vs w
  rw[JF]at w
  cases w
  exact .nil
 |cons n ns c=>
  intro vs w
  rw[HG]at w
  cases w with
  |cons a b=>
   cases a
   exact .cons _ _ (c _ b)
def uN{l:OpenLaw}{n:Nat}(o:l.most=KA n){P:HN}{h:r_}{args:List WData}{b:List Hn}
 (c:l.row.toRowW.claim.pre args=KD) (j:WellAll P h b args) :
 ∃a vs ns,b=[II a]/\args=[WData.list (ns.map WData.int)]/\h.get? a=KA { cls:=.type "list",data:=.seq vs.toArray }/\Jk vs ns/\ns.length<=n:=by
 let k:WShape.hasAll [] args [.list .int]=KD:=(pre_splitW c).1
 let m:l.pre.holds [] { args:=args }=KD:=(pre_splitW c).2
 let[d,r,8,h1,h2]:=hasAllW_cons k
 obtain rfl:=hasAllW_nil h2
 let[xs,8,p]:=hasW_list h1
 let[ns,8]:=items_int p
 let e:ns.length<=n:=by
  unfold OpenLaw.pre at m
  let g:(WTm.not (.lt (.lit (.int (n:Int))) (.len (.arg 0)))).holds [] { args:=[.list (ns.map .int)] }=KD:=by
   let g:=(holds_andW m).1
   rw[o]at g
   exact g
  let i:=condW_of g (w_not (w_lt w_lit (w_len_list (w_arg rfl))))
  rw[Ho]at i
  refine Nat.le_of_not_lt λq=>?_
  let s:(n:Int)<((ns.length:Nat):Int):=()
  first
   |(rw[KL s]at i;exact absurd i ⋯)
   |(simp at i;omega)
 cases j with
 |cons t u=>
  cases u
  cases t with
  |list v f=>exact #[_,_,ns,8,8,v,lM ns _ f,e]
theorem wg(l:OpenLaw)(args:List WData):l.row.toRowW.claim.post args (.bool KD) args=KD:=
 postW_of (r:=l.row.toRowW) (X:=(KD==KD))
  (show WShape.has [] (.bool KD) .bool=KD by first|rfl|decide|simp[WShape.has,WShape.arms,WShape.armsAll])
  (show(WTm.eq .res (.lit (.bool KD))).value [] { args:=args,res:=KA (.bool KD),after:=args }=KA (.bool (KD==KD))from w_eq_bool (w_res rfl) w_lit) rfl
def qf{l:OpenLaw}{n:Nat}{q:HL}{c:u_}{x:(Str->Option Hn)->r_->Prop}{y:Il->r_->Prop}{d:DefRec}
 (C:l.most=KA n) (m:d.params.defaults=[])
 (call:∀(w:Il)(s₀ b:Hq)(mg p:Str->Option Hn)(fa:r4)(o:Obj)(s cd e:Hn)(a:r4)(vs:List Hn)(ns:sy),
  Ground q c [] x w s₀ mg p b.heap->y w b.heap->
  b.heap.get? fa=KA o->o.data=.func (docDef d.name d.params d.body d.scope s cd e)->b.heap.CodeRec cd d.name->mg d.name=KA (.ref fa)->
  b.heap.get? a=KA { cls:=.type "list",data:=.seq vs.toArray }->Jk vs ns->ns.length<=n->b.gens=#[]->
  JE (HI l.prog w) callerA (.call (.ref fa) #[[.ref a],[]]) (λr k=>r=.ok (.ret (.bool KD))/\OldK b.heap k.heap/\k.os=b.os/\AllBare k.gens) b) :
 WalkO q c x y l.row.toRowW d [] (λf vs=>PySem.call f vs):=by
 intro w s₀ b mg p G Y fa o s cd e D kV E hd t z u F args A N h B H v I
 obtain rfl:D=.none:=Dflts.none z m
 obtain rfl:kV=.none:=Dflts.noKw z
 let[a,vs,ns,8,8,i,g,j]:=uN C h v
 refine enter_call (codeAny_mono (call w s₀ b mg p fa o s cd e a vs ns G Y E (fd_plain hd) t u i g j F) λr k J=>?_)
 let[8,h2,K,L]:=J
 exact #[.inl #[.bool KD,.bool KD,[],8,λ_=>rfl,.bool KD,wg l _,λ_=>#[List.Pairwise.nil,λ_ M=>(nomatch M)]],h2,K,L]
section
variable{prog:HL}{w:Il}{A:Ig}{E:Hn->Hq->Prop}{s:Hq}{K:Frag}
end
end Att
namespace L2
open PySem PySem.Spec PyProof.Rows
theorem iA:∀{vs:List Hn}{ns:sy},Jk vs ns->Vals (ns.map V.int) vs
 |_,_,.nil=>.nil
 |_,_,.cons n t h=>.cons #[t,rfl] (iA h)
abbrev KOf{K:Hm}{h:r_}(_:K.In h):Hm:=K
def aY(s:r8):Arguments:=match s with
 |.FunctionDef _ a _ _ _ _ _ _ _ _=>a
 |_=>{ posonlyargs:=[],args:=[],vararg:=KC,kwonlyargs:=[],kw_defaults:=[],kwarg:=KC,defaults:=[] }
def aN(s:r8):tq:=match s with
 |.FunctionDef _ _ b _ _ _ _ _ _ _=>b
 |_=>[]
def ar(s:r8):JB:=match s with
 |.FunctionDef _ _ _ _ _ _ sc _ _ _=>sc
 |_=>{ kind:=.function,names:=[],isGenerator:=KG,isCoroutine:=KG }
abbrev MY:QB:=λ_ _ _ _ _ _=>False
abbrev E0:XK:=λ_ _ _=>False
theorem ux{X:Cx}:Passes MY X E0:=λ_ _ _ _ _ _ _ h=>h.elim
structure Pn(K:Hm)(x qual:Str)(st:r8)(f:r4)(fd:FuncData):Prop where
 ex:∃(oc:Hn) (od:Option r4) (kV doc pm:Hn) (an:Option r4) (cdv ct:Hn) (osl:Array (Option Hn)),
  fd=IH x qual (aY st) (aN st) (ar st) .none kV doc pm an cdv ct/\K.lookup f=KA #[oc,od,.func fd,osl]/\JR K cdv qual=KD
 kp:J5 K (.ref f)=KD
section
variable{P:HL}{w:Il}{K:Hm}{mg:Str->Option Hn}{base:r_}
def Pn.ok{x qual:Str}{st:r8}{f:r4}{fd:FuncData}{N ps:u_}{k:Nat}{sp:Sp}(F:Pn K x qual st f fd)(S:LN N ps (ar st))(len:∀vs H Q E,sp vs H Q E->vs.length=ps.length)
 (a:∀(cdv:Hn)(A:Ig)(outer:List Env)(s:Hq)(H:Hp)(vs:vo)(Q:VK)(E:XK),LU k (A.deeper (Kl qual (ar st) s.z f cdv))->sp vs H Q E->
  ∃t,NY (hW MY P w K mg base N qual (ar st) f cdv A outer s H E).nox (aN st) t/\t { nx:=λ_ d=>Q .non d,rt:=Q } (start N vs) H):Ll P w K mg base MY (k+1) f fd ps sp:=by
 let[oc,od,kV,e,j,an,cdv,ct,osl,8,g,b]:=F.ex
 refine Bn g b S len λA outer s H vs Q E i c=>?_
 let[t,h,q]:=a cdv A outer s H vs Q E i c
 exact #[t,h.nox,q]
def Pn.binds{x qual:Str}{st:r8}{f:r4}{fd:FuncData}{ps:u_}(F:Pn K x qual st f fd) (h:∀(kV a b:Hn)(an:Option r4)(cdv ct:Hn)(us:List Hn),us.length=ps.length->Kc (IH x qual (aY st) (aN st) (ar st) .none kV a b an cdv ct) #[us,[]]=pure (ps.zip us)):Binds K fd ps []:=by let[oc,od,kV,a,b,an,cdv,ct,osl,8,d,c]:=F.ex;exact .all (h kV a b an cdv ct)
theorem pR{x qual:Str}{st:r8}{f:r4}{oc:Hn}{od an:Option r4}{osl:Array (Option Hn)}{kV a b cdv ct:Hn}(l:K.lookup f=KA #[oc,od,.func (IH x qual (aY st) (aN st) (ar st) .none kV a b an cdv ct),osl]) (c:JR K cdv qual=KD) (k:J5 K (.ref f)=KD):Pn K x qual st f (IH x qual (aY st) (aN st) (ar st) .none kV a b an cdv ct):=#[#[oc,od,kV,a,b,an,cdv,ct,osl,8,l,c],k]
end
def oJ{A B:Prop}(h:A):if KD=KD then A else B:=by rw[KI rfl];exact h
def aZ{c A B:Prop}[Decidable c](h1:c->A)(h2:¬c->B):if c then A else B:=by
 by_cases h:c
 .rw[KI h];exact h1 h
 .rw[KH h];exact h2 h
section
variable{κ:Type}[DecidableEq κ]
def fY(kvs:List (κ×V))(k:κ):Option V:=(kvs.find? λa=>decide (a.1=k)).map (·.2)
def putK(kvs:List (κ×V))(k:κ)(v:V):List (κ×V):=
 if(kvs.any λa=>decide (a.1=k))=KD then kvs.map (λa=>if a.1=k then(a.1,v)else a)else kvs++[(k,v)]
def cm{p:κ×V}{r:List (κ×V)}{k:κ}(e:p.1=k):fY (p::r) k=KA p.2:=by simp[fY,Ie,e]
def cj{p:κ×V}{r:List (κ×V)}{k:κ}(e:¬p.1=k):fY (p::r) k=fY r k:=by simp[fY,Ie,e]
theorem ff(k:κ):∀kvs:List (κ×V),(kvs.any λa=>decide (a.1=k))=(fY kvs k).isSome
 |[]=>rfl
 |p::r=>by
  rw[K1]
  by_cases e:p.1=k
  .simp only[cm e,KL e,Bool.true_or,Option.isSome_some]
  .rw[cj e,KJ e,Bool.false_or];exact ff k r
theorem qg(k j:κ)(y:V):∀kvs:List (κ×V),fY (kvs.map λa=>if a.1=k then(a.1,y)else a) j=(fY kvs j).map λx=>if j=k then y else x
 |[]=>rfl
 |p::r=>by
  let b:=qg k j y r
  rw[HG]
  by_cases h:p.1=k
  .rw[KI h]
   by_cases e:p.1=j
   .rw[cm (p:=(p.1,y)) e,cm e,Option.map_some,KI (e.symm.trans h)]
   .rw[cj (p:=(p.1,y)) e,cj e,b]
  .rw[KH h]
   by_cases e:p.1=j
   .rw[cm (p:=p) e,cm e,Option.map_some,KH (λz=>h (e.trans z))]
   .rw[cj (p:=p) e,cj e,b]
theorem nS(k j:κ)(y:V):∀kvs:List (κ×V),fY kvs k=KC->fY (kvs++[(k,y)]) j=if j=k then KA y else fY kvs j
 |[],_=>by
  by_cases e:k=j
  .rw[KI e.symm];exact cm (p:=(k,y)) e
  .rw[KH (λz=>e z.symm)];exact cj (p:=(k,y)) e
 |p::r,hn=>by
  rw[List.cons_append]
  let a:¬p.1=k:=λz=>by rw[cm z]at hn;cases hn
  rw[cj a]at hn
  let b:=nS k j y r hn
  by_cases e:p.1=j
  .rw[cm e,cm e,KH (λz=>a (e.trans z))]
  .rw[cj e,cj e,b]
def yc(kvs:List (κ×V))(k j:κ)(y:V):fY (putK kvs k y) j=if j=k then KA y else fY kvs j:=by
 unfold putK;by_cases a:(kvs.any λb=>decide (b.1=k))=KD
 .rw[KI a,qg];rw[ff]at a;by_cases e:j=k
  .obtain⟨x,hx⟩:=Option.isSome_iff_exists.mp a;rw[KI e,e,hx,Option.map_some,KI rfl]
  .rw[KH e];cases fY kvs j with
   |none=>rfl
   |some x=>rw[Option.map_some,KH e]
 .rw[KH a];refine nS k j y kvs ?_;rw[ff]at a;cases q:fY kvs k with
  |none=>rfl
  |some x=>rw[q]at a;exact(a rfl).elim
def ig(kvs:List (κ×V))(k:κ)(v:V):(putK kvs k v).length<=kvs.length+1:=by
 unfold putK;split
 .rw[Ho];omega
 .rw[Io,Ih,List.length_nil];omega
def jC.jY{o:Option V}{u:Option Hn}(r:jC o u):o.isSome=u.isSome:=by
 cases o with
 |none=>cases u with
  |none=>rfl
  |some _=>exact(show False from r).elim
 |some _=>cases u with
  |none=>exact(show False from r).elim
  |some _=>rfl
def KV.val{kvs:List (κ×V)}{vs:List (κ×Hn)}(r:KV kvs vs)(k:κ):jC (fY kvs k) (valueAt vs k):=by
 unfold KV at r
 induction r with
 |nil=>exact JA
 |@cons p q ps qs h t ih=>
  let[h1,h2]:=h
  by_cases e:p.1=k
  .have a:q.1=k:=h1.symm.trans e;let b:valueAt (q::qs) k=KA q.2:=by simp[valueAt,Ie,a]
   rw[cm e,b];exact h2
  .have a:¬q.1=k:=λz=>e (h1.trans z);let b:valueAt (q::qs) k=valueAt qs k:=by simp[valueAt,Ie,a]
   rw[cj e,b];exact ih
def KV.any{kvs:List (κ×V)}{vs:List (κ×Hn)}(r:KV kvs vs)(k:κ):(kvs.any λa=>decide (a.1=k))=vs.any λa=>decide (a.1=k):=by
 unfold KV at r
 induction r with
 |nil=>rfl
 |cons h t b=>rw[K1,K1,b,h.1]
def KV.CH{kvs:List (κ×V)}{vs:List (κ×Hn)}(r:KV kvs vs)(k:κ){y:V}{u:Hn}(b:RelV y u) :
 KV (kvs.map λa=>if a.1=k then(a.1,y)else a) (vs.map λa=>if a.1=k then(a.1,u)else a):=by
 unfold KV at r ⊢
 induction r with
 |nil=>exact .nil
 |@cons p q ps qs h t ih=>
  rw[HG,HG]
  refine .cons ?_ ih
  let[h1,h2]:=h
  by_cases e:p.1=k
  .rw[KI e,KI (h1.symm.trans e)];exact #[h1,b]
  .rw[KH e,KH (λz=>e (h1.trans z))];exact #[h1,h2]
def KV.put{kvs:List (κ×V)}{vs:List (κ×Hn)}(r:KV kvs vs)(k:κ){y:V}{u:Hn}(a:RelV y u):KV (putK kvs k y) (stored vs k u):=by
 unfold putK stored;rw[r.any k];by_cases e:(vs.any λb=>decide (b.1=k))=KD
 .rw[KI e,KI e];exact r.CH k a
 .rw[KH e,KH e];exact Paired.snoc r #[8,a]
theorem KV.length{kvs:List (κ×V)}{vs:List (κ×Hn)}(r:KV kvs vs):kvs.length=vs.length:=Paired.length r
end
def wD{P:HL}{w:Il}{k:Key}{u:Hn}(r:RelV (kV k) u):(b8 P w).is k u=KD:=by
 cases k with
 |inl i=>let[t,e]:=(show ∃t,u=Value.int i t from r);subst e;exact qW P w i t
 |inr x=>let[t,e]:=(show ∃t,u=Value.str x t from r);subst e;exact qR P w x t
theorem ot{P:HL}{w:Il}:∀{ks:List Key}{us:List Hn},Vals (ks.map kV) us->ItemsAre (b8 P w) ks us
 |[],_,r=>by rw[JF]at r;cases r;exact .nil
 |k::ks,_,r=>by
  rw[HG]at r
  cases r with
  |cons h t=>exact .cons (wD h) (ot t)
abbrev KT(H:Hp):List (List Key×V)->List (List Key×r4×Hn)->Prop:=Kt λp q=>p.1=q.1/\H q.2.1=KA (.tup (p.1.map kV))/\RelV p.2 q.2.2
def KT.val{H:Hp}{kvs:List (List Key×V)}{xs:List (List Key×r4×Hn)}(r:KT H kvs xs)(k:List Key):jC (fY kvs k) ((atKey xs k).map (·.2)):=by
 induction r with
 |nil=>exact JA
 |@cons p q ps qs h t ih=>
  let[h1,_,h2]:=h
  by_cases e:p.1=k
  .have a:q.1=k:=h1.symm.trans e;let b:atKey (q::qs) k=KA q.2:=by simp[atKey,Ie,a]
   rw[cm e,b];exact h2
  .have a:¬q.1=k:=λz=>e (h1.trans z);let b:atKey (q::qs) k=atKey qs k:=by simp[atKey,Ie,a]
   rw[cj e,b];exact ih
def KT.CH{H:Hp}{kvs:List (List Key×V)}{xs:List (List Key×r4×Hn)}(r:KT H kvs xs)(k:List Key){y:V}{u:Hn}(b:RelV y u) :
 KT H (kvs.map λa=>if a.1=k then(a.1,y)else a) (xs.map (putAt k u)):=by
 induction r with
 |nil=>exact .nil
 |@cons p q ps qs h t ih=>
  rw[HG,HG]
  refine .cons ?_ ih
  let[h1,h2,c]:=h
  unfold putAt
  by_cases e:p.1=k
  .rw[KI e,KI (h1.symm.trans e)];exact #[h1,h2,b]
  .rw[KH e,KH (λz=>e (h1.trans z))];exact #[h1,h2,c]
def KT.put{H:Hp}{kvs:List (List Key×V)}{xs:List (List Key×r4×Hn)}(r:KT H kvs xs)(k:List Key){b:r4}{y:V}{u:Hn}(c:H b=KA (.tup (k.map kV)))(a:RelV y u) :
 KT H (putK kvs k y) (storedH xs k b u):=by
 let e:(kvs.any λd=>decide (d.1=k))=(atKey xs k).isSome:=by
  rw[ff,(r.val k).jY,Option.isSome_map]
 unfold putK storedH
 rw[e]
 by_cases q:(atKey xs k).isSome=KD
 .rw[KI q,KI q];exact r.CH k a
 .rw[KH q,KH q];exact Paired.snoc r #[8,c,a]
theorem KT.keeps{H a:Hp}{kvs:List (List Key×V)}{xs:List (List Key×r4×Hn)}(r:KT H kvs xs)(c:∀b ys,H b=KA (.tup ys)->a b=KA (.tup ys)):KT a kvs xs:=Paired.Fi r λ_ _ z=>#[z.1,c _ _ z.2.1,z.2.2]
section
variable{P:HL}{w:Il}{H:Hp}{h:r_}{a:r4}
theorem By{u:HO}(ok:MC P w H h)(e:Rd H a u):bO P w H h a u:=e.ok ok
theorem BA{kvs:List (Key×V)}(ok:MC P w H h)(e:Rd H a (.dK kvs)):kvs.length<=HK/\(a==Jz)=KG/\∃vs,KV kvs vs/\h.DictOf (b8 P w) a vs:=show bO P w H h a (.dK kvs)from By ok e
theorem Ew{kvs:List (Key×V)}(ok:MC P w H h)(e:H a=KA (.dK kvs)):kvs.length<=HK/\(a==Jz)=KG/\∃vs,KV kvs vs/\h.DictOf (b8 P w) a vs:=BA ok (.inl e)
def rP{ks:List Key}(ok:MC P w H h)(e:H a=KA (.tup (ks.map kV))):(tupleKind (b8 P w)).is h ks a:=by obtain⟨_,b,r,⟨o,h1,h2,n,c⟩,_⟩:=(show bO P w H h a (.tup (ks.map kV))from ok a _ e);exact #[o,b.toArray,n,h1,h2,c,‹ot r›]
def Bz{kvs:List (List Key×V)}(ok:MC P w H h)(e:Rd H a (.dT kvs)):kvs.length<=HK/\(a==Jz)=KG/\
 ∃xs,KT H kvs xs/\h.DictOfH (tupleKind (b8 P w)) a xs:=by
 let[z,y,xs,r,o,b,c,h1,h2,d,f,g]:=(show bO P w H h a (.dT kvs)from By ok e)
 refine #[z,y,xs,r,o,b,c,h1,h2,d,f,λx hx=>?_,g]
 let all:∀{l:List (List Key×V)} {m:List (List Key×r4×Hn)},KT H l m->∀x∈m,(tupleKind (b8 P w)).is h x.1 x.2.1:=by
  intro l m q
  induction q with
  |nil=>intro x hx;exact nomatch hx
  |@cons p q ps qs hq t ih=>
   intro x hx
   rcases Iw.mp hx with e|hx
   .subst e
    exact rP ok (by rw[<-hq.1];exact hq.2.1)
   .exact ih x hx
 exact all r x hx
theorem FV{kvs:List (List Key×V)}(ok:MC P w H h)(e:H a=KA (.dT kvs)):kvs.length<=HK/\(a==Jz)=KG/\∃xs,KT H kvs xs/\h.DictOfH (tupleKind (b8 P w)) a xs:=Bz ok (.inl e)
end
def DU(H:Hp)(a:r4)(y:V)(r:Option V):Prop:=
 (∃kvs k,Rd H a (.dK kvs)/\y=kV k/\r=fY kvs k)\/∃kvs k b,Rd H a (.dT kvs)/\y=.ref b/\H b=KA (.tup (k.map kV))/\r=fY kvs k
def EZ(H:Hp)(a:r4)(y v:V)(c:Hp):Prop:=
 (∃kvs k,H a=KA (.dK kvs)/\y=kV k/\kvs.length<HK/\c=upd H a (.dK (putK kvs k v)))\/
 ∃kvs k b,H a=KA (.dT kvs)/\y=.ref b/\H b=KA (.tup (k.map kV))/\kvs.length<HK/\c=upd H a (.dT (putK kvs k v))
section
variable{X:Cx}{KQ:sm}{σ:St}{H:Hp}{s:Hq}{a:r4}{y v:V}{u r:Hn}{o:Option V}{A:Ig}{E:Hn->Hq->Prop}
def Inv.big(I:Inv X KQ σ H s):Jz<s.z:=by let h:IA<s.z:=(I.mod.glob.keeps I.bk).lt;exact Nat.lt_trans ⋯ h
def Am{Q:Hn->Hq->Prop}(m:A.units+1<IV)(I:Inv X KQ σ H s)(g:DU H a y o)(i:RelV y u)(h:∀j,Inv X KQ σ H j->Q (.bool (!o.isSome)) j) : Hy (HI X.prog X.w) A (Ik .NotIn u (.ref a)) Q E s:=by
 rcases g with⟨kvs,k,e,d,l⟩|⟨kvs,k,b,e,d,eb,l⟩
 .subst d;let[z,hd,vs,c,f]:=BA I.hok e;refine wpAny_notIn_of (wD i) hd f.mapOf ?_;rw[<-(c.val k).jY,<-l];exact h _ (I.tok _)
 .subst d;cases (show u=II b from i);let[z,hd,xs,c,f]:=Bz I.hok e;refine wpAny_notIn_heap (tupleKind_room_in1 m) (rP I.hok eb) hd f ?_;let q:=(c.val k).jY;rw[Option.isSome_map]at q;rw[<-q,<-l];exact h _ (I.tok _)
theorem jP{h':r_}{t':Nat}{c:HO}(I:Inv X KQ σ H s)(d:WS (H a))(f:JD a s.heap h')(g:∃q,h'.get? a=KA q)(new:bO X.prog X.w (upd H a c) h' a c) : Inv X KQ σ (upd H a c) { s with heap:=h',toks:=t' }:=I.write (x:=a) (e:=a) d (.inl rfl) (λb q h z=>(f.2 b h).trans z) g new
theorem Dh{P:HL}{w:Il}{c:Hp}{h':r_}{kvs:List (Key×V)}{vs:List (Key×Hn)}(z:kvs.length<=HK)(hd:(a==Jz)=KG)(b:KV kvs vs)(d:h'.DictOf (b8 P w) a vs) : bO P w c h' a (.dK kvs):=#[z,hd,vs,b,d]
def vO{B:Hp}{Q:Unit->Hq->Prop}(K:A.units+1<IV)(I:Inv X KQ σ H s)(g:EZ H a y v B)(C:RelV y u)(D:RelV v r)(h:∀F,Inv X KQ σ B F->Q .unit F) : Hy (HI X.prog X.w) A (setItem (.ref a) u r) Q E s:=by
 rcases g with⟨kvs,k,e,j,l,m⟩|⟨kvs,k,b,e,j,eb,l,m⟩
 .subst j m;let[z,hd,vs,d,n]:=Ew I.hok e;let p:vs.length<=HK:=by rw[<-d.length];exact z
  let t:(putK kvs k v).length<=HK:=by have:=ig kvs k v;omega
  refine wpAny_setItem_pairs (hsz:=p) (wD C) n λG f x=>h _ ?_;let L:∃q,G.get? a=KA q:=let⟨q,_,_,i,_⟩:=f;#[q,i]
  exact jP I (by rw[e];exact JA) x L (Dh t hd (d.put k D) f)
 .subst j m;cases (show u=II b from C);let[z,hd,xs,d,n]:=FV I.hok e;let p:xs.length<=HK:=by rw[<-Paired.length d];exact z
  let t:(putK kvs k v).length<=HK:=by have:=ig kvs k v;omega
  refine wpAny_setItem_heap (hsz:=p) (tupleKind_room_in1 K) (rP I.hok eb) n λG f x=>h _ ?_;let[q,M,N,i,h2,O,P,_,R]:=f;refine jP I (by rw[e];exact JA) x #[q,i] #[t,hd,_,(d.put k eb D).keeps λc S J=>?_,q,M,N,i,h2,O,P,R];rw[aG (Gh J e (λz=>nomatch z))];exact J
end
def F3(i:sg):Prop:=∀a b,subscripted i KG a b=operate [a,b] (getItem a b)
def Bk(ty c:TE):TE:=λσ H Q=>ty σ H λy H1=>c σ H1 λx b=>∃a o,x=.ref a/\DU b a y o/\Q (.bl (!o.isSome)) b
def FX(c ty d:TE):TS:=λD σ H=>d σ H λv H1=>c σ H1 λx e=>ty σ e λy f=>∃a b,x=.ref a/\EZ f a y v b/\D.nx σ b
section
variable{X:Cx}{o i e value:sg}{pos pos' KS:Pos}{td ty tv:TE}
def vb(b:X.A.units+1<IV)(c:PE X i ty)(d:PE X o td):PC X .NotIn i o (Bk ty td):=by intro KQ s σ H Q I h;refine LS (c KQ s σ H _ I h) λv f ⟨y,H1,j,k,l⟩=>LS (d KQ f σ H1 _ j l) λu w ⟨x,m,n,p,a,q,ex,g,r⟩=>?_;subst ex;obtain rfl:u=II a:=p;exact Am b n g k λz t=>#[.bl (!q.isSome),m,t,8,r]
def Bh(b:X.A.units+1<IV)(c:PE X o td)(d:PE X i ty)(hv:PE X value tv)(f:JH value (KA (.Subscript o i pos')) pos.line X.env=pure KG) : PS X (.Assign [.Subscript o i pos'] value pos) (FX td ty tv):=by intro KQ s σ H D I h;refine wpAny_Assign_Subscript (LS (hv KQ s σ H _ I h) λr j ⟨v,H1,k,l,m⟩=>LS (c KQ j σ H1 _ k m) λu n ⟨x,p,q,t,w⟩=>LS (d KQ n σ p _ q w) λG J ⟨y,K,z,B,a,C,ex,g,E⟩=>?_) f;subst ex;obtain rfl:u=II a:=t;exact vO b z g B l λL F=>#[σ,C,F,E]
end
theorem xl{P:HL}{w:Il}{H:Hp}(h:r_)(a:Jz<h.objs.size):bO P w H (h.push { cls:=.type "dict",data:=.dict #[] }) h.objs.size (.dK []):=#[IB _,beq_eq_false_iff_ne.mpr (Ne.symm (HX a)),[],.nil,Heap.DictOf.new h]
def B7:TE:=λ_ H Q=>∀p,H p=KC->Q (.ref p) (upd H p (.dK []))
section
variable{X:Cx}{pos:Pos}
theorem xt:PE X (.Dict [] [] pos) B7:=λKQ s σ H Q I h=>wpAny_Dict_empty #[.ref s.z,_,I.laid (a:=s.z) (o:=.dK []) (t':=s.toks) (λ_ _ q=>Hr _ q) (Hu _) (xl s.heap I.big),8,h _ (I.hok.fresh (Hu _))]
end
end L2
namespace SD
def Ba{c:Type}{l:List c}(h:l.length=1):∃a,l=[a]:=by
 cases l with
 |nil=>cases h
 |cons a l=>
  cases l with
  |nil=>exact #[a,rfl]
  |cons b l=>cases h
def Ea{b:Type}{n:Nat}{l:List b}(h:l.length=n+1):∃a r,l=a::r/\r.length=n:=by
 cases l with
 |nil=>cases h
 |cons a l=>exact #[a,l,8,Nat.succ.inj h]
def pV{c:Type}{l:List c}(h:l.length=2):∃a b,l=[a,b]:=by let[a,r,8,h2]:=Ea h;let[b,8]:=Ba h2;exact #[a,b,rfl]
def Fe{d:Type}{l:List d}(h:l.length=3):∃a b c,l=[a,b,c]:=by let[a,r,8,h2]:=Ea h;let[b,c,8]:=pV h2;exact #[a,b,c,rfl]
def Fo{e:Type}{l:List e}(h:l.length=4):∃a b c d,l=[a,b,c,d]:=by let[a,r,8,h2]:=Ea h;let[b,c,d,8]:=Fe h2;exact #[a,b,c,d,rfl]
open PySem PySem.Spec PyProof.Rows L2
inductive D where
 |non|bl (b:Bool)|int (i:Int)|str (x:Str)|ty (n:String)|ref (a:r4)|rol (ds:List D)|tup (ds:List D)
abbrev _root_.v_(g:Nat):SD.D:=.int (g:Int)
abbrev _root_.v9:=Option D
abbrev _root_.vu:=List D
abbrev _root_.vr:=List (v9)
def Qc(K:Hm)(H:Hp)(a:r4)(xs:vo):Prop:=
 (∃o,H a=KA (.frz o (.lst xs)))\/
  ∃(o:Obj) (b:Array Hn) (n:Nat),K.lookup a=KA o/\o.cls=.type "list"/\o.dict=KC/\o.data=.seq b n/\b.size<=HK/\Vals xs b.toList
def Qc.sql{K:Hm}{H:Hp}{a:r4}{xs:vo}(h:Qc K H a xs):L8 K H a xs:=by
 rcases h with h|h
 .exact .inl (.inr h)
 .exact .inr h
mutual
def Rep(K:Hm)(H:Hp):D->V->Prop
 |.non,v=>v=.non
 |.bl b,v=>v=.bl b
 |.int i,v=>v=.int i
 |.str x,v=>v=.str x
 |.ty n,v=>v=.ty n
 |.ref a,v=>v=.ref a
 |.rol ds,v=>∃a xs,v=.ref a/\Qc K H a xs/\aE K H ds xs
 |.tup ds,v=>∃a xs,v=.ref a/\L7 K H a xs/\aE K H ds xs
def aE(K:Hm)(H:Hp):vu->vo->Prop
 |[],xs=>xs=[]
 |d::ds,xs=>∃x r,xs=x::r/\Rep K H d x/\aE K H ds r
end
structure LP(K:Hm)(H H':Hp):Prop where
 t:∀a xs,L7 K H a xs->L7 K H' a xs
 f:∀a xs,Qc K H a xs->Qc K H' a xs
theorem LP.refl{K:Hm}{H:Hp}:LP K H H:=#[λ_ _ h=>h,λ_ _ h=>h]
theorem LP.trans{K:Hm}{H H1 c:Hp}(a:LP K H H1)(b:LP K H1 c):LP K H c:=#[λx y h=>b.t x y (a.t x y h),λx y h=>b.f x y (a.f x y h)]
def LP.put{K:Hm}{H:Hp}{p:r4}{o:HO}(h1:∀xs,H p≠KA (.tup xs))(h2:∀u xs,H p≠KA (.frz u xs)):LP K H (upd H p o):=by
 refine #[λa xs h=>?_,λa xs h=>?_]
 .rcases h with(h|⟨u,h⟩)|h
  .exact .inl (.inl (by rw[aG (by intro e;subst e;exact h1 _ h)];exact h))
  .exact .inl (.inr #[u,by rw[aG (by intro e;subst e;exact h2 _ _ h)];exact h])
  .exact .inr h
 .rcases h with⟨u,h⟩|h
  .exact .inl #[u,by rw[aG (by intro e;subst e;exact h2 _ _ h)];exact h]
  .exact .inr h
theorem LP.new{K:Hm}{H:Hp}{p:r4}{o:HO}(h:H p=KC):LP K H (upd H p o):=.put (λxs e=>by rw[h]at e;cases e) (λu xs e=>by rw[h]at e;cases e)
theorem LP.lst{K:Hm}{H:Hp}{p:r4}{o:HO}{xs:vo}(h:H p=KA (.lst xs)):LP K H (upd H p o):=.put (λa e=>by rw[h]at e;cases e) (λu a e=>by rw[h]at e;cases e)
mutual
theorem Rep.mono{K:Hm}{H b:Hp}(g:LP K H b):∀{d:D}{v:V},Rep K H d v->Rep K b d v
 |.non,_,h=>h
 |.bl _,_,h=>h
 |.int _,_,h=>h
 |.str _,_,h=>h
 |.ty _,_,h=>h
 |.ref _,_,h=>h
 |.rol ds,_,h=>by
  rw[Rep]at h ⊢
  let[a,xs,e,h1,h2]:=h
  exact #[a,xs,e,g.f _ _ h1,aE.mono g h2]
 |.tup ds,_,h=>by
  rw[Rep]at h ⊢
  let[a,xs,e,h1,h2]:=h
  exact #[a,xs,e,g.t _ _ h1,aE.mono g h2]
theorem aE.mono{K:Hm}{H a:Hp}(g:LP K H a):∀{ds:vu}{xs:vo},aE K H ds xs->aE K a ds xs
 |[],_,h=>h
 |d::ds,_,h=>by
  rw[aE]at h ⊢
  let[x,r,e,h1,h2]:=h
  exact #[x,r,e,Rep.mono g h1,aE.mono g h2]
end
section
variable{K:Hm}{H H':Hp}
def aE.nil:aE K H [] []:=by rw[aE]
def aE.cons{d:D}{ds:vu}{x:V}{r:vo}(a:Rep K H d x)(b:aE K H ds r):aE K H (d::ds) (x::r):=by rw[aE];exact #[x,r,8,a,b]
theorem aE.length:∀{ds:vu}{xs:vo},aE K H ds xs->ds.length=xs.length
 |[],xs,h=>by rw[aE]at h;subst h;rfl
 |d::ds,xs,h=>by
  rw[aE]at h
  let[x,r,8,_,h2]:=h
  simp[aE.length h2]
theorem aE.get:∀{ds:vu}{xs:vo}{i:Nat}{d:D},aE K H ds xs->ds[i]?=KA d->∃x,xs[i]?=KA x/\Rep K H d x
 |[],_,_,_,_,e=>by simp at e
 |_::_,xs,0,_,h,e=>by
  rw[aE]at h
  let[x,r,8,h1,_]:=h
  simp at e;subst e
  exact #[x,8,h1]
 |_::ds,xs,i+1,d,h,e=>by
  rw[aE]at h
  let[x,r,8,_,h2]:=h
  simpa using aE.get (i:=i) (d:=d) h2 ‹e›
theorem aE.set{d:D}{x:V}(a:Rep K H d x):∀{ds:vu}{xs:vo}(i:Nat),aE K H ds xs->aE K H (ds.set i d) (xs.set i x)
 |[],_,_,h=>by rw[aE]at h;subst h;simp[aE.nil]
 |_::_,_,0,h=>by
  rw[aE]at h
  let[y,r,8,_,h2]:=h
  exact .cons a h2
 |_::ds,_,i+1,h=>by
  rw[aE]at h
  let[y,r,8,h1,h2]:=h
  exact .cons h1 (aE.set a i h2)
theorem aE.append:∀{ds es:vu}{xs ys:vo},aE K H ds xs->aE K H es ys->aE K H (ds++es) (xs++ys)
 |[],_,_,_,h,k=>by rw[aE]at h;subst h;exact k
 |_::ds,_,_,_,h,k=>by
  rw[aE]at h
  let[y,r,8,h1,h2]:=h
  exact .cons h1 (aE.append h2 k)
theorem aE.of_get:∀{ds:vu}{xs:vo},ds.length=xs.length->(∀(i:Nat) d x,ds[i]?=KA d->xs[i]?=KA x->Rep K H d x)->aE K H ds xs
 |[],[],_,_=>.nil
 |[],_::_,h,_=>by simp at h
 |_::_,[],h,_=>by simp at h
 |d::ds,x::xs,h,k=>.cons (k 0 d x rfl rfl) (aE.of_get ‹h› λi d x a b=>k (i+1) d x ‹a› ‹b›)
def aE.take{ds:vu}{xs:vo}(n:Nat)(h:aE K H ds xs):aE K H (ds.take n) (xs.take n):=by
 refine .of_get (by simp[h.length]) λi d x a b=>?_
 let c:i<n:=by
  rw[List.getElem?_take]at a;split at a
  .assumption
  .cases a
 rw[List.getElem?_take_of_lt c]at a b;let[y,e,r]:=h.get a;rw[e]at b;cases b;exact r
def aE.drop{ds:vu}{xs:vo}(n:Nat)(h:aE K H ds xs):aE K H (ds.drop n) (xs.drop n):=by refine .of_get (by simp[h.length]) λi d x a b=>?_;rw[List.getElem?_drop]at a b;let[y,e,r]:=h.get a;rw[e]at b;cases b;exact r
theorem iH:∀(ns:sy),aE K H (ns.map D.int) (ns.map V.int)
 |[]=>.nil
 |n::ns=>.cons (by rw[Rep]) (iH ns)
end
def GW(a C:r4):r_->Prop:=λh=>∃o,h.get? a=KA o/\o.cls=.ref C
inductive MO where
 |lst (ds:vu)|err (C:r4)
 |dct (n:Nat) (P:sy->Bool)
 |gen (A:Hm->Hp->r4->Prop)
abbrev MH:=r4->Option MO
def nD(K:Hm)(H:Hp)(a:r4):MO->Prop
 |.lst c=>∃xs,H a=KA (.lst xs)/\aE K H c xs
 |.err C=>H a=KA (.ext (GW a C))
 |.dct n P=>∃kvs:List (List Key×V),H a=KA (.dT kvs)/\kvs.length<=n/\∀k:sy,(kvs.any λd=>decide (d.1=k.map Sum.inl))=P k
 |.gen A=>A K H a/\H a≠KC/\∀b,LP K H b->b a=H a->A K b a
def LV(K:Hm)(H:Hp)(M:MH):Prop:=∀a o,M a=KA o->nD K H a o
def au(M:MH)(a:r4)(o:MO):MH:=λb=>if b=a then KA o else M b
def ai{M:MH}{a:r4}{o:MO}:au M a o a=KA o:=by unfold au;rw[KI rfl]
def ak{M:MH}{a b:r4}{o:MO}(h:b≠a):au M a o b=M b:=by unfold au;rw[KH h]
def cC{M:MH}{a:r4}{o u:MO}:au (au M a o) a u=au M a u:=by funext b;unfold au;split<;>rfl
section
variable{K:Hm}{H H':Hp}{M:MH}
def nD.some{a:r4}{o:MO}(h:nD K H a o):H a≠KC:=by
 cases o with
 |lst b=>
  let[xs,h1,_]:=h
  rw[h1];simp
 |err C=>rw[show H a=_ from h];simp
 |dct n P=>
  let[kvs,h1,_]:=h
  rw[h1];simp
 |gen A=>exact h.2.1
def LV.fresh(h:LV K H M){p:r4}(a:H p=KC):M p=KC:=by
 cases e:M p with
 |none=>rfl
 |some o=>exact absurd a (h p o e).some
def nD.fW{a:r4}{o:MO}(g:LP K H H')(e:H' a=H a)(h:nD K H a o):nD K H' a o:=by
 cases o with
 |lst d=>
  let[xs,h1,h2]:=h
  exact #[xs,e.trans h1,h2.mono g]
 |err C=>exact e.trans h
 |dct n P=>
  let[kvs,h1,h2]:=h
  exact #[kvs,e.trans h1,h2]
 |gen A=>exact #[h.2.2 H' g e,λz=>h.2.1 (by rw[<-e];exact z),λb c e2=>h.2.2 b (g.trans c) (e2.trans e)]
theorem LV.new{p:r4}{o:HO}(h:LV K H M)(b:H p=KC):LV K (upd H p o) M:=λa u e=>by
 let ne:a≠p:=λz=>by subst z;rw[h.fresh b]at e;cases e
 exact(h a u e).fW (.new b) (aG ne)
theorem LV.lK{p:r4}{xs:vo}{ds:vu}(h:LV K H M)(b:H p=KC)(r:aE K H ds xs):LV K (upd H p (.lst xs)) (au M p (.lst ds)):=λa u e=>by
 by_cases ne:a=p
 .subst ne;rw[ai]at e;cases e;exact #[xs,aH,r.mono (.new b)]
 .rw[ak ne]at e;exact(h a u e).fW (.new b) (aG ne)
theorem LV.u7{p:r4}{xs ys:vo}{ds:vu}(h:LV K H M)(b:H p=KA (.lst xs))(r:aE K H ds ys):LV K (upd H p (.lst ys)) (au M p (.lst ds)):=λa u e=>by
 by_cases ne:a=p
 .subst ne;rw[ai]at e;cases e;exact #[ys,aH,r.mono (.lst b)]
 .rw[ak ne]at e;exact(h a u e).fW (.lst b) (aG ne)
theorem LV.sub{b:MH}(h:LV K H M)(s:∀a o,b a=KA o->M a=KA o):LV K H b:=λa o e=>h a o (s a o e)
end
abbrev DS:=vr
structure Slots(K:Hm)(H:Hp)(δ:DS)(σ:L2.St):Prop where
 len:δ.length=σ.length
 at':∀(i:Nat) d,δ[i]?=KA (KA d)->∃v,σ[i]?=KA (KA v)/\Rep K H d v
section
variable{K:Hm}{H H':Hp}{δ:DS}{σ:L2.St}
theorem Slots.mono(g:LP K H H')(h:Slots K H δ σ):Slots K H' δ σ:=#[h.len,λi d e=>let⟨v,a,b⟩:=h.at' i d e;#[v,a,b.mono g]]
def Slots.set{d:D}{v:V}(r:Rep K H d v)(i:Nat)(h:Slots K H δ σ):Slots K H (δ.set i (KA d)) (σ.set i (KA v)):=by
 refine #[by simp[h.len],λj e q=>?_];rw[List.getElem?_set]at q;by_cases a:i=j
 .subst a;rw[KI rfl]at q;by_cases b:i<δ.length
  .rw[KI b]at q;cases q;exact #[v,by rw[List.getElem?_set,KI rfl,KI (by rw[<-h.len];exact b)],r]
  .rw[KH b]at q;cases q
 .rw[KH a]at q;let[c,e1,e2]:=h.at' j e q;exact #[c,by rw[List.getElem?_set,KH a];exact e1,e2]
def lj{N:u_}{ds:vu}{vs:vo}(r:aE K H ds vs):Slots K H (ds.map KA++Ic (N.length-ds.length) KC) (L2.start N vs):=by
 let b:=r.length;refine #[by unfold L2.start;simp[b],λi d e=>?_];unfold L2.start;by_cases a:i<ds.length
 .rw[Im ‹a›,Hv]at e;cases q:ds[i]? with
  |none=>rw[q]at e;cases e
  |some c=>
   rw[q]at e;cases e
   let[x,e1,e2]:=r.get q
   refine #[x,?_,e2]
   rw[Im (by simp;omega),Hv,e1];rfl
 .rw[Ij ‹a›,List.getElem?_replicate]at e;split at e<;>cases e
end
abbrev DK:=D->MH->Prop
abbrev TD:=DS->MH->DK->Prop
abbrev Lg:=DS->MH->(Bool->MH->Prop)->Prop
abbrev Ld:=DS->MH->(vu->MH->Prop)->Prop
structure EndsD where
 nx:DS->MH->Prop
 rt:DK
 bk:DS->MH->Prop:=λ_ _=>False
 ct:DS->MH->Prop:=λ_ _=>False
@[reducible] def EndsD.nxt(B:EndsD)(n:DS->MH->Prop):EndsD:={ B with nx:=n }
@[reducible] def EndsD.lp(B:EndsD)(w:DS->MH->Prop):EndsD:={ B with nx:=w,ct:=w,bk:=B.nx }
abbrev Lv:=EndsD->DS->MH->Prop
section
variable(K:Hm)
def Fin(H:Hp)(R:DK)(Q:VK):Prop:=∀d b v a,LP K H a->Rep K a d v->LV K a b->R d b->Q v a
def AU(H:Hp)(R:Bool->MH->Prop)(Q:Bool->Hp->Prop):Prop:=∀b c a,LP K H a->LV K a c->R b c->Q b a
def FinA(H:Hp)(R:vu->MH->Prop)(Q:vo->Hp->Prop):Prop:=∀b c vs a,LP K H a->aE K a b vs->LV K a c->R b c->Q vs a
def lift(t:TD):TE:=λσ H Q=>∃δ M R,Slots K H δ σ/\LV K H M/\t δ M R/\Fin K H R Q
def liftT(t:Lg):TT:=λσ H Q=>∃δ M R,Slots K H δ σ/\LV K H M/\t δ M R/\AU K H R Q
def wX(t:Ld):TA:=λσ H Q=>∃δ M R,Slots K H δ σ/\LV K H M/\t δ M R/\FinA K H R Q
structure NA(H:Hp)(B:EndsD)(E:Ends):Prop where
 nx:∀δ M σ H',LP K H H'->Slots K H' δ σ->LV K H' M->B.nx δ M->E.nx σ H'
 rt:∀d M v H',LP K H H'->Rep K H' d v->LV K H' M->B.rt d M->E.rt v H'
 bk:∀δ M σ H',LP K H H'->Slots K H' δ σ->LV K H' M->B.bk δ M->E.bk σ H'
 ct:∀δ M σ H',LP K H H'->Slots K H' δ σ->LV K H' M->B.ct δ M->E.ct σ H'
def BL(t:Lv):TS:=λE σ H=>∃δ M,Slots K H δ σ/\LV K H M/\∃B,NA K H B E/\t B δ M
end
namespace Zq
@[scoped irreducible]def _root_.SD.DE(X:Cx)(e:sg)(t:TD):Prop:=PE X e (lift X.K t)
@[scoped irreducible]def _root_.SD.DT(X:Cx)(e:sg)(t:Lg):Prop:=PT X e (liftT X.K t)
@[scoped irreducible]def _root_.SD.DW(X:Cx)(e:sg)(t:Lg):Prop:=PW X e (liftT X.K t)
@[scoped irreducible]def _root_.SD.DA(X:Cx)(es:tr)(t:Ld):Prop:=PA X es (wX X.K t)
@[scoped irreducible]def _root_.SD.DSt(X:Cx)(st:r8)(t:Lv):Prop:=PS X st (BL X.K t)
@[scoped irreducible]def _root_.SD.DSs(X:Cx)(st:tq)(t:Lv):Prop:=NY X st (BL X.K t)
end Zq
theorem bf{X:Cx}{e:sg}{t t':TE}(h:PE X e t)(k:∀σ H Q,t' σ H Q->t σ H Q):PE X e t':=λKQ s σ H Q I q=>h KQ s σ H Q I (k σ H Q q)
theorem iT{X:Cx}{e:sg}{t t':TT}(h:PT X e t)(k:∀σ H Q,t' σ H Q->t σ H Q):PT X e t':=λKQ s σ H Q I q=>h KQ s σ H Q I (k σ H Q q)
theorem xZ{X:Cx}{e:sg}{t t':TT}(h:PW X e t)(k:∀σ H Q,t' σ H Q->t σ H Q):PW X e t':=λa KQ s σ H Q I q=>h a KQ s σ H Q I (k σ H Q q)
theorem wR{X:Cx}{e:tr}{t t':TA}(h:PA X e t)(k:∀σ H Q,t' σ H Q->t σ H Q):PA X e t':=λpos KQ s σ H Q I q=>h pos KQ s σ H Q I (k σ H Q q)
theorem cy{X:Cx}{e:r8}{t t':TS}(h:PS X e t)(k:∀D σ H,t' D σ H->t D σ H):PS X e t':=λKQ s σ H D I q=>h KQ s σ H D I (k D σ H q)
theorem pf{X:Cx}{e:tq}{t t':TS}(h:NY X e t)(k:∀D σ H,t' D σ H->t D σ H):NY X e t':=λKQ s σ H D I q=>h KQ s σ H D I (k D σ H q)
section
variable{K:Hm}{H H1 H':Hp}
theorem Fin.go{R:DK}{Q:VK}(g:LP K H H1)(h:Fin K H R Q):Fin K H1 R Q:=λd M v H' a=>h d M v H' (g.trans a)
theorem AU.go{R:Bool->MH->Prop}{Q:Bool->Hp->Prop}(g:LP K H H1)(h:AU K H R Q):AU K H1 R Q:=λb M H' a=>h b M H' (g.trans a)
theorem NA.go{B:EndsD}{E:Ends}(g:LP K H H1)(h:NA K H B E):NA K H1 B E:=#[λd M v H' a=>h.nx d M v H' (g.trans a),λd M v H' a=>h.rt d M v H' (g.trans a),λd M v H' a=>h.bk d M v H' (g.trans a),λd M v H' a=>h.ct d M v H' (g.trans a)]
end
section
variable{X:Cx}
inductive Nw(i:Nat)(δ:DS)(M:MH)(Q:DK):Prop
 |mk (d:D)(h:δ[i]?=KA (KA d))(q:Q d M):Nw i δ M Q
def Q6(d:D):TD:=λ_ M Q=>Q d M
theorem dv(i:Nat){x:Str}{pos:Pos}(c:X.N[i]?=KA x:=by rfl)(hv:WM X.env.scope x:=by first|exact Or.inl rfl|exact Or.inr (Or.inl rfl)|exact Or.inr (Or.inr rfl))(hd:(x==("__debug__":Str))=KG:=by decide)
 (a:(x==("__classdict__":Str))=KG:=by decide):DE X (.Name x pos) (Nw i):=
 bf (De c hv hd a) λσ H Q f=>by
  obtain⟨δ,M,R,g,h,⟨d,e,r⟩,b⟩:=f
  let[v,e1,e2]:=g.at' i d e
  exact #[v,e1,b d M v H .refl e2 h r]
theorem dc{e:sg}{v:V}{d:D}(h:PE X e (tC v))(r:∀H,Rep X.K H d v):DE X e (Q6 d):=bf h λσ H Q a=>by let[δ,M,R,f,c,q,b]:=a;exact(b d M v H .refl (r H) c q)
theorem ag{i j pos}:DE X (.Constant (.int i) j pos) (Q6 (.int i)):=dc xY λ_=>by rw[Rep]
theorem iR{i j pos}:DE X (.Constant (.bool i) j pos) (Q6 (.bl i)):=dc ES λ_=>by rw[Rep]
theorem jt{j pos}:DE X (.Constant .none j pos) (Q6 .non):=dc Eb λ_=>by rw[Rep]
theorem bF{x j pos}:DE X (.Constant (.str x) j pos) (Q6 (.str x)):=dc Cg λ_=>by rw[Rep]
theorem Gj{x:Str}{n:String}{pos:Pos}(a:Gl X x)(b:X.mg x=KC)(hv:IG x=KA (.type n))(c:x≠"__name__":=by decide)(hd:(x==("__debug__":Str))=KG:=by decide):DE X (.Name x pos) (Q6 (.ty n)):=dc (AY (v:=.ty n) a b hv rfl c hd) λ_=>by rw[Rep]
end
abbrev Lx:=D->D->MH->DK->Prop
def kP(K:Hm)(r:Lx):R2:=λv u H Q=>∃x y M R,Rep K H x v/\Rep K H y u/\LV K H M/\r x y M R/\Fin K H R Q
def MF(X:Cx)(f:Hn->Hn->Sem Hn)(r:Lx):Prop:=Lq X f (kP X.K r)
def vK(r:Lx)(a b:TD):TD:=λδ M Q=>a δ M λx c=>b δ c λy d=>r x y d Q
theorem ix{X:Cx}{f:Hn->Hn->Sem Hn}{r c:R2}(h:Lq X f r)(k:∀x y H Q,c x y H Q->r x y H Q):Lq X f c:=λKQ s σ H x y v u Q I a b q=>h KQ s σ H x y v u Q I a b (k _ _ _ _ q)
def lX{K:Hm}{r:Lx}{b c:TD}{σ:L2.St}{H:Hp}{Q:VK}(h:lift K (vK r b c) σ H Q):Qf (kP K r) (lift K b) (lift K c) σ H Q:=by let[δ,M,R,d,f,q,a]:=h;refine #[δ,M,_,d,f,q,λx g v H1 g1 i j k=>?_];exact #[δ,g,_,d.mono g1,j,k,λy l u p e m n o=>#[x,y,l,R,i.mono e,m,n,o,a.go (g1.trans e)]]
section
variable{X:Cx}{a b:sg}{ta tb:TD}{pos:Pos}
theorem av{op:Operator}{r:Lx}(c:MF X (JL op) r)(d:DE X a ta)(e:DE X b tb):DE X (.BinOp a op b pos) (vK r ta tb):=bf (F7 c d e) λ_ _ _ h=>lX h
theorem bW{op:CmpOp}{r:Lx}(c:MF X (Ik op) r)(d:DE X a ta)(e:DE X b tb)(f:K0 op b=KG:=by exact yj _):DE X (.Compare a [op] [b] pos) (vK r ta tb):=bf (AX c d e f) λ_ _ _ h=>lX h
inductive Pz(x:D)(M:MH)(Q:Bool->MH->Prop):Prop
 |mk (c:Bool)(h:x=.bl c)(q:Q c M):Pz x M Q
def tBD(t:TD):Lg:=λδ M Q=>t δ M λx c=>Pz x c Q
def j0{K:Hm}{t:TD}{t':TE}(i:∀σ H Q,lift K t σ H Q->t' σ H Q){σ:L2.St}{H:Hp}{Q:Bool->Hp->Prop}(h:liftT K (tBD t) σ H Q):yL t' σ H Q:=by let[δ,M,R,j,k,q,f]:=h;refine i _ _ _ #[δ,M,_,j,k,q,λx l v H1 g1 g m d=>?_];let[c,e,n]:=d;subst e;rw[Rep]at g;exact #[c,g,f c l H1 g1 m n]
theorem aD{op:CmpOp}{r:Lx}(c:MF X (Ik op) r)(d:DE X a ta)(e:DE X b tb)(f:K0 op b=KG:=by exact yj _):DT X (.Compare a [op] [b] pos) (tBD (vK r ta tb)):=iT (tW c d e f) λ_ _ _ h=>j0 (λ_ _ _ h=>lX h) h
theorem dW{e:sg}{t:TD}(h:DE X e t)(d:∀c,isTrue e X.env c=(do let v <-c;standAt e.pos;holding [v] (truthy v)):=by intro _;rfl):DT X e (tBD t):=
 iT (Dl h d) λ_ _ _ h=>j0 (t':=lift X.K t) (λ_ _ _ h=>h) h
end
section
variable{X:Cx}{a b c:sg}{ta tb:TD}{tA KR:Lg}{rest:tr}{pos:Pos}
def BK(t u:Lg):Lg:=λδ M Q=>t δ M λc d=>if c=KD then u δ d Q else Q KG d
def FC(t u:Lg):Lg:=λδ M Q=>t δ M λc d=>if c=KD then Q KD d else u δ d Q
def eC(t:Lg):Lg:=λδ M Q=>t δ M λc d=>Q (!c) d
theorem dj(d:DT X a tA):DW X (.BoolOp .And [a] pos) tA:=z5 d
theorem kZ(d:DT X a tA):DW X (.BoolOp .Or [a] pos) tA:=B2 d
theorem fg(i:DT X a tA)(j:DW X (.BoolOp .And (b::rest) pos) KR):DW X (.BoolOp .And (a::b::rest) pos) (BK tA KR):=
 xZ (D4 i j) λσ H Q d=>by let[δ,M,R,g,k,q,e]:=d;exact(#[δ,M,_,g,k,q,λc l H1 g1 h f=>by
  cases c with
  |true=>rw[KI rfl]at f ⊢;exact #[δ,l,R,g.mono g1,h,f,e.go g1]
  |false=>rw[KH HF]at f ⊢;exact e _ _ _ g1 h f])
theorem l9(i:DT X a tA)(j:DW X (.BoolOp .Or (b::rest) pos) KR):DW X (.BoolOp .Or (a::b::rest) pos) (FC tA KR):=
 xZ (Es i j) λσ H Q d=>by let[δ,M,R,g,k,q,e]:=d;exact(#[δ,M,_,g,k,q,λc l H1 g1 h f=>by
  cases c with
  |true=>rw[KI rfl]at f ⊢;exact e _ _ _ g1 h f
  |false=>rw[KH HF]at f ⊢;exact #[δ,l,R,g.mono g1,h,f,e.go g1]])
theorem gQ{e:sg}{t:Lg}(h:DW X e t):DT X e t:=PW.pt h
theorem yU(f:DT X a tA):DT X (.UnaryOp .Not a pos) (eC tA):=iT (Cq f) λσ H Q d=>by let[δ,M,R,g,h,q,e]:=d;exact(#[δ,M,_,g,h,q,λc k H1 g1 i j=>e _ _ _ g1 i j])
def xq(ta tb:TD):TD:=λδ M Q=>ta δ M λx d=>Pz x d λc d=>if c=KD then tb δ d Q else Q (.bl KG) d
def D8(ta:TD):TD:=λδ M Q=>ta δ M λx d=>Pz x d λc d=>Q (.bl (!c)) d
theorem oV{op}{t:TD}(h:DE X a t):DE X (.BoolOp op [a] pos) t:=Ee h
theorem l7(j:DE X a ta)(k:DE X (.BoolOp .And (b::rest) pos) tb):DE X (.BoolOp .And (a::b::rest) pos) (xq ta tb):=
 bf (Dx j k) λσ H Q ⟨δ,M,R,g,l,q,d⟩=>#[δ,M,_,g,l,q,λx m v H1 g1 h i n=>by
  let[c,e,f]:=n
  subst e
  rw[Rep]at h
  exists c,h
  cases c with
  |true=>rw[KI rfl]at f ⊢;exact #[δ,m,R,g.mono g1,i,f,d.go g1]
  |false=>rw[KH HF]at f ⊢;exact d _ _ _ _ g1 (by rw[Rep]) i f]
theorem yN(h:DE X a ta):DE X (.UnaryOp .Not a pos) (D8 ta):=
 bf (Dm h) λσ H Q d=>by let[δ,M,R,i,j,q,f]:=d;exact(#[δ,M,_,i,j,q,λx n v H1 g1 g k l=>by
  let[c,e,m]:=l
  subst e
  rw[Rep]at g
  exact #[c,g,f _ _ _ _ g1 (by rw[Rep]) k m]])
def Gw(t:Lg)(ta tb:TD):TD:=λδ M Q=>t δ M λc d=>if c=KD then ta δ d Q else tb δ d Q
theorem jj(j:DT X c tA)(k:DE X a ta)(l:DE X b tb):DE X (.IfExp c a b pos) (Gw tA ta tb):=
 bf (xQ j k l) λσ H Q d=>by let[δ,M,R,g,m,q,e]:=d;exact(#[δ,M,_,g,m,q,λc h H1 g1 i f=>by
  cases c with
  |true=>rw[KI rfl]at f ⊢;exact #[δ,h,R,g.mono g1,i,f,e.go g1]
  |false=>rw[KH HF]at f ⊢;exact #[δ,h,R,g.mono g1,i,f,e.go g1]])
end
def GV(r:D->MH->DK->Prop)(a:TD):TD:=λδ M Q=>a δ M λx b=>r x b Q
def Bs(K:Hm)(r:D->MH->DK->Prop):V->Hp->VK->Prop:=λv H Q=>∃x M R,Rep K H x v/\LV K H M/\r x M R/\Fin K H R Q
theorem iO{X:Cx}{a:sg}{d:TD}{pos:Pos}{op:UnaryOp}{r:D->MH->DK->Prop}(e:WN X (unaryOp op) (Bs X.K r))(f:DE X a d):DE X (.UnaryOp op a pos) (GV r d):=bf (EA e f) λσ H Q b=>by let[δ,M,R,g,h,q,c]:=b;exact(#[δ,M,_,g,h,q,λx i v H1 g1 j k l=>#[x,i,R,j,k,l,c.go g1]])
def Bw:Ld:=λ_ M Q=>Q [] M
def rD(a:TD)(b:Ld):Ld:=λδ M Q=>a δ M λx c=>b δ c λxs d=>Q (x::xs) d
section
variable{X:Cx}{e:sg}{es:tr}{te:TD}{t:Ld}{pos:Pos}
theorem af:DA X [] Bw:=wR Cm λσ H Q a=>by let[δ,M,R,d,c,q,b]:=a;exact(b _ _ _ _ .refl .nil c q)
theorem ae(f:DE X e te)(g:DA X es t)(b:HC (e::es) X.env=(KG,eval e X.env)::HC es X.env:=by rfl):DA X (e::es) (rD te t):=
 wR (Ay f g b) λσ H Q a=>by let[δ,M,R,b,h,q,c]:=a;exact(#[δ,M,_,b,h,q,λx i v H1 g1 j k l=>
  #[δ,i,_,b.mono g1,k,l,λxs p vs r d m n o=>c _ _ _ _ (g1.trans d) (.cons (j.mono d) m) n o]])
def Gm(t:Ld):TD:=λδ M Q=>t δ M λxs a=>xs.length<=HK/\Q (.tup xs) a
def Ga(t:Ld):TD:=λδ M Q=>t δ M λxs a=>xs.length<=HK/\∀p,a p=KC->Q (.ref p) (au a p (.lst xs))
theorem aJ{x1}(h:DA X es t):DE X (.Tuple es x1 pos) (Gm t):=bf (Cj h) λσ H Q a=>by let[δ,M,R,g,i,q,c]:=a;exact(#[δ,M,_,g,i,q,λxs l vs H1 g1 f j b=>by let[z,k]:=b;exact(#[by rw[<-f.length];exact z,λp d=>c _ _ _ _ (g1.trans (.new d)) (by rw[Rep];exact #[p,vs,8,L7.of aH,f.mono (.new d)]) (j.new d) k])])
theorem aV(h:DA X es t):DE X (.List es pos) (Ga t):=bf (DV h) λσ H Q a=>by let[δ,M,R,i,j,q,c]:=a;exact(#[δ,M,_,i,j,q,λxs l vs H1 g1 f g b=>by let[z,k]:=b;exact(#[by rw[<-f.length];exact z,λp d=>c _ _ _ _ (g1.trans (.new d)) (by rw[Rep]) (g.lK d f) (k p (g.fresh d))])])
end
def Zk(X:Cx)(r:Lx):Prop:=OH X (kP X.K r)
theorem Dj{X:Cx}{r c:R2}(h:OH X r)(k:∀x y H Q,c x y H Q->r x y H Q):OH X c:=λe1 e2 KQ s σ H x y v u Q I a b q=>h e1 e2 KQ s σ H x y v u Q I a b (k _ _ _ _ q)
theorem DP{X:Cx}{a b:sg}{c d:TD}{pos:Pos}{r:Lx}(e:Zk X r)(f:DE X a c)(g:DE X b d)(i:oU b):DE X (.Subscript a b pos) (vK r c d):=bf (EU e f g i) λ_ _ _ h=>lX h
inductive Y7(ds:vu)(i:Int)(M:MH)(Q:DK):Prop
 |mk (d:D)(h:atI ds i=KA d)(q:Q d M):Y7 ds i M Q
inductive Y6(a:r4)(i:Int)(M:MH)(Q:DK):Prop
 |mk (ds:vu)(d:D)(h:M a=KA (.lst ds))(q:atI ds i=KA d/\Q d M):Y6 a i M Q
def DZ:Lx:=λx y M Q=>match x,y with
 |.tup ds,.int i=>Y7 ds i M Q
 |.rol ds,.int i=>Y7 ds i M Q
 |.ref a,.int i=>Y6 a i M Q
 |_,_=>False
def aE.atI{K:Hm}{H:Hp}{ds:vu}{xs:vo}{i:Int}{d:D}(h:aE K H ds xs)(e:L2.atI ds i=KA d):∃x,L2.atI xs i=KA x/\Rep K H d x:=by
 unfold L2.atI at e ⊢;rw[<-h.length];cases q:ixN ds.length i with
 |none=>rw[q]at e;cases e
 |some j=>
  rw[q]at e
  exact h.get e
def vD{K:Hm}{v u:V}{H:Hp}{Q:VK}(h:kP K DZ v u H Q):Yb K v u H Q:=by
 let[x,y,M,R,c,g,a,q,b]:=h;unfold DZ at q;split at q
 .obtain⟨d,e,q⟩:=q;obtain rfl:u=.int _:=g;rw[Rep]at c;let[p,xs,8,i,f]:=c;let[x,e1,e2]:=f.atI e;exact .inr (.inl #[p,xs,_,x,8,8,i,e1,b _ _ _ _ .refl e2 a q])
 .obtain⟨d,e,q⟩:=q;obtain rfl:u=.int _:=g;rw[Rep]at c;let[p,xs,8,i,f]:=c;let[x,e1,e2]:=f.atI e;exact .inl #[p,xs,_,x,8,8,i.sql,e1,b _ _ _ _ .refl e2 a q]
 .obtain⟨k,d,j,e,q⟩:=q;obtain rfl:u=.int _:=g;obtain rfl:v=.ref _:=c;let[xs,hx,f]:=a _ _ j;let[x,e1,e2]:=f.atI e;exact .inl #[_,xs,_,x,8,8,L8.of hx,e1,b _ _ _ _ .refl e2 a q]
 .exact q.elim
theorem aB{X:Cx}{a b:sg}{c d:TD}{pos:Pos}(e:DE X a c)(f:DE X b d)(g:oU b:=by exact λ_ _=>rfl):DE X (.Subscript a b pos) (vK DZ c d):=DP (Dj CY λ_ _ _ _ h=>vD h) e f g
def Bd(n:Nat)(i:Int):Prop:=i.natAbs<2^n
instance(n:Nat)(i:Int):Decidable (Bd n i):=inferInstanceAs (Decidable (i.natAbs<2^n))
theorem Bd.mono{m n:Nat}{i:Int}(h:Bd m i)(l:m<=n):Bd n i:=HY h (Nat.pow_le_pow_right ⋯ l)
def Bd.bits{n:Nat}{i:Int}(h:Bd n i):Builtin.Int.intBits i<=n:=by
 unfold Builtin.Int.intBits;split
 .exact IB _
 .rename_i hz;let h0:i.natAbs≠0:=λe=>hz ‹Int.natAbs_eq_zero.mp e›;exact(Nat.log2_lt h0).mpr h
def Bd.log2{n:Nat}{i:Int}(h:Bd n i)(a:0<n):i.natAbs.log2<n:=by
 by_cases h0:i.natAbs=0
 .rw[h0];simpa using a
 .exact(Nat.log2_lt h0).mpr h
def Bd.mul{m n:Nat}{i j:Int}(a:Bd m i)(b:Bd n j):Bd (m+n) (i*j):=by unfold Bd at *;rw[Int.natAbs_mul,Nat.pow_add];exact Nat.mul_lt_mul'' a b
def Bd.add{n:Nat}{i j:Int}(a:Bd n i)(b:Bd n j):Bd (n+1) (i+j):=by unfold Bd at *;rw[Nat.pow_succ];have:=Int.natAbs_add_le i j;omega
def Bd.sub{n:Nat}{i j:Int}(a:Bd n i)(b:Bd n j):Bd (n+1) (i-j):=by unfold Bd at *;rw[Nat.pow_succ];have:=Int.natAbs_sub_le i j;omega
def Bd.neg{n:Nat}{i:Int}(a:Bd n i):Bd n (-i):=by unfold Bd at *;rw[Int.natAbs_neg];exact a
theorem Bd.of_le{n:Nat}{i j:Int}(a:Bd n i)(b:j.natAbs<=i.natAbs):Bd n j:=Nat.lt_of_le_of_lt b a
theorem aX{n:Nat}{i:Int}(h:i.natAbs<2^64)(l:64<=n:=by decide):Bd n i:=Bd.mono (m:=64) h l
theorem fE{i j:Int}(a:Bd 1000000 i)(b:Bd 1000000 j):IntMulOk i j:=.of_bits (Iv a.bits ⋯) (Iv b.bits ⋯)
theorem a9{i j:Int}(a:Bd 64 i):IntMulOk i j:=.of_left a.bits
theorem tR{i j:Int}(a:Bd 64 j):IntMulOk i j:=.of_right a.bits
def OD(C:Int->Int->Prop)(g:Int->Int->D):Lx:=λx y M Q=>match x,y with
 |.int i,.int j=>C i j/\Q (g i j) M
 |_,_=>False
section
variable{X:Cx}
theorem eF{f:Hn->Hn->Sem Hn}{C:Int->Int->Prop}{g:Int->Int->V}{g':Int->Int->D}(h:Lq X f (rI C g))(e:∀i j H,Rep X.K H (g' i j) (g i j)):MF X f (OD C g'):=
 ix h λv u H Q c=>by
  let[x,y,M,R,d,k,a,q,b]:=c
  unfold OD at q
  split at q
  .obtain rfl:v=.int _:=d
   obtain rfl:u=.int _:=k
   exact #[_,7,8,q.1,b _ _ _ _ .refl (e _ _ _) a q.2]
  .exact q.elim
theorem Qt{f:Hn->Hn->Sem Hn}{g:Int->Int->V}(h:Lq X f (Pp g)):Lq X f (rI (λ_ _=>True) g):=ix h λx y H Q c=>by let[i,j,a,b,_,q]:=c;exact(#[i,j,a,b,q])
def Fq:Lx:=OD (λ_ _=>True) λi j=>.int (i-j)
def FL:Lx:=OD IntMulOk λi j=>.int (i*j)
def Zl(i j:Int):Prop:=j≠0/\Bd 8000 j
def He:Lx:=OD Zl λi j=>.int (i.fdiv j)
def F2:Lx:=OD (λ_ j=>j≠0) λi j=>.int (i.fmod j)
def EK:Lx:=OD Fz λi j=>.int (i^j.toNat)
def Gr:Lx:=OD (λ_ _=>True) λi j=>.bl (decide (i<j))
def Ha:Lx:=OD (λ_ _=>True) λi j=>.bl (decide (i<=j))
def GD:Lx:=OD (λ_ _=>True) λi j=>.bl (decide (j<i))
theorem aU:MF X (JL .Sub) Fq:=eF (Qt D2) λ_ _ _=>by rw[Rep]
theorem aP:MF X (JL .Mult) FL:=eF (WZ λ_ _ _ _ _ _ _ a q=>mul_int q a) λ_ _ _=>by rw[Rep]
theorem fy:MF X (JL .FloorDiv) He:=eF (WZ λ_ _ _ _ _ _ _ a q=>floordiv_int a.1 q (.inl (PyProof.noPylong_of_log2 (Nat.lt_trans (a.2.log2 ⋯) ⋯)))) λ_ _ _=>by rw[Rep]
theorem gE:MF X (JL .Mod) F2:=eF zP λ_ _ _=>by rw[Rep]
theorem fP:MF X (JL .Pow) EK:=eF DJ λ_ _ _=>by rw[Rep]
theorem EW:MF X (Ik .Lt) Gr:=eF (Qt Ep) λ_ _ _=>by rw[Rep]
theorem Fx:MF X (Ik .LtE) Ha:=eF (Qt Eo) λ_ _ _=>by rw[Rep]
theorem E1:MF X (Ik .Gt) GD:=eF (Qt FI) λ_ _ _=>by rw[Rep]
def BU:D->MH->DK->Prop:=λx M Q=>match x with
 |.int i=>Q (.int (-i)) M
 |_=>False
theorem dO:WN X (unaryOp .USub) (Bs X.K BU):=λKQ s σ H x v Q I r b=>by let[d,M,R,e,a,q,c]:=b;exact(Cr KQ s σ H x v Q I r (by
 unfold BU at q
 split at q
 .obtain rfl:x=.int _:=e;exact #[7,c _ _ _ _ .refl (by rw[Rep]) a q]
 .exact q.elim))
def xT:Lx:=λx y M Q=>match x,y with
 |.int i,.int j=>Q (.int (i+j)) M
 |.tup a,.tup b=>a≠[]/\a.length+b.length<=HK/\Q (.tup (a++b)) M
 |.ref a,.ref b=>∃xs c,M a=KA (.lst xs)/\M b=KA (.lst c)/\xs.length+c.length<=HK/\∀p,M p=KC->Q (.ref p) (au M p (.lst (xs++c)))
 |_,_=>False
theorem aL:MF X (JL .Add) xT:=ix (CO.or (AJ.or Dr)) λv u H Q k=>by
 let[x,y,M,R,g,h,a,q,b]:=k;unfold xT at q;split at q
 .obtain rfl:v=.int _:=g;obtain rfl:u=.int _:=h;exact .inl #[_,7,8,b _ _ _ _ .refl (by rw[Rep]) a q]
 .rename_i da db;let[l,m,q]:=q;rw[Rep]at g;let[p,xs,8,hx,d]:=g;obtain⟨n,i,rfl,j,f⟩:∃a xs,u=V.ref a/\L7 X.K H a xs/\aE X.K H db xs:=by rw[Rep]at h;exact h
  let l1:=d.length;let l2:=f.length;refine .inr (.inl #[p,n,xs,i,8,8,hx,j,?_,(),λe=>?_,λ_ z c=>?_])
  .intro e;subst e;exact l (List.length_eq_zero_iff.mp ‹l1›)
  .subst e;obtain rfl:db=[]:=List.length_eq_zero_iff.mp ‹l2›;exact b _ _ _ _ .refl (by rw[Rep,Jm];exact #[p,xs,8,hx,d]) a q
  .exact b _ _ _ _ (.new c) (by rw[Rep];exact #[z,7,L7.of aH,(d.append f).mono (.new c)]) (a.new c) q
 .obtain⟨o,r,e1,e2,m,q⟩:=q;obtain rfl:v=.ref _:=g;obtain rfl:u=.ref _:=h;let[xs,hx,d]:=a _ _ e1;let[i,j,f]:=a _ _ e2;let l1:=d.length;let l2:=f.length;exact .inr (.inr #[_,_,xs,i,8,8,hx,j,(),λz c=>b _ _ _ _ (.new c) (by rw[Rep]) (a.lK c (d.append f)) (q z (a.fresh c))])
 .exact q.elim
end
mutual
inductive Pd(M:MH):D->Kj->Prop
 |non:Pd M .non .none
 |bl (b:Bool):Pd M (.bl b) (.bool b)
 |int (i:Int):Pd M (.int i) (.int i)
 |str (x:Str):Pd M (.str x) (.str x)
 |tup {ds:vu} {ps:List Kj}:Np M ds ps->Pd M (.tup ds) (.tuple ps)
 |rol {ds:vu} {ps:List Kj}:Np M ds ps->Pd M (.rol ds) (.list ps)
 |lst {a:r4} {ds:vu} {ps:List Kj}:M a=KA (.lst ds)->Np M ds ps->Pd M (.ref a) (.list ps)
inductive Np(M:MH):vu->List Kj->Prop
 |nil:Np M [] []
 |cons {d:D} {ds:vu} {p:Kj} {ps:List Kj}:Pd M d p->Np M ds ps->Np M (d::ds) (p::ps)
end
mutual
def PY:D->Option Kj
 |.non=>KA .none
 |.bl b=>KA (.bool b)
 |.int i=>KA (.int i)
 |.str x=>KA (.str x)
 |.tup a=>match rT a with
  |some ps=>KA (.tuple ps)
  |none=>KC
 |_=>KC
def rT:vu->Option (List Kj)
 |[]=>KA []
 |d::ds=>match PY d,rT ds with
  |some p,KA ps=>KA (p::ps)
  |_,_=>KC
end
mutual
theorem Pd.of{M:MH}:∀{d:D}{p:Kj},PY d=KA p->Pd M d p
 |.non,p,h=>by rw[PY]at h;cases h;exact .non
 |.bl b,p,h=>by rw[PY]at h;cases h;exact .bl b
 |.int i,p,h=>by rw[PY]at h;cases h;exact .int i
 |.str x,p,h=>by rw[PY]at h;cases h;exact .str x
 |.ty _,p,h=>by simp[PY]at h
 |.ref _,p,h=>by simp[PY]at h
 |.rol _,p,h=>by simp[PY]at h
 |.tup ds,p,h=>by
  rw[PY]at h
  cases e:rT ds with
  |none=>rw[e]at h;cases h
  |some ps=>rw[e]at h;cases h;exact .tup (Np.of e)
theorem Np.of{M:MH}:∀{ds:vu}{ps:List Kj},rT ds=KA ps->Np M ds ps
 |[],ps,h=>by rw[rT]at h;cases h;exact .nil
 |d::ds,ps,h=>by
  rw[rT]at h
  cases e1:PY d with
  |none=>rw[e1]at h;cases h
  |some p=>
   cases e2:rT ds with
   |none=>rw[e1,e2]at h;cases h
   |some qs=>rw[e1,e2]at h;cases h;exact .cons (Pd.of e1) (Np.of e2)
end
section
variable{X:Cx}{KQ:sm}{σ:L2.St}{H:Hp}{s:Hq}{M:MH}
mutual
theorem cI(I:Inv X KQ σ H s)(l:LV X.K H M):∀{d:D}{p:Kj}{v:V}{u:Hn},Pd M d p->Rep X.K H d v->L2.RelV v u->∃c,Reads s.heap u p c
 |_,_,_,_,.non,r,e=>by rw[Rep]at r;subst r;cases e;exact #[_,.none]
 |_,_,_,_,.bl b,r,e=>by rw[Rep]at r;subst r;cases e;exact #[_,.bool b]
 |_,_,_,_,.int i,r,e=>by rw[Rep]at r;subst r;let[t,8]:=e;exact #[_,.int i t]
 |_,_,_,_,.str x,r,e=>by rw[Rep]at r;subst r;let[t,8]:=e;exact #[_,.str x t]
 |_,_,_,_,.tup hp,r,e=>by
  rw[Rep]at r
  let[a,xs,8,m,f]:=r
  cases e
  obtain⟨g,h,⟨o,h1,h2,n,j⟩,_⟩:=I.tuple m
  let[c,k]:=iJ I l hp f h
  exact #[c,reads_tuple_at h1 h2 j ‹k›]
 |_,_,_,_,.rol hp,r,e=>by
  rw[Rep]at r
  let[a,xs,8,m,f]:=r
  cases e
  obtain⟨g,h,⟨o,n,h1,h2,_,j⟩,_⟩:=I.list m.sql
  let[c,k]:=iJ I l hp f h
  exact #[_,reads_list_at h1 h2 j ‹k›]
 |_,_,_,_,.lst ha hp,r,e=>by
  rw[Rep]at r
  subst r
  cases e
  let[xs,hx,f]:=l _ _ ha
  obtain⟨g,h,⟨o,n,h1,h2,_,j⟩,_⟩:=I.list (L8.of hx)
  let[c,k]:=iJ I l hp f h
  exact #[_,reads_list_at h1 h2 j ‹k›]
theorem iJ(I:Inv X KQ σ H s)(a:LV X.K H M):∀{ds:vu}{ps:List Kj}{vs:vo}{us:List Hn},Np M ds ps->aE X.K H ds vs->Vals vs us->∃b,ReadsAll s.heap us ps b
 |_,_,_,_,.nil,r,e=>by rw[aE]at r;subst r;cases e;exact #[_,.nil]
 |_,_,_,_,.cons h1 h2,r,e=>by
  rw[aE]at r
  let[x,r,8,c,d]:=r
  cases e with
  |cons e1 e2=>
   let[b,f]:=cI I a h1 c e1
   let[bs,g]:=iJ I a h2 d e2
   exact #[_,.cons f g]
end
end
inductive PX(g:Bool->Bool)(x y:D)(M:MH)(Q:DK):Prop
 |mk (p q:Kj)(h1:Pd M x p)(h2:Pd M y q)(h3:JY p=KD)(h4:JY q=KD)(hq:Q (.bl (g (Iy p q))) M):PX g x y M Q
def DF:Lx:=λx y M Q=>match x,y with
 |.int i,.int j=>Q (.bl (decide (i=j))) M
 |.bl i,.bl j=>Q (.bl (decide (i=j))) M
 |x,y=>PX (λb=>b) x y M Q
def FD:Lx:=λx y M Q=>match x,y with
 |.int i,.int j=>Q (.bl (!decide (i=j))) M
 |.bl i,.bl j=>Q (.bl (!decide (i=j))) M
 |x,y=>PX (λb=>!b) x y M Q
section
variable{X:Cx}
def D9(d:X.A.units+64<IV):MF X (Ik .Eq) (PX λb=>b):=by intro KQ s σ H v u t w Q I e f h;obtain⟨x,y,M,R,g,i,a,⟨p,q,j,k,l,m,n⟩,c⟩:=h;let[z,o]:=cI I a j g e;let[bs,r]:=cI I a k i f;exact eq_dataH o r l m d #[.bl _,H,I,8,c _ _ _ _ .refl (by rw[Rep]) a n]
def Dg(d:X.A.units+64<IV):MF X (Ik .NotEq) (PX λb=>!b):=by intro KQ s σ H v u t w Q I e f h;obtain⟨x,y,M,R,g,i,a,⟨p,q,j,k,l,m,n⟩,c⟩:=h;let[z,o]:=cI I a j g e;let[bs,r]:=cI I a k i f;exact ne_dataH o r l m d #[.bl _,H,I,8,c _ _ _ _ .refl (by rw[Rep]) a n]
def oX{i j:Int}:(i==j)=decide (i=j):=by by_cases h:i=j<;>simp[h]
def qZ{i j:Bool}:(i==j)=decide (i=j):=by cases i<;>cases j<;>rfl
theorem bj(c:X.A.units+64<IV):MF X (Ik .Eq) DF:=ix (D9 c) λv u H Q d=>by
 let[x,y,M,R,e,f,a,q,b]:=d;refine #[x,y,M,R,e,f,a,?_,b];unfold DF at q;split at q
 .exact #[_,_,.int _,.int _,8,8,by simpa[Iy,oX]using q]
 .exact #[_,_,.bl _,.bl _,8,8,by simpa[Iy,qZ]using q]
 .exact q
theorem gL(c:X.A.units+64<IV):MF X (Ik .NotEq) FD:=ix (Dg c) λv u H Q d=>by
 let[x,y,M,R,e,f,a,q,b]:=d;refine #[x,y,M,R,e,f,a,?_,b];unfold FD at q;split at q
 .exact #[_,_,.int _,.int _,8,8,by simpa[Iy,oX]using q]
 .exact #[_,_,.bl _,.bl _,8,8,by simpa[Iy,qZ]using q]
 .exact q
def Yd(x y:D):Option Bool:=match y with
 |.non=>KA (match x with
  |.non=>KD
  |_=>KG)
 |.bl b=>KA (match x with
  |.bl a=>decide (a=b)
  |_=>KG)
 |_=>KC
inductive Qu(g:Bool->Bool)(x y:D)(M:MH)(Q:DK):Prop
 |mk (b:Bool)(h:Yd x y=KA b)(q:Q (.bl (g b)) M):Qu g x y M Q
def Hg:Lx:=Qu λb=>b
def vy{K:Hm}{H:Hp}{x y:D}{b:Bool}{v u:V}{k l:Hn}(h:Yd x y=KA b)(g:Rep K H x v)(m:Rep K H y u)(i:L2.RelV v k)(j:L2.RelV u l):plainIs k l=KD/\(k==l)=b:=by
 let f:∀{c:Hn}{d:Bool},l=c->KA d=KA b->plainIs k c=KD->(k==c)=d->plainIs k l=KD/\(k==l)=b:=λe h p q=>by cases h;subst e;exact #[p,q]
 cases y with
 |non=>
  rw[Rep]at m;subst m
  cases x<;>rw[Rep]at g
  case non=>subst g;cases (show k=Value.none from i);exact f j h rfl rfl
  case bl=>subst g;cases (show k=JU _ from i);exact f j h rfl rfl
  case int=>subst g;let[t,8]:=i;exact f j h rfl rfl
  case str=>subst g;let[t,8]:=i;exact f j h rfl rfl
  case ty=>subst g;cases i;exact f j h rfl rfl
  case ref=>subst g;cases i;exact f j h rfl rfl
  all_goals (let[a,xs,8,_]:=g;cases i;exact f j h rfl rfl)
 |bl c=>
  rw[Rep]at m;subst m
  cases x<;>rw[Rep]at g
  case non=>subst g;cases (show k=Value.none from i);exact f j h rfl rfl
  case bl c'=>subst g;cases (show k=JU _ from i);exact f j h rfl (by cases c<;>cases c'<;>rfl)
  case int=>subst g;let[t,8]:=i;exact f j h rfl rfl
  case str=>subst g;let[t,8]:=i;exact f j h rfl rfl
  case ty=>subst g;cases i;exact f j h rfl rfl
  case ref=>subst g;cases i;exact f j h rfl rfl
  all_goals (let[a,xs,8,_]:=g;cases i;exact f j h rfl rfl)
 |_=>cases h
def BD:MF X (Ik .Is) Hg:=by intro KQ s σ H v u j k Q I d f h;obtain⟨x,y,M,R,g,i,a,⟨b,e,q⟩,c⟩:=h;let[e1,e2]:=vy e g i d f;exact wpAny_is_plain e1 #[.bl b,H,I,by rw[e2];rfl,c _ _ _ _ .refl (by rw[Rep]) a q]
end
abbrev RC:=vu->MH->DK->Prop
def Bp(K:Hm)(r:RC):vo->Hp->VK->Prop:=λvs H Q=>∃a M R,aE K H a vs/\LV K H M/\r a M R/\Fin K H R Q
def d9(X:Cx)(f:Hn)(r:RC):Prop:=bY X f (Bp X.K r)
theorem bZ{X:Cx}{f:Hn}{r b:vo->Hp->VK->Prop}(h:bY X f r)(k:∀xs H Q,b xs H Q->r xs H Q):bY X f b:=λKQ s σ H xs us Q I a q=>h KQ s σ H xs us Q I a (k _ _ _ q)
def C4(r:RC)(t:Ld):TD:=λδ M Q=>t δ M λa b=>r a b Q
def tK{K:Hm}{r:RC}{t:Ld}{σ:L2.St}{H:Hp}{Q:VK}(h:lift K (C4 r t) σ H Q):We (Bp K r) (wX K t) σ H Q:=by let[δ,M,R,b,c,q,a]:=h;exact #[δ,M,_,b,c,q,λd e vs H1 g1 f g i=>#[d,e,R,f,g,i,a.go g1]]
section
variable{X:Cx}{x:Str}{p pos:Pos}{e:sg}{es:tr}{t:Ld}{id T:String}{r:RC}
theorem aI(c:d9 X (.builtin id) r)(d:Gl X x)(f:X.mg x=KC)(hv:IG x=KA (.builtin id))(g:DA X (e::es) t)(i:x≠"__name__":=by decide)(a:(x==("__debug__":Str))=KG:=by decide) (j:HC (e::es) X.env=(KG,eval e X.env)::HC es X.env:=by rfl) (b:(IY pos (HC es X.env)).any (·.1)=KG:=by rfl):DE X (.Call (.Name x p) (e::es) [] pos) (C4 r t):=bf (yy c d f hv g i a j b) λ_ _ _ h=>tK h
theorem bJ(c:d9 X (.type T) r)(d:Gl X x)(f:X.mg x=KC)(hv:IG x=KA (.type T))(g:DA X (e::es) t)(i:x≠"__name__":=by decide)(a:(x==("__debug__":Str))=KG:=by decide) (j:HC (e::es) X.env=(KG,eval e X.env)::HC es X.env:=by rfl) (b:(IY pos (HC es X.env)).any (·.1)=KG:=by rfl):DE X (.Call (.Name x p) (e::es) [] pos) (C4 r t):=bf (uT c d f hv g i a j b) λ_ _ _ h=>tK h
def bR{K:Hm}{H:Hp}{d:D}{vs:vo}(h:aE K H [d] vs):∃v,vs=[v]/\Rep K H d v:=by rw[aE]at h;let[x,r,8,h1,h2]:=h;rw[aE]at h2;subst h2;exact #[x,8,h1]
def gc{K:Hm}{H:Hp}{d e:D}{vs:vo}(h:aE K H [d,e] vs):∃v u,vs=[v,u]/\Rep K H d v/\Rep K H e u:=by rw[aE]at h;let[x,r,8,h1,h2]:=h;let[u,8,a]:=bR h2;exact #[x,u,8,h1,a]
def G7:RC:=λa M Q=>match a with
 |[.int i]=>Q (.int (i.natAbs:Int)) M
 |_=>False
theorem tG:d9 X (.builtin "abs") G7:=bZ yd λvs H Q f=>by
 let[b,M,R,g,a,q,c]:=f;rcases b with _|⟨d,b⟩
 .exact HS q
 cases d<;>rcases b with _|⟨e,b⟩<;>try exact HS q
 .rename_i i;let[v,8,r]:=bR g;rw[Rep]at r;subst r;let e:(if i<0 then -i else i)=(i.natAbs:Int):=by split<;>omega
  exact #[7,c _ _ _ _ .refl (by rw[Rep,e]) a q]
def GP:RC:=λa M Q=>match a with
 |[.int i,.int j]=>Q (.int (max i j)) M
 |_=>False
def G4:RC:=λa M Q=>match a with
 |[.int i,.int j]=>Q (.int (min i j)) M
 |_=>False
theorem CI(h:X.calm=KD):d9 X (.builtin "max") GP:=bZ (v5 h) λvs H Q k=>by
 let[b,M,R,l,a,q,c]:=k;rcases b with _|⟨d,b⟩
 .exact HS q
 cases d<;>rcases b with _|⟨e,b⟩<;>try exact HS q
 all_goals (cases e<;>rcases b with _|⟨f,b⟩<;>try exact HS q)
 .rename_i i j;let[v,u,8,r,g]:=gc l;rw[Rep]at r;subst r;let m:u=.int j:=by rw[Rep]at g;exact g
  subst m;let e:(if j>i then j else i)=max i j:=by split<;>omega
  exact #[_,7,c _ _ _ _ .refl (by rw[Rep,e]) a q]
theorem Ci(h:X.calm=KD):d9 X (.builtin "min") G4:=bZ (wa h) λvs H Q k=>by
 let[b,M,R,l,a,q,c]:=k;rcases b with _|⟨d,b⟩
 .exact HS q
 cases d<;>rcases b with _|⟨e,b⟩<;>try exact HS q
 all_goals (cases e<;>rcases b with _|⟨f,b⟩<;>try exact HS q)
 .rename_i i j;let[v,u,8,r,g]:=gc l;rw[Rep]at r;subst r;let m:u=.int j:=by rw[Rep]at g;exact g
  subst m;let e:(if j<i then j else i)=min i j:=by split<;>omega
  exact #[_,7,c _ _ _ _ .refl (by rw[Rep,e]) a q]
def GR:RC:=λa M Q=>match a with
 |[.tup xs]=>Q (.int (xs.length:Int)) M
 |[.rol xs]=>Q (.int (xs.length:Int)) M
 |[.ref l]=>∃xs,M l=KA (.lst xs)/\Q (.int (xs.length:Int)) M
 |_=>False
theorem bC:d9 X (.builtin "len") GR:=bZ pQ λvs H Q g=>by
 let[c,M,R,f,a,q,b]:=g;rcases c with _|⟨d,c⟩
 .exact HS q
 cases d<;>rcases c with _|⟨e,c⟩<;>try exact HS q
 .obtain⟨v,rfl,r⟩:=bR f;rw[Rep]at r;subst r;let[xs,e,q]:=q;let[h,h1,h2]:=a _ _ e;exact #[_,h,8,.inl (L8.of h1),b _ _ _ _ .refl (by rw[Rep,h2.length]) a q]
 .obtain⟨v,rfl,r⟩:=bR f;rw[Rep]at r;let[l,xs,8,h1,h2]:=r;exact #[l,xs,8,.inl h1.sql,b _ _ _ _ .refl (by rw[Rep,h2.length]) a q]
 .obtain⟨v,rfl,r⟩:=bR f;rw[Rep]at r;let[l,xs,8,h1,h2]:=r;exact #[l,xs,8,.inr h1,b _ _ _ _ .refl (by rw[Rep,h2.length]) a q]
def CG:RC:=λa M Q=>match a with
 |[.tup xs]=>Q (.tup xs) M
 |[.rol xs]=>Q (.tup xs) M
 |[.ref l]=>∃xs,M l=KA (.lst xs)/\Q (.tup xs) M
 |_=>False
theorem mz:d9 X (.type "tuple") CG:=bZ nH λvs H Q i=>by
 let[f,M,R,g,a,q,b]:=i;rcases f with _|⟨d,f⟩
 .exact HS q
 cases d<;>rcases f with _|⟨e,f⟩<;>try exact HS q
 .obtain⟨v,rfl,r⟩:=bR g;rw[Rep]at r;subst r;let[xs,e,q]:=q;let[h,h1,h2]:=a _ _ e;exact #[_,h,8,.inl #[L8.of h1,λp c=>b _ _ _ _ (.new c) (by rw[Rep];exact #[p,h,8,L7.of aH,h2.mono (.new c)]) (a.new c) q]]
 .obtain⟨v,rfl,r⟩:=bR g;rw[Rep]at r;let[l,xs,8,h1,h2]:=r;exact #[l,xs,8,.inl #[h1.sql,λp c=>b _ _ _ _ (.new c) (by rw[Rep];exact #[p,xs,8,L7.of aH,h2.mono (.new c)]) (a.new c) q]]
 .obtain⟨v,rfl,r⟩:=bR g;rw[Rep]at r;let[l,xs,8,h1,h2]:=r;exact #[l,xs,8,.inr #[h1,b _ _ _ _ .refl (by rw[Rep];exact #[l,xs,8,h1,h2]) a q]]
def FH:RC:=λa M Q=>match a with
 |[.int i]=>Q (.int i) M
 |[.bl k]=>Q (.int (if k=KD then 1 else 0)) M
 |_=>False
theorem kj:d9 X (.type "int") FH:=bZ vh λvs H Q g=>by
 let[c,M,R,f,a,q,b]:=g;rcases c with _|⟨d,c⟩
 .exact HS q
 cases d<;>rcases c with _|⟨e,c⟩<;>try exact HS q
 .obtain⟨v,rfl,r⟩:=bR f;rw[Rep]at r;subst r;exact .inr #[7,b _ _ _ _ .refl (by rw[Rep]) a q]
 .obtain⟨v,rfl,r⟩:=bR f;rw[Rep]at r;subst r;exact .inl #[7,b _ _ _ _ .refl (by rw[Rep]) a q]
def Yw:D->Option String
 |.non=>KA "NoneType"
 |.bl _=>KA "bool"
 |.int _=>KA "int"
 |.str _=>KA "str"
 |.tup _=>KA "tuple"
 |.rol _=>KA "list"
 |_=>KC
def tV(K:Hm):RC:=λa M Q=>match a with
 |[x,.ty n]=>∃t b,Yw x=KA t/\PySem.W.kitOne K (.type t) (.type n)=KA b/\Q (.bl b) M
 |_=>False
def vj:d9 X (.builtin "isinstance") (tV X.K):=by
 intro KQ s σ H vs us Q I w A;let[E,M,R,B,a,q,g]:=A;unfold tV at q;split at q
 .rename_i x n;let[v,u,8,r,m]:=gc B;rw[Rep]at m;subst m;let[f,C,8,c,D]:=vals2 w;cases (show C=Kg n from D);let[t,b,d,e,q]:=q;let h:∀i,EP X KQ σ Q (.bool b) { s with toks:=i }:=λi=>#[.bl b,H,I.tok i,8,g _ _ _ _ .refl (by rw[Rep]) a q];cases x with
  |non=>cases d;rw[Rep]at r;subst r;cases (show f=Value.none from c);exact PySem.W.kia_one PySem.W.kitx_none I.kIn JA e (λz=>nomatch z) h
  |bl y=>cases d;rw[Rep]at r;subst r;cases (show f=JU y from c);exact PySem.W.kia_one PySem.W.kitx_bool I.kIn JA e (λz=>nomatch z) h
  |int y=>cases d;rw[Rep]at r;subst r;let[t,q]:=(show ∃t,f=Value.int y t from c);cases q;exact PySem.W.kia_one PySem.W.kitx_int I.kIn JA e (λz=>nomatch z) h
  |str y=>cases d;rw[Rep]at r;subst r;let[t,q]:=(show ∃t,f=Value.str y t from c);cases q;exact PySem.W.kia_one PySem.W.kitx_str I.kIn JA e (λz=>nomatch z) h
  |tup y=>
   cases d;rw[Rep]at r
   let[p,xs,8,h1,_]:=r
   cases (show f=II p from c)
   obtain⟨j,_,⟨o,k,l,_⟩,_⟩:=I.tuple h1
   exact PySem.W.kia_one PySem.W.kitx_tuple I.kIn #[o,k,l] e (λz=>nomatch z) h
  |rol y=>
   cases d;rw[Rep]at r
   let[p,xs,8,h1,_]:=r
   cases (show f=II p from c)
   obtain⟨j,_,⟨o,n,k,l,_⟩,_⟩:=I.list h1.sql
   exact PySem.W.kia_one PySem.W.kitx_list I.kIn #[o,k,l] e (λz=>nomatch z) h
  |_=>cases d
 .exact q.elim
end
abbrev Nn:=D->DS->MH->(DS->MH->Prop)->Prop
abbrev sT:=vu->DS->MH->(DS->MH->Prop)->Prop
section
variable(K:Hm)
def xu(H:Hp)(R:DS->MH->Prop)(Q:L2.St->Hp->Prop):Prop:=∀a d b c,LP K H c->Slots K c a b->LV K c d->R a d->Q b c
def Er(t:Nn):TG:=λv σ H Q=>∃d δ M R,Rep K H d v/\Slots K H δ σ/\LV K H M/\t d δ M R/\xu K H R Q
def CB(t:sT):Pr:=λvs σ H Q=>∃a δ M R,aE K H a vs/\Slots K H δ σ/\LV K H M/\t a δ M R/\xu K H R Q
end
theorem xu.go{K:Hm}{H H1:Hp}{R:DS->MH->Prop}{Q:L2.St->Hp->Prop}(g:LP K H H1)(h:xu K H R Q):xu K H1 R Q:=λd M v a b=>h d M v a (g.trans b)
namespace Zq
@[scoped irreducible]def _root_.SD.DG(X:Cx)(e:sg)(t:Nn):Prop:=PG X e (Er X.K t)
@[scoped irreducible]def _root_.SD.DGs(X:Cx)(es:tr)(t:sT):Prop:=QY X es (CB X.K t)
end Zq
theorem sH{X:Cx}{e:sg}{t t':TG}(h:PG X e t)(k:∀v σ H Q,t' v σ H Q->t v σ H Q):PG X e t':=λKQ s σ H v u Q I r q=>h KQ s σ H v u Q I r (k _ _ _ _ q)
theorem uL{X:Cx}{e:tr}{t t':Pr}(h:QY X e t)(k:∀v σ H Q,t' v σ H Q->t v σ H Q):QY X e t':=λKQ s σ H v u Q I r q=>h KQ s σ H v u Q I r (k _ _ _ _ q)
section
variable{X:Cx}{pos:Pos}
def aK(i:Nat):Nn:=λd δ M Q=>Q (δ.set i (KA d)) M
theorem aw(i:Nat){x:Str}(e:X.N.Nodup)(f:X.N[i]?=KA x:=by rfl)(hx:Loc X.env.scope x:=by first|exact Or.inl rfl|exact Or.inr rfl)(g:X.fn x=KD\/X.env.scope.names.lookup x=KA .local:=by first|exact .inl rfl|exact .inr rfl|assumption):DG X (.Name x pos) (aK i):=sH (ui e f hx g) λv σ H Q b=>by let[d,δ,M,R,r,h,a,q,c]:=b;exact(c _ _ _ _ .refl (h.set r i) a q)
def ET:sT:=λa δ M Q=>a=[]/\Q δ M
inductive Pb(t:Nn)(u:sT)(ds:vu)(δ:DS)(M:MH)(Q:DS->MH->Prop):Prop
 |mk (d:D)(r:vu)(h:ds=d::r)(q:t d δ M λδ' M'=>u r δ' M' Q):Pb t u ds δ M Q
theorem aS:DGs X [] ET:=uL lV λvs σ H Q d=>by obtain⟨g,δ,M,R,c,f,a,⟨e,q⟩,b⟩:=d;subst e;rw[aE]at c;exact #[c,b _ _ _ _ .refl f a q]
theorem ax{e:sg}{es:tr}{t:Nn}{u:sT}(h1:DG X e t)(h2:DGs X es u) (b:(Ki (e::es) X.env).map (·.2)=Kk e X.env::(Ki es X.env).map (·.2):=by rfl):DGs X (e::es) (Pb t u):=uL (eP h1 h2 b) λvs σ H Q i=>by obtain⟨s,δ,M,R,g,b,a,⟨d,r,e,q⟩,c⟩:=i;subst e;rw[aE]at g;let[x,xs,8,j,k]:=g;exact #[x,xs,8,d,δ,M,_,j,b,a,q,λf l m v h n o p=>#[r,f,l,R,k.mono h,n,o,p,c.go h]]
inductive QR(n:Nat)(t:sT)(d:D)(δ:DS)(M:MH)(Q:DS->MH->Prop):Prop
 |mk (ds:vu)(h:d=.tup ds)(q:ds.length=n/\t ds δ M Q):QR n t d δ M Q
theorem bg{es:tr}{k:Nat}{t:sT}{n:Nat}(f:X.calm=KD)(h:DGs X es t) (g:(Ki es X.env).length=n:=by rfl) (b:(Ki es X.env).findIdx? (·.1)=KC:=by rfl):DG X (.Tuple es k pos) (QR n t):=sH (pE f h g b) λv σ H Q i=>by obtain⟨d,δ,M,R,r,j,a,⟨l,e,m,q⟩,c⟩:=i;subst e;rw[Rep]at r;let[p,xs,8,h1,h2]:=r;exact #[p,xs,8,h1,by rw[<-h2.length];exact m,l,δ,M,R,h2,j,a,q,c]
def BG:D->D->D->MH->(MH->Prop)->Prop:=λo i v M Q=>match o,i with
 |.ref p,.int k=>∃a j,M p=KA (.lst a)/\ixN a.length k=KA j/\Q (au M p (.lst (a.set j v)))
 |_,_=>False
def Ez(to a:TD):Nn:=λv δ M Q=>to δ M λo b=>a δ b λi c=>BG o i v c λd=>Q δ d
theorem oM{o i:sg}{to g:TD}(m:DE X o to)(n:DE X i g)
 (p:∀v,Kk (.Subscript o i pos) X.env v=(do
  let ov <-holding [v] (eval o X.env)
  let iv <-holding [v,ov] (eval i X.env)
  standAt pos
  holding [v,ov,iv] (setItem ov iv v)
  release [v,ov,iv] []):=by intro _;rfl):DG X (.Subscript o i pos) (Ez to g):=
 sH (Dy m n set_list p) λv σ H Q s=>by
  let[d,δ,M,R,r,c,a,q,e]:=s
  exact #[δ,M,_,c,a,q,λo t u H1 g1 w x y=>#[δ,t,_,c.mono g1,x,y,λi B z h f A k b=>by
   unfold BG at b
   split at b
   .obtain⟨C,j,e1,e2,b⟩:=b
    obtain rfl:u=.ref _:=w
    obtain rfl:z=.int _:=A
    let[xs,h1,h2]:=k _ _ e1
    refine #[_,xs,_,j,8,8,h1,by rw[<-h2.length];exact e2,?_]
    let l:LP X.K h (upd h _ (.lst (xs.set j v))):=.lst h1
    exact e _ _ _ _ ((g1.trans f).trans l) (c.mono ((g1.trans f).trans l)) (k.u7 h1 (h2.set (r.mono (g1.trans f)) j)) b
   .exact b.elim]]
end
section
variable{X:Cx}{pos:Pos}{st:r8}{rest:tq}{t u:Lv}
def cz:Lv:=λB δ M=>B.nx δ M
def dP(t u:Lv):Lv:=λB δ M=>t (B.nxt (u B)) δ M
theorem aF:DSs X [] cz:=pf zI λE σ H b=>by let[δ,M,c,a,B,ok,q]:=b;exact(ok.nx _ _ _ _ .refl c a q)
theorem aj(h1:DSt X st t)(h2:DSs X rest u):DSs X (st::rest) (dP t u):=pf (yw h1 h2) λE σ H b=>by let[δ,M,d,a,B,ok,q]:=b;exact(#[δ,M,d,a,B.nxt (u B),#[λc e f k g h i j=>#[c,e,h,i,B,ok.go g,j],ok.rt,ok.bk,ok.ct],q])
theorem aq(h1:DSt X st t):DSs X [st] t:=zU h1
def uk:Lv:=λ_ _ _=>False
theorem zf:DSt X st uk:=cy yT λE σ H b=>by let[δ,M,c,a,B,ok,q]:=b;exact(q.elim)
theorem vG{c:tq}:DSs X c uk:=pf vN λE σ H b=>by let[δ,M,d,a,B,ok,q]:=b;exact(q.elim)
def cH(te:TD):Lv:=λB δ M=>te δ M λ_ a=>B.nx δ a
theorem cg{e:sg}{te:TD}(f:DE X e te)(c:JH e KC pos.line X.env=pure KG:=by rfl):DSt X (.Expr e pos) (cH te):=cy (Az f c) λE σ H b=>by let[δ,M,c,a,B,ok,q]:=b;exact(#[δ,M,_,c,a,q,λd i v H1 g1 j g h=>ok.nx _ _ _ _ g1 (c.mono g1) g h])
def dR(te:TD):Lv:=λB δ M=>te δ M B.rt
theorem ay{e:sg}{te:TD}(c:DE X e te):DSt X (.Return (KA e) pos) (dR te):=cy (Cc c) λE σ H b=>by let[δ,M,f,a,B,ok,q]:=b;exact(#[δ,M,_,f,a,q,λd j v H1 g1 g h i=>ok.rt _ _ _ _ g1 g h i])
def d7(c:Lg)(t u:Lv):Lv:=λB δ M=>c δ M λb a=>if b=KD then t B δ a else u B δ a
theorem aR{c:sg}{a b:tq}{tc:Lg}(i:DT X c tc)(j:DSs X a t)(k:DSs X b u):DSt X (.If c a b pos) (d7 tc t u):=
 cy (Fc i j k) λE σ H d=>by let[δ,M,f,a,B,ok,q]:=d;exact(#[δ,M,_,f,a,q,λc g H1 g1 h e=>by
  cases c with
  |true=>rw[KI rfl]at e ⊢;exact #[δ,g,f.mono g1,h,B,ok.go g1,e]
  |false=>rw[KH HF]at e ⊢;exact #[δ,g,f.mono g1,h,B,ok.go g1,e]])
def cG(te:TD)(g:Nn):Lv:=λB δ M=>te δ M λd a=>g d δ a B.nx
theorem bG{tg e:sg}{te:TD}{g:Nn}(f:DE X e te)(h:DG X tg g)(c:swapsWithSole [tg] e pos.line X.env=pure KG:=by rfl)(hw:swappedStores [tg] e X.env=pure KC:=by rfl)
 (h1:(Ki [tg] X.env).map (·.2)=[Kk tg X.env]:=by rfl):DSt X (.Assign [tg] e pos) (cG te g):=
 cy (BX f h c hw h1) λE σ H b=>by let[δ,M,c,a,B,ok,q]:=b;exact(#[δ,M,_,c,a,q,λd i v H1 g1 j k l=>
  #[d,δ,i,B.nx,j,c.mono g1,k,l,λm w n x o p r s=>ok.nx _ _ _ _ (g1.trans o) p r s]])
theorem aA(i:Nat){x:Str}{e:sg}{te:TD}{c:Pos}(g:X.N.Nodup)(h:DE X e te)(j:X.N[i]?=KA x:=by rfl)(hx:Loc X.env.scope x:=by first|exact Or.inl rfl|exact Or.inr rfl)(f:JH e (KA (.Name x c)) pos.line X.env=pure KG:=by rfl) (k:X.fn x=KD\/X.env.scope.names.lookup x=KA .local:=by first|exact .inl rfl|exact .inr rfl|assumption):DSt X (.Assign [.Name x c] e pos) (cG te (aK i)):=cy (C0 g j hx h f k) λE σ H b=>by let[δ,M,f,a,B,ok,q]:=b;exact(#[δ,M,_,f,a,q,λd o v H1 g1 l m n=>ok.nx _ _ _ _ g1 ((f.mono g1).set l i) m n])
def EF(i j:Nat)(a:Ld):Lv:=λB δ M=>a δ M λb c=>∃d e,b=[d,e]/\B.nx ((δ.set i (KA d)).set j (KA e)) c
theorem fT(i j:Nat){x y:Str}{a b:sg}{o:Ld}{h k pt:Pos}{l m f}(p:X.calm=KD)(r:X.N.Nodup)(s:DA X [a,b] o)(n:i≠j:=by decide)(w:X.N[i]?=KA x:=by rfl)(A:X.N[j]?=KA y:=by rfl)
 (hx:X.env.scope.names.lookup x=KA .local:=by rfl) (C:X.env.scope.names.lookup y=KA .local:=by rfl)
 (hw:swappedStores [.Tuple [.Name x h,.Name y k] l pt] (.Tuple [a,b] m f) X.env=pure (KA [x,y]):=by rfl)
 (g:swapsWithSole [.Tuple [.Name x h,.Name y k] l pt] (.Tuple [a,b] m f) pos.line X.env=pure KG:=by rfl) :
 DSt X (.Assign [.Tuple [.Name x h,.Name y k] l pt] (.Tuple [a,b] m f) pos) (EF i j o):=
 cy (CZ p r w A n hx C s hw g) λE σ H c=>by let[δ,M,g,a,B,ok,q]:=c;exact(#[δ,M,_,g,a,q,λL O vs H1 g1 D F G=>by
  let[d,e,z,I]:=G
  subst z
  let[v,u,8,J,K]:=gc D
  exact #[v,u,8,ok.nx _ _ _ _ g1 (((g.mono g1).set J i).set K j) F I]])
def zR(c:Lg)(f:Lv):Lv:=λB δ M=>∃W:Nat->DS->MH->Prop,(∃m,W m δ M)/\∀m δ M,W m δ M->
 c δ M λb d=>if b=KD then f (B.lp λa g=>∃e,e<m/\W e a g) δ d else B.nx δ d
theorem fX{c:sg}{body:tq}{tc:Lg}{G:Lv}(J:PassesOwn (HI X.prog X.w) X.A X.env X.xe)(L:DT X c tc)(N:DSs X body G):DSt X (.While c body [] pos) (zR tc G):=
 cy (xI J L N) λE σ H O=>by
  obtain⟨δ,M,p,a,B,ok,W,⟨m,z⟩,q⟩:=O
  exists λm σ e=>LP X.K H e/\∃δ M,Slots X.K e δ σ/\LV X.K e M/\W m δ M,#[m,.refl,δ,M,p,a,z]
  rintro m σ e ⟨g,δ,M,p,a,z⟩
  refine #[δ,M,_,p,a,q m δ M z,λb P H1 g1 I x=>?_]
  cases b with
  |true=>
   rw[KI rfl]at x ⊢
   refine #[λC D=>∃o,o<m/\(LP X.K H D/\∃δ M,Slots X.K D δ C/\LV X.K D M/\W o δ M),λk e h=>h,δ,P,p.mono g1,I,_,?_,x]
   refine #[λf y k e n r s i=>by let[o,l,F]:=i;exact(#[o,l,(g.trans g1).trans n,f,y,r,s,F]),λd M v e n=>ok.rt d M v e ((g.trans g1).trans n),λf y k e n r s Q=>ok.nx _ _ _ _ ((g.trans g1).trans n) r s Q,λf y k e n r s j=>by let[o,l,F]:=j;exact(#[o,l,(g.trans g1).trans n,f,y,r,s,F])]
  |false=>
   rw[KH HF]at x ⊢
   exact ok.nx _ _ _ _ (g.trans g1) (p.mono g1) I x
inductive WU(g:Nn)(tb:Lv)(B:EndsD)(n:Nat)(δ0:DS)(M0:MH):Prop
 |mk (W:Nat->DS->MH->Prop)(w0:W 0 δ0 M0)(turn:∀i δ M,i<n->W i δ M->g (.int (i:Int)) δ M λδ2 M2=>tb (B.lp (W (i+1))) δ2 M2)(done:∀δ M,W n δ M->B.nx δ M):WU g tb B n δ0 M0
inductive WV(g:Nn)(tb:Lv)(B:EndsD)(ds:vu)(δ0:DS)(M0:MH):Prop
 |mk (n:Nat)(e:ds=[.int (n:Int)])(q:n<2^60/\WU g tb B n δ0 M0):WV g tb B ds δ0 M0
def Dq(a:Ld)(g:Nn)(b:Lv):Lv:=λB δ M=>a δ M λc d=>WV g b B c δ d
theorem gh{tg e:sg}{body:tq}{I:Ld}{g:Nn}{J:Lv}{p L:Pos}(N:PassesOwn (HI X.prog X.w) X.A X.env X.xe)(O:X.calm=KD)(P:Gl X "range")(Q:X.mg "range"=KC)(R:DA X [e] I)(S:DG X tg g)(T:DSs X body J)
 (o:HC [e] X.env=[(KG,eval e X.env)]:=by rfl) (U:∀x,Ia (.Call (.Name "range" p) [e] [] L) X.env x=pure x:=by intro _;rfl):DSt X (.For tg (.Call (.Name "range" p) [e] [] L) body [] pos) (Dq I g J):=
 cy (xJ N O (nP P Q R o) S T U) λE σ H ⟨δ,M,o,a,B,ok,q⟩=>#[δ,M,_,o,a,q,λds V vs H1 g1 Y Z z9=>by
  let[n,e,hn,W,w0,j,done]:=z9
  subst e
  let[v,8,r]:=bR Y
  rw[Rep]at r;subst r
  exists (n:Int),8,(),()
  rw[show((n:Int)).toNat=n from by simp]
  refine vZ (λi σ c=>LP X.K H c/\∃δ M,Slots X.K c δ σ/\LV X.K c M/\W i δ M) #[g1,δ,V,o.mono g1,Z,w0] ?_ ?_
  .rintro i σ H2 hi ⟨h,δ,M,z,C,D⟩
   refine #[.int (i:Int),δ,M,_,by rw[Rep];simp,z,C,j i δ M hi D,λF M3 a0 H3 s s3 a3 q3=>?_]
   refine #[F,M3,s3,a3,_,?_,q3]
   exact #[λb y k c f l m G=>#[(h.trans s).trans f,b,y,l,m,G],λd M v c f=>ok.rt d M v c ((h.trans s).trans f),λb y k c f l m q'=>ok.nx _ _ _ _ ((h.trans s).trans f) l m q',λb y k c f l m G=>#[(h.trans s).trans f,b,y,l,m,G]]
  .rintro σ H2 ⟨h,δ,M,z,C,D⟩
   exact ok.nx _ _ _ _ h z C (done δ M D)]
end
def iK{b:Bool}{A B:Prop}(e:b=KD)(h:A):if b=KD then A else B:=by rw[KI e];exact h
def gr{b:Bool}{A B:Prop}(e:b=KG)(h:B):if b=KD then A else B:=by rw[KH (by rw[e];exact HF)];exact h
theorem yg{b c:TD}{δ:DS}{M:MH}{Q:DK}(a d:Bool)(f:∀K:DK,K (.bl a) M->b δ M K)(g:a=KD->∀K:DK,K (.bl d) M->c δ M K)(e:Q (.bl (a&&d)) M):xq b c δ M Q:=
 f _ #[a,8,by
  cases a with
  |true=>rw[KI rfl];exact g rfl _ e
  |false=>rw[KH HF];exact e]
theorem QF{b c:Lg}{δ:DS}{M:MH}{Q:Bool->MH->Prop}(a d:Bool)(f:∀K:Bool->MH->Prop,K a M->b δ M K)(g:a=KG->∀K:Bool->MH->Prop,K d M->c δ M K)(e:Q (a||d) M):FC b c δ M Q:=
 f _ (by
  cases a with
  |true=>rw[KI rfl];exact e
  |false=>rw[KH HF];exact g rfl _ e)
theorem nt{b c:Lg}{δ:DS}{M:MH}{Q:Bool->MH->Prop}(a d:Bool)(f:∀K:Bool->MH->Prop,K a M->b δ M K)(g:a=KD->∀K:Bool->MH->Prop,K d M->c δ M K)(e:Q (a&&d) M):BK b c δ M Q:=
 f _ (by
  cases a with
  |true=>rw[KI rfl];exact g rfl _ e
  |false=>rw[KH HF];exact e)
def uC(r b:Lx)(c d tc:TD):TD:=λδ M Q=>c δ M λx e=>d δ e λy f=>r x y f λz a=>∃k,z=.bl k/\if k=KD then tc δ a λu g=>b y u g Q else Q (.bl KG) a
theorem cE{t u:Lv}{B:EndsD}{δ:DS}{M:MH}(W:DS->MH->Prop)(c:∀a b,W a b->u B a b)(d:(∀a b,W a b->u B a b)->t (B.nxt (u B)) δ M):dP t u B δ M:=d c
def Sub(b M:MH):Prop:=∀a o,b a=KA o->M a=KA o
theorem Sub.refl{M:MH}:Sub M M:=λ_ _ h=>h
theorem Sub.trans{M c M2:MH}(a:Sub M c)(b:Sub c M2):Sub M M2:=λx o h=>b x o (a x o h)
theorem Sub.new{M b:MH}{p:r4}{o:MO}(c:M p=KC)(s:Sub b M):Sub b (au M p o):=λa u h=>by rw[ak (λe=>by subst e;rw[s _ _ h]at c;cases c)];exact s _ _ h
inductive Pu(Q:DK)(d:D)(M:MH):Prop
 |mk (M':MH)(s:Sub M' M)(q:Q d M'):Pu Q d M
@[reducible] def kY(Q:DK):EndsD:={ nx:=λ_ a=>Pu Q .non a,rt:=Pu Q }
theorem LW{Q:DK}{d:D}{M:MH}(q:Q d M):Pu Q d M:=#[M,.refl,q]
abbrev Lo:=vu->MH->DK->Prop
def d3(K:Hm)(sp:Lo):Sp:=λvs H Q _=>∃a M R,aE K H a vs/\LV K H M/\sp a M R/\Fin K H R Q
def Cal(P:HL)(w:Il)(K:Hm)(mg:Str->Option Hn)(base:r_)(k:Nat)(x:Str)(sp:Lo):Prop:=
 ∃f fd ps,Ll P w K mg base MY k f fd ps (d3 K sp)/\mg x=KA (.ref f)/\J5 K (.ref f)=KD/\Binds K fd ps []
theorem Cal.mono{P:HL}{w:Il}{K:Hm}{mg:Str->Option Hn}{base:r_}{j k:Nat}{x:Str}{sp:Lo}(h:Cal P w K mg base j x sp)(l:j<=k):Cal P w K mg base k x sp:=let⟨f,fd,ps,F,r⟩:=h;#[f,fd,ps,F.mono l,r]
section
variable{X:Cx}{k:Nat}{x:Str}{sp:Lo}{p pos:Pos}{e:sg}{es:tr}{t:Ld}
def sY(sp:Lo)(t:Ld):TD:=λδ M Q=>t δ M λa b=>sp a b Q
def ao(C:Cal X.prog X.w X.K X.mg X.base k x sp)(g:LU k X.A)(h:DA X (e::es) t)(i:Gl X x:=by rfl)(b:(x==("__debug__":Str))=KG:=by decide)
 (j:HC (e::es) X.env=(KG,eval e X.env)::HC es X.env:=by rfl) (c:(IY pos (HC es X.env)).any (·.1)=KG:=by rfl):DE X (.Call (.Name x p) (e::es) [] pos) (sY sp t):=by
 let[f,fd,ps,F,l,m,n]:=C
 refine bf (zV F g i l m n .nil ux h b j c) λσ H Q a=>?_
 let[δ,M,R,o,r,q,d]:=a
 refine #[δ,M,_,o,r,q,λs u vs H1 g1 v y z=>?_]
 show d3 X.K sp (vs++[]) H1 Q E0
 rw[Jm]
 exact #[s,u,R,v,y,z,d.go g1]
end
def dr(N:u_)(ds:vu):DS:=ds.map KA++Ic (N.length-ds.length) KC
section
variable{P:HL}{w:Il}{K:Hm}{mg:Str->Option Hn}{base:r_}
def Vz{x qual:Str}{st:r8}{f:r4}{fd:FuncData}{N ps:u_}{k:Nat}{sp:Lo}(F:Pn K x qual st f fd)(S:LN N ps (ar st))(len:∀ds M Q,sp ds M Q->ds.length=ps.length)
 (l:∀X:Cx,X.prog=P->True) (body:∀(cdv:Hn)(A:Ig)(outer:List Env)(s:Hq)(H:Hp)(E:XK),LU k (A.deeper (Kl qual (ar st) s.z f cdv))->
  ∃t,DSs (hW MY P w K mg base N qual (ar st) f cdv A outer s H E).nox (aN st) t/\∀ds M Q,sp ds M Q->t (kY Q) (dr N ds) M):Ll P w K mg base MY (k+1) f fd ps (d3 K sp):=by
 refine F.ok S (λvs H Q E b=>by let[ds,M,R,m,_,q,_]:=b;rw[<-m.length];exact len _ _ _ q) λcdv A outer s H vs Q E y c=>?_
 let[ds,M,R,m,a,q,i]:=c
 let[t,h,B]:=body cdv A outer s H E y
 refine #[_,h,dr N ds,M,lj m,a,(kY R),#[λC D G p g I n j=>?_,λd D v p g r n e=>by let[u,o,j]:=e;exact(i _ _ _ _ g r (n.sub o) j),λ_ _ _ _ _ _ _ z=>z,λ_ _ _ _ _ _ _ z=>z],B ds M R q]
 let[u,o,j]:=j
 exact i .non u .non p g (by rw[Rep]) (n.sub o) j
def Txt(K:Hm)(mg:Str->Option Hn)(x:Str)(st:r8):Prop:=∃f fd,Pn K x x st f fd/\mg x=KA (.ref f)
theorem Txt.mk{h:r_}{x:Str}{st:r8}{f:r4}{oc:Hn}{od an:Option r4}{osl:Array (Option Hn)}{kV b d cdv ct:Hn}(X:K.In h)(G:h.Ns IA mg)(a:JZ K IA x=KA (KA (.ref f))) (l:K.lookup f=KA #[oc,od,.func (IH x x (aY st) (aN st) (ar st) .none kV b d an cdv ct),osl]) (c:JR K cdv x=KD) (k:J5 K (.ref f)=KD):Txt K mg x st:=#[f,_,pR l c k,PySem.W.mg_of X G a]
def vt{x:Str}{st:r8}{N ps:u_}{k:Nat}{sp:Lo}(T:Txt K mg x st)(S:LN N ps (ar st))
 (b:∀(kV a c:Hn)(an:Option r4)(cdv ct:Hn)(us:List Hn),us.length=ps.length->Kc (IH x x (aY st) (aN st) (ar st) .none kV a c an cdv ct) #[us,[]]=pure (ps.zip us))
 (len:∀ds M Q,sp ds M Q->ds.length=ps.length)
 (body:∀(f:r4)(cdv:Hn)(A:Ig)(outer:List Env)(s:Hq)(H:Hp)(E:XK),LU k (A.deeper (Kl x (ar st) s.z f cdv))->
  ∃t,DSs (hW MY P w K mg base N x (ar st) f cdv A outer s H E).nox (aN st) t/\∀ds M Q,sp ds M Q->t (kY Q) (dr N ds) M):Cal P w K mg base (k+1) x sp:=by
 let[f,fd,F,d]:=T
 exact #[f,fd,ps,Vz F S len (λ_ _=>trivial) (body f),d,F.kp,F.binds b]
end
def sL:IG "abs"=KA (.builtin "abs"):=by decide +kernel
def sQ:IG "max"=KA (.builtin "max"):=by decide +kernel
def zw:IG "min"=KA (.builtin "min"):=by decide +kernel
def bA:IG "len"=KA (.builtin "len"):=by decide +kernel
def Cb:IG "all"=KA (.builtin "all"):=by decide +kernel
def nB:IG "isinstance"=KA (.builtin "isinstance"):=by decide +kernel
def mh:IG "tuple"=KA (.type "tuple"):=by decide +kernel
def oG:IG "list"=KA (.type "list"):=by decide +kernel
def jW:IG "int"=KA (.type "int"):=by decide +kernel
def z4:IG "bool"=KA (.type "bool"):=by decide +kernel
section
variable{P:HL}{w:Il}{K:Hm}{mg:Str->Option Hn}
def Gv{x:Str}{st:r8}{N:u_}{p:Str}{k:Nat}{sp:Lo}{fa:r4}(T:Txt K mg x st)(b:mg x=KA (.ref fa))(S:LN N [p] (ar st))
 (d:∀(kV a c:Hn)(an:Option r4)(cdv ct:Hn)(us:List Hn),us.length=[p].length->Kc (IH x x (aY st) (aN st) (ar st) .none kV a c an cdv ct) #[us,[]]=pure ([p].zip us))
 (len:∀ds M Q,sp ds M Q->ds.length=[p].length)
 (body:∀(base:r_)(f:r4)(cdv:Hn)(A:Ig)(outer:List Env)(s:Hq)(H:Hp)(E:XK),LU k (A.deeper (Kl x (ar st) s.z f cdv))->
  ∃t,DSs (hW MY P w K mg base N x (ar st) f cdv A outer s H E).nox (aN st) t/\∀ds M Q,sp ds M Q->t (kY Q) (dr N ds) M) :
 ∃fd,(∀(s:Hq)(u:Hn),BindsTo s fd #[[u],[]] [(p,u)])/\∀base:r_,Ll P w K mg base MY (k+1) fa fd [p] (d3 K sp):=by
 let[f,fd,F,g]:=T
 let e:=b.symm.trans g
 cases e
 refine #[fd,λs u=>?_,λbase=>Vz F S len (λ_ _=>trivial) (body base _)]
 let[oc,od,kV,a,c,an,cdv,ct,osl,8,i,h]:=F.ex
 exact .of_eq (d kV a c an cdv ct [u] rfl)
end
end SD
namespace Ma
open PySem PySem.Spec PyProof.Rows L2 SD
abbrev fr(q:Rat):D:=.tup [.int q.num,.int (q.den:Int)]
def den_pos(q:Rat):(0:Int)<(q.den:Int):=by have:=q.den_pos;omega
def Bq(n:Nat)(q:Rat):Prop:=Bd n q.num/\Bd n (q.den:Int)
theorem Bq.mono{m n:Nat}{q:Rat}(h:Bq m q)(l:m<=n):Bq n q:=#[h.1.mono l,h.2.mono l]
theorem qa{t b:Int}(a:0<b):t.fdiv b=t/b:=Ir _ ()
def fdiv_neg{t b:Int}(hd:b ∣ t)(d:0<b):t.fdiv (-b)=-(t/b):=by
 let[c,8]:=hd;let a:b≠0:=()
 rw[Int.mul_ediv_cancel_left _ a];have:b*c=-b * -c:=by rw[Int.neg_mul_neg]
 rw[this];exact Int.mul_fdiv_cancel_left _ ()
theorem tQ(t b:Int):((K9 t.natAbs b.natAbs:Nat):Int) ∣ t:=Int.ofNat_dvd_left.mpr (Nat.gcd_dvd_left _ _)
theorem t7(t b:Int):((K9 t.natAbs b.natAbs:Nat):Int) ∣ b:=Int.ofNat_dvd_left.mpr (Nat.gcd_dvd_right _ _)
def n9(t b:Int):Int.gcd b t=K9 t.natAbs b.natAbs:=by unfold Int.gcd;exact Nat.gcd_comm _ _
theorem ua{t b:Int}(a:b≠0):0<K9 t.natAbs b.natAbs:=Nat.gcd_pos_of_pos_right _ ()
def uy{t b:Int}(a:0<b):t.fdiv (K9 t.natAbs b.natAbs:Nat)=(Rat.divInt t b).num/\b.fdiv (K9 t.natAbs b.natAbs:Nat)=((Rat.divInt t b).den:Int):=by
 let c:=ua (t:=t) (b:=b) ();rw[qa (),qa (),Rat.num_divInt,Rat.den_divInt,KH (),Jb a,Int.one_mul,n9];exists 8;rw[Int.natCast_ediv]
 congr 1
 omega
def Aa{t b:Int}(a:b<0):t.fdiv (-((K9 t.natAbs b.natAbs:Nat):Int))=(Rat.divInt t b).num/\b.fdiv (-((K9 t.natAbs b.natAbs:Nat):Int))=((Rat.divInt t b).den:Int):=by
 let c:=ua (t:=t) (b:=b) ();rw[fdiv_neg (tQ t b) (),fdiv_neg (t7 t b) (),Rat.num_divInt,Rat.den_divInt,KH (),IS a,n9];constructor
 .rw[show(-1:Int)*t=-t from by omega,Int.neg_ediv_of_dvd (tQ t b)]
 .rw[Int.natCast_ediv,show((b.natAbs:Nat):Int)=-b from by omega,Int.neg_ediv_of_dvd (t7 t b)]
def rJ{t b:Int}(a:b≠0):(Rat.divInt t b).num.natAbs<=t.natAbs/\(Rat.divInt t b).den<=b.natAbs:=by
 constructor
 .rw[Rat.num_divInt];refine Iv (Int.natAbs_ediv_le_natAbs _ _) ?_;rw[Int.natAbs_mul];rcases IX b 0 with h|h|h
  .rw[IS h];simp
  .exact absurd h a
  .rw[Jb h];simp
 .rw[Rat.den_divInt,KH a];exact Nat.div_le_self _ _
def Bq.divInt{n:Nat}{t b:Int}(a:b≠0)(h1:Bd n t)(h2:Bd n b):Bq n (Rat.divInt t b):=by let[c,d]:=rJ (t:=t) a;exact #[Nat.lt_of_le_of_lt c h1,Nat.lt_of_le_of_lt ‹d› h2]
def uK(x y:Nat):Int.fmod (x:Int) (y:Int)=((x%y:Nat):Int):=by rw[Int.fmod_eq_emod_of_nonneg _ ()];rfl
def rH(q r:Rat):Iy (.tuple [.int q.num,.int (q.den:Int)]) (.tuple [.int r.num,.int (r.den:Int)])=decide (q=r):=by
 simp only[Iy,IT,Bool.and_true];by_cases h:q=r
 .subst h;simp
 .rw[KJ h];rw[Bool.eq_false_iff];intro z;rw[Je,beq_iff_eq,beq_iff_eq]at z;exact h (Rat.ext z.1 (by have:=z.2;omega))
def Fj(q r:Rat):decide (q.num*(r.den:Int)<r.num*(q.den:Int))=decide (q<r):=by rw[KN,Rat.lt_iff]
abbrev spt(a b:Rat):D:=.tup [fr a,fr b]
def l4(a b c d:Rat):Iy (.tuple [.tuple [.int a.num,.int (a.den:Int)],.tuple [.int b.num,.int (b.den:Int)]]) (.tuple [.tuple [.int c.num,.int (c.den:Int)],.tuple [.int d.num,.int (d.den:Int)]])=decide (a=c/\b=d):=by rw[Iy,IT,IT,IT,rH,rH,Bool.and_true,J4]
def jd(q:Rat):(q.den:Int)≠0:=by have:=q.den_pos;omega
def sub_eq(q r:Rat):Rat.divInt (q.num*(r.den:Int)-r.num*(q.den:Int)) ((q.den:Int)*(r.den:Int))=q-r:=by rw[<-Rat.divInt_sub_divInt _ _ (jd q) (jd r),Rat.num_divInt_den,Rat.num_divInt_den]
theorem uG(q r:Rat):(q.den:Int)*(r.den:Int)≠0:=Int.mul_ne_zero (jd q) (jd r)
theorem Bq.tI{n:Nat}{q r:Rat}(a:Bq n q)(b:Bq n r):Bd (2*n+1) (q.num*(r.den:Int)-r.num*(q.den:Int)):=((a.1.mul b.2).sub (b.1.mul a.2)).mono ()
def sgn(z:Rat):Int:=if 0<z then 1 else if z<0 then -1 else 0
def cr(a b c d x y:Rat):Rat:=(c-a)*(y-b)-(d-b)*(x-a)
abbrev wll(a b c d:Rat):D:=.tup [spt a b,spt c d]
def ah(a b c d:Rat):Prop:=a<c\/a=c/\b<d
instance(a b c d:Rat):Decidable (ah a b c d):=inferInstanceAs (Decidable (_\/_))
def pos_int{i:Int}(h:0<i):(0:Rat)<(i:Rat):=by rw[Rat.lt_iff];simpa using h
end Ma
namespace SD
open PySem PySem.Spec PyProof.Rows L2
def fq(names:List (Str×JQ))(env:Env):List (Str×r4):=(names.filter λy=>y.2==.free).reverse.map λy=>(y.1,(env.cells.lookup y.1).getD 0)
def mV{scope:JB}{env:Env}(h:∀y∈scope.names,y.2=.free->∃c,env.cells.lookup y.1=KA c):closureFor scope env=pure (fq scope.names env):=by
 let key:∀(names:List (Str×JQ)) (b:List (Str×r4)),(∀y∈names,y.2=.free->∃c,env.cells.lookup y.1=KA c)->
  (forIn names b (λ(x:Str×JQ) (r:List (Str×r4))=>if(x.2==K4)=KD then do let a <-cellOf env x.1;pure (JW ((x.1,a)::r))else pure (JW r)):Sem (List (Str×r4)))=pure (fq names env++b):=by
  intro names
  induction names with
  |nil=>intro b _;rfl
  |cons y j g=>
   intro b e
   let[n,k]:=y
   rw[List.forIn_cons]
   by_cases d:(k==K4)=KD
   .obtain⟨c,i⟩:=e (n,k) (K6 ..) ‹d›
    let e1:cellOf env n=pure c:=by unfold cellOf;rw[i]
    dsimp only
    rw[KI d,e1]
    simp only[pure_bind]
    rw[g _ λy f=>e y (IL _ f)]
    unfold fq
    rw[List.filter_cons_of_pos ‹d›,List.reverse_cons,Ib,List.append_assoc]
    simp[i]
   .dsimp only
    rw[KH d]
    simp only[pure_bind]
    rw[g _ λy f=>e y (IL _ f)]
    unfold fq
    rw[List.filter_cons_of_neg ‹d›]
 have:=key scope.names [] h;rw[Jm]at this;unfold closureFor;exact Eq.trans (congrArg (λt:Sem (List (Str×r4))=>t >>= λcs=>pure cs) this) rfl
def qI{env:Env}{y:Str}{c:r4}:∀{names:List (Str×JQ)},(∀z∈names,z.2=.free->∃c,env.cells.lookup z.1=KA c)->(fq names env).lookup y=KA c->env.cells.lookup y=KA c:=by intro names h e;let b:=Ii e;unfold fq at b;let[z,a,e2]:=Iz.mp b;rw[List.mem_reverse,J1]at a;let[f,d]:=h z a.1 ‹a.2›;rw[d]at e2;cases e2;exact d
def qx{env:Env}{y:Str}{names:List (Str×JQ)}(a:(y,K4)∈names):∃c,(fq names env).lookup y=KA c:=by
 cases e:(fq names env).lookup y with
 |some c=>exact #[c,rfl]
 |none=>
  have:=List.lookup_eq_none_iff.mp e (y,(env.cells.lookup y).getD 0) (Iz.mpr #[(y,.free),List.mem_reverse.mpr (J1.mpr #[a,rfl]),rfl])
  simp at this
theorem gS{env:Env}(d:env.scope.kind=.function):∀{names:List (Str×JQ)} {y:Str} {k:JQ},
 (names.map λ(n,k)=>if(k==K4&&env.scope.kind==.function&&env.kindOf n==KA .cell)then(n,NameKind.cell)else(n,k)).lookup y=KA k->
  names.lookup y=KA k\/(k=.cell/\names.lookup y=KA .free)
 |[],_,_,h=>by simp at h
 |(n,q)::r,y,k,h=>by
  let e:=@gS env d r y k
  rw[HG]at h
  dsimp only at h
  by_cases b:(y==n)=KD
  .by_cases c:(q==K4&&env.scope.kind==.function&&env.kindOf n==KA .cell)=KD
   .rw[KI c,IP,b]at h
    let f:q=.free:=by
     rw[Je,Je]at c
     simpa using c.1.1
    cases h
    right
    exact #[8,by rw[IP,b,f]]
   .rw[KH c,IP,b]at h
    left
    rw[IP,b];exact h
  .have a:(y==n)=KG:=‹b›
   let g:(r.map λ(n,k)=>if(k==K4&&env.scope.kind==.function&&env.kindOf n==KA .cell)then(n,NameKind.cell)else(n,k)).lookup y=KA k:=by
    split at h
    .rw[IP,a]at h;exact h
    .rw[IP,a]at h;exact h
   rw[IP,a]
   exact e g
theorem km{X:Cx}{tg a:sg}{c b:TI}(h:PI X tg a c)(k:∀σ H R,b σ H R->c σ H R):PI X tg a b:=λKQ s σ H R I q=>h KQ s σ H R I (k _ _ _ q)
def GJ(K:Hm)(b:TE):TI:=λσ H R=>b σ H λx H1=>∃a,x=.ref a/\(((∃xs,L8 K H1 a xs)/\R (Ym K a) H1)\/((∃xs,L7 K H1 a xs)/\R (Yl K a) H1))
def DL{X:Cx}{tg l:sg}{j:TE}(k:PE X l j):PI X tg l (GJ X.K j):=by
 intro KQ s σ H R I h;refine LS (k KQ s σ H _ I h) λv c d=>?_;let[x,H1,f,m,n]:=d;let[a,e,z]:=n;subst e;cases m
 let fp:∀b∈[c.z],cJ X KQ H1 b:=λb r=>by
  obtain rfl:b=c.z:=‹r›
  exact f.pD (Hu _) (f.hok.fresh (Hu _))
 rcases z with⟨⟨xs,i⟩,q⟩|⟨⟨xs,i⟩,q⟩
 .obtain⟨g,t,p,u⟩:=f.list i;exact wpAny_pyIter_list p.isList #[_,[c.z],_,_,H1,8,f.kept (t':=c.toks) λb o e=>Hr _ e,vg a _,#[_,Hx _ rfl,8,rfl],fp,q]
 .obtain⟨g,t,p,u⟩:=f.tuple i;exact wpAny_pyIter_tuple (show c.heap.IsTuple a g.toArray from p) #[_,[c.z],_,_,H1,8,f.kept (t':=c.toks) λb o e=>Hr _ e,sU a _,#[_,Hx _ rfl,8,rfl],fp,q]
structure OI where
 n:Nat
 item:Nat->v9
 C:MH->Prop
abbrev MP:=DS->MH->(OI->MH->Prop)->Prop
structure WT(K:Hm)(H1:Hp)(I:OI)(J:It):Prop where
 stop:∀H2 M2,LP K H1 H2->LV K H2 M2->I.C M2->J.stop I.n H2
 go:∀i H2 M2,i<I.n->LP K H1 H2->LV K H2 M2->I.C M2->J.go i H2
 yld:∀i H2 M2 v H3,i<I.n->LP K H1 H2->LV K H2 M2->I.C M2->J.yld i H2 v H3->LP K H2 H3/\LV K H3 M2/\∃d,I.item i=KA d/\Rep K H3 d v
def lC(K:Hm)(t:MP):TI:=λσ H R=>∃δ M b,Slots K H δ σ/\LV K H M/\t δ M b/\∀I c a J,LP K H a->LV K a c->b I c->WT K a I J->R J a
namespace Zq
@[scoped irreducible]def _root_.SD.DI(X:Cx)(tg a:sg)(t:MP):Prop:=PI X tg a (lC X.K t)
end Zq
def Ce(M:MH):D->vu->Prop
 |.tup ds,es=>es=ds
 |.rol ds,es=>es=ds
 |.ref a,es=>M a=KA (.lst es)
 |_,_=>False
inductive Yg(ds:vu)(M:MH)(R:OI->MH->Prop):Prop
 |mk (n:Nat)(h:ds=[.int (n:Int)])(q:n<2^60/\R #[n,λi=>KA (.int (i:Int)),λ_=>True] M):Yg ds M R
inductive Yf(d:D)(M:MH)(R:OI->MH->Prop):Prop
 |mk (ds:vu)(h:Ce M d ds)(q:R #[ds.length,λi=>ds[i]?,λM=>Ce M d ds] M):Yf d M R
def E8(a:Ld):MP:=λδ M R=>a δ M λb c=>Yg b c R
def Hh(a:TD):MP:=λδ M R=>a δ M λd b=>Yf d b R
section
variable{X:Cx}{tg:sg}
theorem iB{a:sg}{d:Ld}{p pos:Pos}(g:Gl X "range")(h:X.mg "range"=KC)(j:DA X [a] d)(b:HC [a] X.env=[(KG,eval a X.env)]:=by rfl):DI X tg (.Call (.Name "range" p) [a] [] pos) (E8 d):=
 km (nP g h j b) λσ H R k=>by
  let[δ,M,x,b,l,q,c]:=k
  exact #[δ,M,_,b,l,q,λy m vs H1 g1 o s t=>by
   let[n,e,z,u]:=t
   subst e
   let[v,8,r]:=bR o
   rw[Rep]at r;subst r
   refine #[(n:Int),8,(),(),c _ m H1 _ g1 s u #[λ_ _ _ _ _=>by show((n:Int)).toNat<=n;simp,λi _ _ f _ _ _=>by show i<((n:Int)).toNat;simpa using f,?_]]
   rintro i A B v C f D w _ ⟨rfl,rfl⟩
   exact #[.refl,w,7,by rw[Rep];simp]]
theorem aQ{l:sg}{E:TD}(G:DE X l E):DI X tg l (Hh E):=
 km (DL G) λσ H R I=>by
  let[δ,M,N,J,K,q,o]:=I
  exact #[δ,M,_,J,K,q,λd y v H1 g1 s z L=>by
   let[e,A,B]:=L
   cases d with
   |tup C=>
    obtain rfl:e=C:=A
    rw[Rep]at s
    let[a,xs,8,j,m]:=s
    refine #[a,8,.inr #[#[xs,j],o _ y H1 _ g1 z B #[λn _ c _ _=>#[xs,c.t _ _ j,by rw[m.length];exact Hu _],λi n _ b c _ _=>?_,?_]]]
    .have g:i<xs.length:=by rw[<-m.length];exact b
     exact #[xs,xs[i],c.t _ _ j,by simp[g]]
    .rintro i n p v F b c h _ ⟨rfl,k⟩
     let b:i<e.length:=b
     let[x,e1,e2]:=(m.mono c).get (show e[i]?=KA e[i] by simp[b])
     have:=k xs (c.t _ _ j)
     rw[e1]at this;cases this
     exact #[.refl,h,_,by simp[b],e2]
   |rol C=>
    obtain rfl:e=C:=A
    rw[Rep]at s
    let[a,xs,8,j,m]:=s
    refine #[a,8,.inl #[#[xs,j.sql],o _ y H1 _ g1 z B #[λn _ c _ _=>#[xs,(c.f _ _ j).sql,by rw[m.length];exact Hu _],λi n _ b c _ _=>?_,?_]]]
    .have g:i<xs.length:=by rw[<-m.length];exact b
     exact #[xs,xs[i],(c.f _ _ j).sql,by simp[g]]
    .rintro i n p v F b c h _ ⟨rfl,k⟩
     let b:i<e.length:=b
     let[x,e1,e2]:=(m.mono c).get (show e[i]?=KA e[i] by simp[b])
     have:=k xs (c.f _ _ j).sql
     rw[e1]at this;cases this
     exact #[.refl,h,_,by simp[b],e2]
   |ref a=>
    rw[Rep]at s;subst s
    let[xs,hx,m]:=z _ _ (show y a=KA (.lst e)from A)
    refine #[a,8,.inl #[#[xs,L8.of hx],o _ y H1 _ g1 z B #[λn p c h u=>?_,λi n p b c h u=>?_,?_]]]
    .obtain⟨r,k,w⟩:=h _ _ (show p a=KA (.lst e)from u)
     exact #[r,L8.of k,by rw[w.length];exact Hu _]
    .obtain⟨r,k,w⟩:=h _ _ (show p a=KA (.lst e)from u)
     let g:i<r.length:=by rw[<-w.length];exact b
     exact #[r,r[i],L8.of k,by simp[g]]
    .rintro i n p v F b c h u ⟨rfl,k⟩
     let b:i<e.length:=b
     let[r,D,w]:=h _ _ (show p a=KA (.lst e)from u)
     let[x,e1,e2]:=w.get (show e[i]?=KA e[i] by simp[b])
     have:=k r (L8.of D)
     rw[e1]at this;cases this
     exact #[.refl,h,_,by simp[b],e2]
   |_=>exact A.elim]
inductive WW(g:Nn)(tb:Lv)(B:EndsD)(I:OI)(δ0:DS)(M0:MH):Prop
 |mk (W:Nat->DS->MH->Prop)(w0:W 0 δ0 M0)(hC:∀i δ M,i<=I.n->W i δ M->I.C M)(turn:∀i d δ M,i<I.n->I.item i=KA d->W i δ M->g d δ M λδ2 M2=>tb (B.lp (W (i+1))) δ2 M2)(done:∀δ M,W I.n δ M->B.nx δ M):WW g tb B I δ0 M0
def EM(a:MP)(g:Nn)(b:Lv):Lv:=λB δ M=>a δ M λI c=>WW g b B I δ c
theorem bP{b:sg}{body:tq}{Q:MP}{g:Nn}{R:Lv}{pos:Pos}(V:PassesOwn (HI X.prog X.w) X.A X.env X.xe)(Y:X.calm=KD)(p:DI X tg b Q)(Z:DG X tg g)(hb:DSs X body R)
 (hf:∀x,Ia b X.env x=pure x:=by intro _;rfl):DSt X (.For tg b body [] pos) (EM Q g R):=
 cy (xJ V Y p Z hb hf) λE σ H ⟨δ,M,S,a,B,ok,q⟩=>#[δ,M,_,S,a,q,λI M1 H1 J g1 a1 z9 N=>by
  let[W,w0,hC,r,done]:=z9
  refine #[λi m σ h=>m=I.n-i/\i<=I.n/\LP X.K H1 h/\∃δ M,Slots X.K h δ σ/\LV X.K h M/\W i δ M,#[I.n,by simp,IB _,.refl,δ,M1,S.mono g1,a1,w0],?_]
  rintro i m σ h ⟨rfl,p,s,j,l,T,D,t⟩
  by_cases e:i<I.n
  .refine .inr #[N.go i h l e s D (hC _ _ _ p t),λc o=>LP X.K H1 o/\∃δ M,Slots X.K o δ c/\LV X.K o M/\W (i+1) δ M,λc o z=>#[I.n-(i+1),(),8,e,z],λx o y=>?_]
   let[U,a3,d,ed,rd]:=N.yld i h l x o e s D (hC _ _ _ p t) y
   refine #[d,j,l,_,rd,T.mono U,a3,r i d j l e ed t,λO M4 a0 H4 g4 s4 a4 q4=>#[O,M4,s4,a4,_,?_,q4]]
   let G:LP X.K H1 H4:=(s.trans U).trans g4
   exact #[λf F c L k u C P=>#[G.trans k,f,F,u,C,P],λd M v L k=>ok.rt d M v L ((g1.trans G).trans k),λf F c L k u C q'=>ok.nx _ _ _ _ ((g1.trans G).trans k) u C q',λf F c L k u C P=>#[G.trans k,f,F,u,C,P]]
  .obtain rfl:i=I.n:=()
   exact .inl #[N.stop h l s D (hC _ _ _ p t),ok.nx _ _ _ _ (g1.trans s) T D (done j l t)]]
def Fd(i:Nat)(te:TD)(f:Int->Int->Int):Lv:=λB δ M=>∃k,δ[i]?=KA (KA (.int k))/\te δ M λy a=>∃j,y=.int j/\B.nx (δ.set i (KA (.int (f k j)))) a
theorem tw(i:Nat){x:Str}{e:sg}{te:TD}{op:Operator}{f:Int->Int->Int}{pos c:Pos}(h:X.N.Nodup)(l:W7 X op (Y1 f))(m:DE X e te)(n:X.N[i]?=KA x:=by rfl)(hx:Loc X.env.scope x:=by first|exact Or.inl rfl|exact Or.inr rfl)
 (o:X.fn x=KD\/X.env.scope.names.lookup x=KA .local:=by first|exact .inl rfl|exact .inr rfl|assumption):DSt X (.AugAssign (.Name x c) op e pos) (Fd i te f):=
 cy (C7 h n hx m l o) λE σ H p=>by
  let[δ,M,d,a,B,ok,k,e1,q]:=p
  let[v,e2,r]:=d.at' i _ e1
  rw[Rep]at r;subst r
  refine #[_,e2,δ,M,_,d,a,q,λy z u H1 g1 g s b=>?_]
  let[j,t,w]:=b
  subst t
  rw[Rep]at g;subst g
  exact #[k,j,8,8,ok.nx _ _ _ _ g1 ((d.mono g1).set (by rw[Rep]) i) s w]
end
def hv(n:Nat):Nat:=if n=0 then 0 else n.log2+1
def ou(f n:Nat):2^f<=n↔f<hv n:=by
 unfold hv;split
 .rename_i h;subst h;have:0<2^f:=Nat.pow_pos ⋯;omega
 .rename_i h;rw[Nat.lt_succ_iff,Nat.le_log2 h]
end SD
namespace Ma
open SD
def mW{a b:Int}(h:0<b):0<Rat.divInt a b↔0<a:=by
 let h1:=Rat.divInt_nonneg_iff_of_pos_right (a:=-a) h;rw[<-Rat.neg_divInt]at h1;have:¬(0<=-Rat.divInt a b)↔0<Rat.divInt a b:=by constructor<;>intro z<;>grind
 rw[<-this,h1];omega
def rZ{a b:Int}(h:0<b):Rat.divInt a b<0↔a<0:=by
 let h1:=Rat.divInt_nonneg_iff_of_pos_right (a:=a) h;have:¬(0<=Rat.divInt a b)↔Rat.divInt a b<0:=by constructor<;>intro z<;>grind
 rw[<-this,h1];omega
def AK{t b:Int}(h:0<b):sgn (Rat.divInt t b)=if 0<t then 1 else if t<0 then -1 else 0:=by unfold sgn;simp only[mW h,rZ h]
def AB(a b c d x y:Rat) :
 Rat.divInt ((c.num*(a.den:Int)-a.num*(c.den:Int))*(y.num*(b.den:Int)-b.num*(y.den:Int))*((d.den:Int)*(b.den:Int)*((x.den:Int)*(a.den:Int))) -
  (d.num*(b.den:Int)-b.num*(d.den:Int))*(x.num*(a.den:Int)-a.num*(x.den:Int))*((c.den:Int)*(a.den:Int)*((y.den:Int)*(b.den:Int))))
  ((c.den:Int)*(a.den:Int)*((y.den:Int)*(b.den:Int))*((d.den:Int)*(b.den:Int)*((x.den:Int)*(a.den:Int))))=cr a b c d x y:=by
 rw[<-Rat.divInt_sub_divInt _ _ (Int.mul_ne_zero (uG c a) (uG y b)) (Int.mul_ne_zero (uG d b) (uG x a)),<-Rat.divInt_mul_divInt,<-Rat.divInt_mul_divInt,sub_eq,sub_eq,sub_eq,sub_eq]
 rfl
end Ma
namespace SD
open PySem PySem.Spec PyProof.Rows L2
abbrev Lr:Hn->Hq->Prop:=λ_ _=>False
def cN(X:Cx)(xs:u_)(js:sx):u_:=xs++js.map λj=>(X.N[j]?).getD ("":Str)
def cσ(os:L2.St)(js:sx)(σ:L2.St):L2.St:=os++js.map λj=>(σ[j]?).join
theorem cW:∀(names:List (Str×JQ)) (n:Nat) (a:List (Str×r4)),Jv n names a=Jv n names []++a
 |[],_,_=>rfl
 |(x,k)::r,n,a=>by
  unfold Jv
  split
  .rw[cW r (n+1) ((x,n)::a),cW r (n+1) [(x,n)],List.append_assoc];rfl
  .exact cW r n a
theorem ko:∀(names:List (Str×JQ)) (n:Nat) {y:Str} {c:r4},(y,c)∈Jv n names []->(y,NameKind.cell)∈names
 |[],_,_,_,h=>by cases h
 |(x,k)::r,n,y,c,h=>by
  unfold Jv at h
  split at h
  .rename_i hk
   rw[cW]at h
   rcases HQ.mp h with h|h
   .exact IL _ (ko r _ h)
   .have e:(y,c)=(x,n):=‹h›
    cases e
    obtain rfl:k=.cell:=‹hk›
    exact K6
  .exact IL _ (ko r _ h)
def qo{l r:List (Str×r4)}{y:Str}{c:r4}(h:(l++r).lookup y=KA c):l.lookup y=KA c\/(l.lookup y=KC/\r.lookup y=KA c):=by
 rw[List.lookup_append]at h;cases e:l.lookup y with
 |some a=>rw[e]at h;exact .inl h
 |none=>rw[e]at h;exact .inr #[8,h]
def xO{env:Env}{y:Str}{c:r4}{names:List (Str×JQ)}(h:(fq names env).lookup y=KA c):(y,K4)∈names:=by
 let b:=Ii h;unfold fq at b;let[z,a,e]:=Iz.mp b;rw[List.mem_reverse,J1]at a;let[n,k]:=z;obtain rfl:k=.free:=‹a.2›
 cases e;exact a.1
theorem gF{env:Env}{k:JQ}(b:k≠.free):∀{names:List (Str×JQ)} {x:Str},names.lookup x=KA k->
 (names.map λ(n,k)=>if(k==K4&&env.scope.kind==.function&&env.kindOf n==KA .cell)then(n,NameKind.cell)else(n,k)).lookup x=KA k
 |[],_,h=>by simp at h
 |(n,q)::r,x,h=>by
  let c:=@gF env k b r x
  rw[HG]
  dsimp only
  by_cases hx:(x==n)=KD
  .rw[IP,hx]at h
   cases h
   rw[KH (by intro z;rw[Je,Je]at z;exact b ‹z.1.1›),IP,hx]
  .have a:(x==n)=KG:=‹hx›
   rw[IP,a]at h
   split<;>(rw[IP,a];exact c h)
def oZ{M:Model}{A:Ig}{E:Hn->Hq->Prop}{s:Hq}{scope:JB}{globals:r4}{cl:List (Str×r4)}{qual:Str}{env:Env}{Q:Env->Hq->Prop} (h:Q { scope:=scope,locals:=s.z,globals:=globals,cells:=Jv (s.z+1) scope.names cl,qual:=qual,func:=KC,code:=env.code,frame:=env.frame,builtins:=env.builtins } { s with heap:=pushCells (s.heap.push { cls:=.type "dict",data:=.dict #[] }) scope.names }) : Hy M A (Km scope globals cl [] qual KC .none (KA env)) Q E s:=by simp only[Km,Option.isSome_some,if_true];refine Hl (wpAny_alloc ?_);refine Hl (wpAny_layCells _ (λname kind cells=>by cases a:kind==NameKind.cell<;>simp[a]) _ _ _ _ ?_);rw[show({ s with heap:=s.heap.push { cls:=.type "dict",data:=.dict #[] } }:Hq).heap.objs.size=s.z+1 from J6 ..];refine Hl ?_;rw[List.forIn_nil];exact Hs (Hs h)
def lF(scope:JB)(C:r4)(env:Env):Env:=
 { scope:=relabel scope env,locals:=C,globals:=env.globals,cells:=Jv (C+1) scope.names (fq scope.names env),qual:=env.qual,func:=KC,code:=env.code,frame:=env.frame,builtins:=env.builtins }
def LX(X:Cx)(xs:u_)(js:sx)(scope:JB)(C:r4)(s:Hq)(H:Hp)(fp:t_):Cx where
 prog:=X.prog
 w:=X.w
 K:=X.K
 mg:=X.mg
 base:=X.base
 A:=X.A
 N:=cN X xs js
 s₀:=s
 H₀:=H
 env:=lF scope C X.env
 outer:=X.stack
 stack:=X.stack
 ex:=fp
 fn:=λy=>xs.contains y
 calm:=X.calm
 pn:=[]
 xe:=λ_ _=>False
structure LO(X:Cx)(xs:u_)(js:sx)(scope:JB):Prop where
 kind:scope.kind=.function
 cell:∀y∈scope.names,y.2=.cell->y.1∈xs
 free':∀y∈scope.names,y.2=.free->y.1∉xs
 names:∀y∈scope.names,y.2=.local->scope.names.lookup y.1=KA .local
 own:∀x∈xs,scope.names.lookup x=KA .local\/scope.names.lookup x=KA .cell
 out:∀y∈scope.names,y.2=.free->X.env.kindOf y.1=KA .cell\/X.env.kindOf y.1=KA .free
 nd:(cN X xs js).Nodup
 js:∀j∈js,scope.names.lookup ((X.N[j]?).getD ("":Str))≠KA .local
section
variable{X:Cx}{xs:u_}{js:sx}{scope:JB}{KQ:sm}{σ:L2.St}{H:Hp}{s:Hq}{fp:t_}
theorem LO.cells(c:LO X xs js scope)(ok:X.Ok):∀y∈scope.names,y.2=.free->∃a,X.env.cells.lookup y.1=KA a:=λy b d=>ok.has _ (c.out y b d)
theorem LO.xx(c:LO X xs js scope)(ok:X.Ok):closureFor scope X.env=pure (fq scope.names X.env):=mV (c.cells ok)
theorem LO.kindOf(c:LO X xs js scope)(ok:X.Ok){C:r4}{y:Str}{k:JQ}(e:(lF scope C X.env).kindOf y=KA k):scope.names.lookup y=KA k\/(k=.cell/\scope.names.lookup y=KA .free):=gS ok.kind e
def mU(c:LO X xs js scope)(I:Inv X KQ σ H s)(E:∀b∈fp,cJ X KQ H b)(w:∀b∈fp,b<s.z){h':r_}(O:h'=pushCells (s.heap.push { cls:=.type "dict",data:=.dict #[] }) scope.names)(k:∀b o,s.heap.get? b=KA o->h'.get? b=KA o) :
 Inv (LX X xs js scope s.z s H fp) [] (cσ (Ic xs.length KC) js σ) H { s with heap:=h' }:=by
 let ok:=I.ok
 let U:h'.Ns s.z λ_=>KC:=by rw[O];exact(Heap.Ns.new s.heap (.type "dict")).keeps (pushCells_keeps _ _)
 let f:CellsOk h' (s.z+1) (Jv (s.z+1) scope.names []):=by
  have:=cellsFrom_ok scope.names (s.heap.push { cls:=.type "dict",data:=.dict #[] }) (s.z+1) [] #[λ_ _ x=>(nomatch x),List.Pairwise.nil] (by rw[J6];exact Hu _)
  rw[J6]at this
  rw[O];exact this
 let cl:∀{y:Str}{a:r4},(fq scope.names X.env).lookup y=KA a->X.env.cells.lookup y=KA a:=λe=>qI (c.cells ok) e
 let A:∀{y:Str}{a:r4},X.env.cells.lookup y=KA a->a<s.z:=λe=>by let[v,z]:=I.cell _ _ e;exact z.lt
 let d:∀{y:Str}{a:r4},(lF scope s.z X.env).cells.lookup y=KA a->((y,a)∈Jv (s.z+1) scope.names []/\s.z<a)\/X.env.cells.lookup y=KA a:=λ{y a} e=>by
  let e:(Jv (s.z+1) scope.names (fq scope.names X.env)).lookup y=KA a:=e
  rw[cW]at e
  rcases qo e with z|⟨_,z⟩
  .exact .inl #[Ii z,(f.empty _ _ (Ii z)).2]
  .exact .inr (cl z)
 let free:∀{y:Str},(lF scope s.z X.env).kindOf y=KA .cell\/(lF scope s.z X.env).kindOf y=KA .free->scope.names.lookup y=KA .cell\/scope.names.lookup y=KA .free:=λ{y} e=>by
  rcases e with e|e
  .rcases c.kindOf ok e with z|⟨_,z⟩
   .exact .inl z
   .exact .inr z
  .rcases c.kindOf ok e with z|⟨z,_⟩
   .exact .inr z
   .cases z
 refine #[#[ok.mod,c.kind,ok.glob,ok.blt,Hu _,λy z a h1 h2=>?_,λy G=>?_,λy a h e=>?_,ok.hd,ok.frames,.inl rfl,λb g=>#[HX (w b g),λy a e=>?_],
  I.bs,Iv ok.bsz I.sz,λb o e g=>?_,λb g=>?_,I.stack,I.uc],8,I.bare,Un.kept k,?_,λy a e=>?_,I.hok.fresh (Hu _),λy a e=>?_,λp W=>absurd (show p∈([]:sm)from W) (_),I.hok.kept k,?_]
 .rcases d h1 with⟨Y,l1⟩|P<;>rcases d h2 with⟨Z,l2⟩|Q
  .exact name_of_addr f.apart Y Z
  .exact absurd (A Q) (Nat.not_lt.mpr (JX l1))
  .exact absurd (A P) (Nat.not_lt.mpr (JX l2))
  .exact ok.inj y z a P Q
 .show ∃c,(Jv (s.z+1) scope.names (fq scope.names X.env)).lookup y=KA c
  rw[cW,List.lookup_append]
  rcases free G with z|z
  .obtain⟨a,e⟩:=mn (n:=s.z+1) z
   exact #[a,by rw[e];rfl]
  .obtain⟨a,e⟩:=qx (env:=X.env) (Ii z)
   cases q:(Jv (s.z+1) scope.names []).lookup y with
   |none=>exact #[a,by rw[e];rfl]
   |some F=>exact #[F,rfl]
 .have hx:y∈xs:=by simpa[LX]using h
  let e:(Jv (s.z+1) scope.names (fq scope.names X.env)).lookup y=KA a:=e
  rw[cW]at e
  rcases qo e with z|⟨_,z⟩
  .exact JX (f.empty _ _ (Ii z)).2
  .exact absurd hx (c.free' _ (xO z) rfl)
 .rcases d e with⟨_,l⟩|o
  .exact Nat.ne_of_gt (Nat.lt_trans (w b g) l)
  .exact(E b g).2.2.2.2.1 y a o
 .rcases(E b g).2.2.2.1 with z|z
  .exact ok.noex b o e z
  .exact absurd (HY (HY (HE e) ok.bsz) z) (Kh _)
 .intro z
  rcases Iw.mp (I.oC b z)with y|y
  .exact(E b g).2.1 y
  .exact(E b g).2.2.1 y
 .refine #[_,U,λi y v h1 h2 h3=>?_]
  let h1:(xs++js.map λj=>(X.N[j]?).getD ("":Str))[i]?=KA y:=h1
  let h2:(Ic xs.length (KC:Option V)++js.map λj=>(σ[j]?).join)[i]?=KA (KA v):=h2
  by_cases R:i<xs.length
  .rw[Im ‹R›,List.getElem?_replicate,KI R]at h2
   cases h2
  .have t:y∉xs:=λG=>by
    rw[Ij ()]at h1
    let nd:=c.nd
    unfold cN at nd
    exact(List.nodup_append.mp nd).2.2 y G y (Hz h1) rfl
   rw[Ij ()]at h1
   rw[Ij (by simp;omega)]at h2
   rw[List.length_replicate]at h2
   rw[Hv]at h1 h2
   cases J:js[i-xs.length]? with
   |none=>rw[J]at h1;cases h1
   |some j=>
    rw[J]at h1 h2
    let e1:(X.N[j]?).getD ("":Str)=y:=Option.some.inj h1
    let e2:(σ[j]?).join=KA v:=Option.some.inj h2
    let e3:σ[j]?=KA (KA v):=by
     cases q:σ[j]? with
     |none=>rw[q]at e2;cases e2
     |some o=>rw[q]at e2;exact congrArg KA e2
    let hj:j<X.N.length:=by rw[<-I.len];exact(Hw.mp e3).1
    let e4:X.N[j]?=KA y:=by
     rw[Ht hj]at e1 ⊢
     exact congrArg KA e1
    let nl:scope.names.lookup y≠KA .local:=by
     have:=c.js j (Hz J)
     rw[e1]at this
     exact this
    let S:(lF scope s.z X.env).kindOf y=KA .cell\/(lF scope s.z X.env).kindOf y=KA .free:=by
     rcases h3 with z|z|z
     .rcases c.kindOf (C:=s.z) ok z with q|⟨q,_⟩
      .exact absurd q nl
      .cases q
     .exact .inl z
     .exact .inr z
    let x:(y,K4)∈scope.names:=by
     rcases free S with z|z
     .exact absurd (c.cell _ (Ii z) rfl) t
     .exact Ii z
    let[a,T]:=qx (env:=X.env) x
    let K:(lF scope s.z X.env).cells.lookup y=KA a:=by
     show(Jv (s.z+1) scope.names (fq scope.names X.env)).lookup y=KA a
     rw[cW,List.lookup_append]
     cases q:(Jv (s.z+1) scope.names []).lookup y with
     |none=>rw[T];rfl
     |some F=>exact absurd (c.cell _ (ko _ _ (Ii q)) rfl) t
    let B:WM X.env.scope y:=by
     rcases c.out _ x rfl with z|z
     .exact .inr (.inl z)
     .exact .inr (.inr z)
    let[m,_,hl]:=I.loc
    let[u,r,l]:=hl j y v e4 e3 B
    exists u,r
    rcases l with⟨z,_⟩|⟨_,F,L,o,M,hd⟩
    .rcases c.out _ x rfl with q|q
     .have D:X.env.kindOf y=KA .local:=z
      rw[q]at D;cases D
     .have D:X.env.kindOf y=KA .local:=z
      rw[q]at D;cases D
    .refine .inr #[S,F,?_,o,k _ _ M,hd]
     have:=cl T
     rw[L]at this
     cases this
     exact K
 .rcases d e with⟨m,_⟩|o
  .exact #[_,(f.empty _ _ m).1]
  .obtain⟨v,o,M,hd⟩:=I.cell y a o
   exact #[v,o,k _ _ M,hd]
 .rcases d e with⟨_,l⟩|o
  .exact I.hok.fresh (JX l)
  .exact I.freeC y a o
 .show(cσ (Ic xs.length KC) js σ).length=(cN X xs js).length
  unfold cσ cN
  simp
end
def Py(X:Cx)(a:tr)(t:TT):Prop:=∀(KQ:sm)(s:Hq)(σ:L2.St)(H:Hp)(Q:Bool->Hp->Prop),Inv X KQ σ H s->t σ H Q->
 Hy (HI X.prog X.w) X.A (forIn a KD λc r=>if r=KD then do let ok <-isTrue c X.env (eval c X.env);pure (JW ok)else pure (JW r)) (TP X KQ σ Q) X.xe s
theorem AR{X:Cx}:Py X [] (λ_ H Q=>Q KD H):=λKQ s σ H Q I q=>wpAny_tests_nil #[H,I,q]
theorem A5{X:Cx}{c:sg}{t:TT}(h:PT X c t):Py X [c] t:=λKQ s σ H Q I q=>wpAny_tests_one (h KQ s σ H Q I q)
def vC{prog:HL}{w:Il}{A:Ig}{R:Result->Hq->Prop}{s:Hq}{d a b:sg}{f:tr}{scope:JB}{pos:Pos}{it g:Hn}{env:Env}(J:Nat->Hq->Prop)
 (step:∀n s,J n s->Hy (HI prog w) A (pyNext it) (λr j=>match r with
  |none=>R (.ok .next) j
  |some v=>Hy (HI prog w) A (JI a it v) (λ_ l=>Hy (HI prog w) A (Kk a env v) (λ_ o=>
   Hy (HI prog w) A (forIn f KD λc r=>if r=KD then do let ok <-isTrue c env (eval c env);pure (JW ok)else pure (JW r)) (λok k=>
    if ok=KD then Hy (HI prog w) A (eval d env) (λx p=>Hy (HI prog w) A (call (.builtin "list.append") [g,x]) (λ_ q=>∃m,m<n/\J m q) Lr p) Lr k
    else ∃m,m<n/\J m k) Lr o) Lr l) Lr j) Lr s)
 (n:Nat) (h:J n s):JE (HI prog w) A (.compLoop (.ListComp d [#[a,b,f,0]] scope pos) 0 it g env) R s:=by
 let i:∀{E:Hn->Hq->Prop} e t,Lr e t->E e t:=λ_ _ z=>z.elim
 refine codeAny_loop rfl J (λn s y=>?_) n h
 show Hy _ _ (Sem.onRaise (compTurn (.ListComp d [#[a,b,f,0]] scope pos) 0 it g env) (λx=>do noteFrame x env;theTreesLotGoes x)) _ _ s
 refine wpAny_noted ?_
 rw[compTurn_list]
 refine Hl (Jw (Hl (HJ (step n s y) (λr j h1=>?_) i)))
 cases r with
 |none=>exact Hs h1
 |some v=>
  refine Hl (HJ h1 (λ_ l h2=>Hl (HJ h2 (λ_ o B=>Hl (HJ B (λok k u=>?_) i)) i)) i)
  cases ok with
  |false=>exact Hs #[8,u]
  |true=>exact Hl (Hl (HJ u (λx p C=>Hl (HJ C (λ_ q D=>Hs (Hs #[8,D])) i)) i))
abbrev Own:=V->Hp->L2.St->Prop
structure MW(n:Nat)(g:TG)(own:Own):Prop where
 len:∀y H os,own y H os->os.length=n
 run:∀y H os0 tail os (Q:L2.St->Hp->Prop),os0.length=n->own y H os->Q (os++tail) H->g y (os0++tail) H Q
def BB(js:sx)(own:Own)(tc:TT)(te:TE)(σ:L2.St)(J:It)(H1:Hp)(Q:VK):Prop:=∀D,H1 D=KC->∃W:Nat->Nat->Hp->Prop,(∃m,W 0 m (upd H1 D (.lst [])))/\∀i m H,W i m H->
 (J.stop i H/\Q (.ref D) H)\/(J.go i H/\∀y c,J.yld i H y c->∃os,own y c os/\tc (cσ os js σ) c λb d=>if b=KD then
  te (cσ os js σ) d λv e=>∃xs,e D=KA (.lst xs)/\xs.length<HK/\∃a,a<m/\W (i+1) a (upd e D (.lst (xs++[v])))else ∃a,a<m/\W (i+1) a d)
def oT(js:sx)(own:Own)(a:TI)(tc:TT)(te:TE):TE:=λσ H Q=>a σ H λJ H1=>BB js own tc te σ J H1 Q
section
variable{X:Cx}{xs:u_}{tg:sg}{pos:Pos}{js:sx}{scope:JB}{elt iter:sg}{ifs:tr}{te:TE}{tc:TT}{g:TG}{own:Own}{wi:TI}{KQ:sm}{σ:L2.St}{H:Hp}{s:Hq}{fp:t_}{it:r4}{tn:Nat->r_->Prop}{J:It}
def qF(c:LO X xs js scope)(hc:X.calm=KD)(hG:MW xs.length g own)(hg:∀C s H fp,PG (LX X xs js scope C s H fp) tg g)(ht:∀C s H fp,Py (LX X xs js scope C s H fp) ifs tc)(he:∀C s H fp,PE (LX X xs js scope C s H fp) elt te)
 {R:Hn->r4->Result->Hq->Prop} {E:Hn->Hq->Prop} {Q:VK}
 (I:Inv X KQ σ H s) (T:Turn X.prog X.w X.K tg J fp it tn) (st:tn 0 s.heap) (hf:∀b∈fp,cJ X KQ H b) (wc:BB js own tc te σ J H Q)
 (hR:∀D C f F,Inv X KQ σ f F->cJ X KQ f C->(∃m,F.heap.Ns C m)->Q (.ref D) f->R (.ref D) C (.ok .next) F) :
 Hy (HI X.prog X.w) X.A (newList []) (λd0 e0=>Hy (HI X.prog X.w) X.A (Km scope X.env.globals (fq scope.names X.env) [] X.env.qual KC .none (KA X.env)) (λN f0=>
  JE (HI X.prog X.w) X.A (.compStart (.ListComp elt [#[tg,iter,ifs,0]] scope pos) 0 (.ref it) d0 { N with scope:=relabel scope X.env }) (R d0 N.locals) f0) E e0) E s:=by
 let g0:∀b∈fp,b<s.z:=λb a=>let⟨o,e,_⟩:=T.obj 0 _ st b a;HE e
 let hD:H s.z=KC:=I.hok.fresh (Hu _)
 refine ID (oZ ?_)
 generalize hh:s.heap.push { cls:=.type "list",dict:=KC,data:=.seq ([]:List Hn).toArray }=h
 generalize h0:pushCells (({ s with heap:=h }:Hq).heap.push { cls:=.type "dict",data:=.dict #[] }) scope.names=j
 let k3:∀b o,s.heap.get? b=KA o->h.get? b=KA o:=λb o e=>by rw[<-hh];exact Hr _ e
 let I3:Inv X KQ σ (upd H s.z (.lst [])) { s with heap:=h }:=by
  refine I.laid (t':=s.toks) k3 (Hu _) ?_
  exists IB _,[],0,.nil
  rw[<-hh]
  exact Hx _ rfl
 let k:∀b∈fp,cJ X KQ (upd H s.z (.lst [])) b:=λb a=>#[by rw[aG (HX (g0 b a))];exact(hf b a).1,(hf b a).2]
 let s0:h.objs.size=s.z+1:=by rw[<-hh,J6]
 let i0:∀b∈fp,b<h.objs.size:=λb a=>by rw[s0];exact Jh (g0 b a)
 let k4:∀b o,h.get? b=KA o->j.get? b=KA o:=λb o e=>by rw[<-h0];exact pushCells_keeps _ _ b o (Hr _ e)
 let I4:=mU c I3 k i0 (h':=j) h0.symm k4
 obtain⟨W,⟨m0,w0⟩,k0⟩:=wc _ hD
 let Nj:tn 0 j:=T.keep 0 _ _ st λb a o e=>k4 b o (k3 b o e)
 generalize hX:LX X xs js scope h.objs.size { s with heap:=h } (upd H s.z (.lst [])) fp=X' at I4
 let S:∀{pins':sm}{f:Hp}{G:L2.St}{F:Hq},Inv X' [] G f F->(∀b∈fp,f b=KC)->∀b∈fp,cJ X' [] f b:=λ{pins' f G F} J' hn b a=>by
  subst hX
  let[a1,a2]:=J'.ok.exf b a
  exact #[hn b a,a1,J'.ok.exfs b a,.inl a,a2,λp hp=>absurd (show p∈([]:sm)from hp) (_)]
 let O:JE (HI X.prog X.w) X.A (.compLoop (.ListComp elt [#[tg,iter,ifs,0]] scope pos) 0 (.ref it) (.ref s.z) (lF scope h.objs.size X.env)) (R (.ref s.z) h.objs.size)
  { s with heap:=j }:=by
  refine vC (λn F=>∃i os f,os.length=xs.length/\Inv X' [] (cσ os js σ) f F/\tn i F.heap/\(∀b∈fp,f b=KC)/\W i n f) ?_ m0 #[0,_,_,by simp,I4,Nj,λb a=>(k b a).1,w0]
  rintro n s5 ⟨i,os,H5,t0,I5,NK,n0,w5⟩
  rcases k0 i n H5 w5 with⟨stop,q⟩|⟨go,step⟩
  .subst hX
   refine HJ (T.done (LX X xs js scope h.objs.size { s with heap:=h } (upd H s.z (.lst [])) fp) rfl rfl rfl hc i [] s5 _ H5 Lr I5 (S (pins':=[]) I5 n0) NK stop) (λr s6 U=>?_) λ_ _ z=>z
   let[hr,I6]:=U
   subst hr
   refine hR _ _ H5 s6 (I3.xv I6.os I6.base I6.hok I6.bare λb a=>#[(k b a).2.2.2.1,(k b a).2.1,(k b a).2.2.2.2.1,(k b a).2.2.2.2.2]) (I3.pD (Hu _) I6.free) (let⟨m,hm,_⟩:=I6.loc;#[m,hm]) q
  .subst hX
   refine HJ (T.item (LX X xs js scope h.objs.size { s with heap:=h } (upd H s.z (.lst [])) fp) rfl rfl rfl hc i [] s5 _ H5 Lr I5 (S (pins':=[]) I5 n0) NK go) (λr s6 V=>?_) λ_ _ z=>z
   let[u,hr,h6]:=V
   subst hr
   refine HJ h6 (λ_ s7 Y=>?_) λ_ _ z=>z
   let[y,H7,I7,r7,y7,Mp,u0]:=Y
   let v0:=I7.pinned (S (pins':=[]) I7 u0) (T.obj _ _ Mp)
   let[L,o0,q8]:=step y H7 y7
   let l8:=hG.len _ _ _ o0
   refine HJ (hg _ _ _ _ _ s7 _ H7 y u (λG f=>G=cσ L js σ/\f=H7) v0 r7 (hG.run y H7 os _ L _ t0 o0 #[8,rfl])) (λ_ s8 Z=>?_) λ_ _ z=>z
   let[e1,H8,I8,e8,x0]:=Z
   subst e8 x0
   refine HJ (ht _ _ _ _ _ s8 _ _ _ I8 q8) (λok s9 a0=>?_) λ_ _ z=>z
   let[H9,I9,q9]:=a0
   let P:∀{M:Nat}{l:Hp}{t:Hq},Inv (LX X xs js scope h.objs.size { s with heap:=h } (upd H s.z (.lst [])) fp) ([]++gN fp s7.heap) (cσ L js σ) l t->M<n->W (i+1) M l->
    ∃m,m<n/\∃i os f,os.length=xs.length/\Inv (LX X xs js scope h.objs.size { s with heap:=h } (upd H s.z (.lst [])) fp) [] (cσ os js σ) f t/\tn i t.heap/\(∀b∈fp,f b=KC)/\W i m f:=λ{M l t} x B y0=>by
    refine #[M,B,i+1,L,l,l8,x.eZ,T.keep _ _ _ Mp λb a o e=>(x.pin (b,o) (HP _ (HP _ (bN a e)))).1,λb a=>?_,y0]
    let[o',e,d]:=T.obj _ _ Mp b a
    exact(x.pin (b,o') (HP _ (HP _ (bN a e)))).2.1
   cases ok with
   |false=>
    rw[KH HF]at q9 ⊢
    let[M,B,w9]:=q9
    exact P I9 B w9
   |true=>
    rw[KI rfl]at q9 ⊢
    refine HJ (he _ _ _ _ _ s9 _ _ _ I9 q9) (λv t b0=>?_) λ_ _ z=>z
    let[vv,l,x,z0,ys,q0,r0,b1]:=b0
    refine HJ (jU (X:=(LX X xs js scope h.objs.size { s with heap:=h } (upd H s.z (.lst [])) fp)) _ t _ l (.ref s.z) [vv] (.ref s.z) [v] (λ_ f=>∃M,M<n/\W (i+1) M f) x rfl (.cons z0 .nil) #[_,ys,vv,8,8,q0,r0,b1]) (λ_ f1 c0=>?_) λ_ _ z=>z
    let[_,g1,c1,_,M,B,d1]:=c0
    exact P c1 B d1
 exact codeAny_compStart_list O (T.self X.A 0 _ _ _ Nj O)
def A8(c:LO X xs js scope)(k:X.calm=KD)(l:PI X tg iter wi)(n:MW xs.length g own)(p:∀C s H fp,PG (LX X xs js scope C s H fp) tg g)(r:∀C s H fp,Py (LX X xs js scope C s H fp) ifs tc)(t:∀C s H fp,PE (LX X xs js scope C s H fp) elt te)(u:∀x,Ia iter X.env x=pure x:=by intro _;rfl) : PE X (.ListComp elt [#[tg,iter,ifs,0]] scope pos) (oT js own wi tc te):=by intro KQ s σ H Q I h;rw[eval_ListComp];refine JP (use:=KC) rfl u (c.xx I.ok) c.kind c.names (LS (l KQ s σ H _ I h) λv L h1=>LS h1 λy M a=>?_);let[it,fp,tn,J,N,e,z,T,st,B,w]:=a;subst e;refine qF (R:=λi C=>compPost (HI X.prog X.w) X.A X.xe KC (EP X KQ σ Q) i C) c k n p r t z T st B w λD C E F G f d q=>?_;let[m,K]:=d;exact #[m,K,λO j=>#[.ref D,E,G.turned (t':=F.toks) (λb o ne e=>j.extBut b o ne e) f.1 f.2.1 f.2.2.2.1 f.2.2.2.2.1 f.2.2.2.2.2,8,q]]
def tZ{i:Nat}{y:Str}{l j:Pos}(c:LO X xs js scope)(F:X.calm=KD)(G:X.N.Nodup)(K:PI X tg iter wi)(L:MW xs.length g own)(M:∀C s H fp,PG (LX X xs js scope C s H fp) tg g)(O:∀C s H fp,Py (LX X xs js scope C s H fp) ifs tc)(P:∀C s H fp,PE (LX X xs js scope C s H fp) elt te)(S:X.N[i]?=KA y)(E:X.env.scope.names.lookup y=KA .local)
 (p:JH (.ListComp elt [#[tg,iter,ifs,0]] scope pos) (KA (.Name y l)) j.line X.env=pure KD) (U:∀x,Ia iter X.env x=pure x:=by intro _;rfl) :
 PS X (.Assign [.Name y l] (.ListComp elt [#[tg,iter,ifs,0]] scope pos) j) (A6 (oT js own wi tc te) (dq i)):=by
 intro KQ s σ H B I h
 rw[exec_Assign_Name_used _ _ _ _ p]
 refine Hl (Jw (Hl ?_))
 show Hy _ X.A (do let _ <-comprehension (.ListComp elt [⟨tg,iter,ifs,0⟩] scope pos) scope X.env _ (newList []) KG (eval iter X.env) (KA (Kk (.Name y l) X.env))) _ _ s
 refine Hl (HJ (JP (use:=KA (Kk (.Name y l) X.env)) (Q:=λ_ n=>SP X KQ B .next n) rfl U (c.xx I.ok) c.kind c.names
  (LS (K KQ s σ H _ I h) λv s1 h1=>LS h1 λV s2 z=>?_)) (λ_ n W=>Hs (Hs W)) λ_ _ e=>e)
 let[it,fp,tn,J,H2,e,Y,T,st,Z,w]:=z
 subst e
 refine qF (R:=λr C=>compPost (HI X.prog X.w) X.A X.xe (KA (Kk (.Name y l) X.env)) (λ_ n=>SP X KQ B .next n) r C) c F L M O P Y T st Z w λD C H' n I' k d q=>?_
 let[m,hm]:=d
 show Hy _ X.A (Kk (.Name y l) X.env (.ref D)) _ _ _
 refine wpAny_assign_Name (j3 I' G S (.inl E) (v:=.ref D) rfl (λs9 I9 f=>?_) (.inr E))
 let[a,sb,ha]:=f
 let t:C≠a:=by
  rcases ha with z|z
  .rw[z];exact k.2.1
  .exact λe=>k.2.2.2.2.1 y a z e.symm
 refine #[m,hm.sameBut sb t,λh' u=>?_]
 exact #[_,H',I9.turned (t':=s9.toks) (λb o ne e=>u.extBut b o ne e) k.1 k.2.1 k.2.2.2.1 k.2.2.2.2.1 k.2.2.2.2.2,q]
end
inductive OA where
 |one|many (n:Nat)
def p6(K:Hm):OA->Own
 |.one=>λy _ os=>os=[KA y]
 |.many n=>λy H os=>∃a xs,y=.ref a/\L7 K H a xs/\xs.length=n/\os=xs.map KA
theorem sE{K:Hm}:MW 1 (dq 0) (p6 K .one):=#[λ_ _ os h=>by rw[h];rfl,λy H b a os Q c d q=>by
 let[o,8]:=Ba c
 rw[show os=[KA y]from d]at q;exact q]
theorem zh{K:Hm}:MW 2 (sv K 2 (fV (dq 0) (fV (dq 1) tF))) (p6 K (.many 2)):=#[λ_ _ os z=>by
 let[a,xs,_,_,b,e]:=z
 rw[e];simpa using b,λy H d c os Q b z q=>by
 let[a,xs,e,f,hx,g]:=z
 let[o,h,8]:=pV b
 let[u,v,8]:=pV hx
 rw[g]at q;exact #[a,_,e,f,hx,u,7,v,7,8,q]]
def xR:OA->D->DS->Prop
 |.one,d,os=>os=[KA d]
 |.many n,d,os=>∃a,d=.tup a/\a.length=n/\os=a.map KA
def cδ(os:DS)(js:sx)(δ:DS):DS:=os++js.map λj=>(δ[j]?).join
def jJ{K:Hm}{H:Hp}{δ os:DS}{σ us:L2.St}{js:sx}(c:Slots K H δ σ)(r:Slots K H os us):Slots K H (cδ os js δ) (cσ us js σ):=by
 refine #[by simp[cδ,cσ,r.len],λi e q=>?_];unfold cδ at q;unfold cσ;by_cases a:i<os.length
 .rw[Im a]at q;rw[Im (by rw[<-r.len];exact a)];exact r.at' i e q
 .rw[Ij ()]at q;rw[Ij (by rw[<-r.len];omega),<-r.len];rw[Hv]at q ⊢;cases b:js[i-os.length]? with
  |none=>rw[b]at q;cases q
  |some j=>
   rw[b]at q
   let e2:(δ[j]?).join=KA e:=Option.some.inj q
   let e3:δ[j]?=KA (KA e):=by
    cases z:δ[j]? with
    |none=>rw[z]at e2;cases e2
    |some o=>rw[z]at e2;exact congrArg KA e2
   let[d,e4,f]:=c.at' j e e3
   exact #[d,by rw[show(KA j).map (λj=>(σ[j]?).join)=KA ((σ[j]?).join)from rfl,e4];rfl,f]
def iG{K:Hm}{H:Hp}{ds:vu}{xs:vo}(r:aE K H ds xs):Slots K H (ds.map KA) (xs.map KA):=by
 refine #[by simp[r.length],λi d e=>?_];rw[Hv]at e ⊢;cases q:ds[i]? with
 |none=>rw[q]at e;cases e
 |some a=>
  rw[q]at e;cases e
  let[x,e1,e2]:=r.get q
  exact #[x,by rw[e1];rfl,e2]
def qK{K:Hm}{H:Hp}{tk:OA}{d:D}{v:V}{os:DS}(r:Rep K H d v)(h:xR tk d os):∃us,p6 K tk v H us/\Slots K H os us:=by
 cases tk with
 |one=>
  rw[show os=[KA d]from h]
  exact #[[KA v],8,iG (.cons r .nil)]
 |many n=>
  let[f,8,c,8]:=h
  rw[Rep]at r
  let[a,xs,8,e,b]:=r
  exact #[_,#[a,xs,8,e,by rw[<-b.length];exact c,rfl],iG b]
def d4:Lg:=λ_ M Q=>Q KD M
def xB(I:OI)(tk:OA)(js:sx)(tc:Lg)(te:TD)(δ:DS)(f:MH)(Q:DK):Prop:=I.n<=1000000/\∀p,f p=KC->∃W:Nat->vu->MH->Prop,W 0 [] (au f p (.lst []))/\(∀i a M,i<=I.n->W i a M->I.C M)/\
 (∀i a d M,i<I.n->I.item i=KA d->W i a M->∃os,xR tk d os/\tc (cδ os js δ) M λb g=>if b=KD then te (cδ os js δ) g λe h=>∃c,Sub c h/\c p=KA (.lst a)/\W (i+1) (a++[e]) (au c p (.lst (a++[e])))else ∃c,Sub c g/\W (i+1) a c)/\∀a M,W I.n a M->Q (.ref p) M
def ka(a:MP)(tk:OA)(js:sx)(tc:Lg)(te:TD):TD:=λδ M Q=>a δ M λI b=>xB I tk js tc te δ b Q
section
variable{X:Cx}{K:Hm}
def oz{C:MP}{tk:OA}{js:sx}{tc:Lg}{te:TD}{σ:L2.St}{H:Hp}{Q:VK}(h:lift K (ka C tk js tc te) σ H Q):oT js (p6 K tk) (lC K C) (liftT K tc) (lift K te) σ H Q:=by
 let[δ,M,R,D,P,q,t]:=h;refine #[δ,M,_,D,P,q,λI M1 H1 J g1 E w x p y=>?_];let[S,w]:=w;let[W,T,hC,l,done]:=w p (E.fresh y);refine #[λi m j=>m=I.n-i/\i<=I.n/\LP K H1 j/\∃c M,c.length<=i/\LV K j M/\W i c M,#[I.n,by simp,IB _,.new y,[],_,Hu _,E.lK y .nil,T],?_];rintro i m j ⟨rfl,z,f,c,k,U,r,o⟩;by_cases a:i<I.n
 .refine .inr #[x.go i j k a f r (hC _ _ _ z o),λv V Y=>?_];let[A,Z,d,ed,rd]:=x.yld i j k v V a f r (hC _ _ _ z o) Y;let[os,ow,q3]:=l i c d k a ed o;let[us,uv,su]:=qK rd ow;let F:=jJ (js:=js) (D.mono ((g1.trans f).trans A)) su;refine #[us,uv,cδ os js δ,k,_,F,Z,q3,λb M4 H4 B G s=>?_];cases b with
  |false=>
   rw[KH HF]at s ⊢
   let[M5,s5,w5]:=s
   exact #[I.n-(i+1),(),8,a,(f.trans A).trans B,c,M5,(),G.sub s5,w5]
  |true=>
   rw[KI rfl]at s ⊢
   refine #[cδ os js δ,M4,_,F.mono B,G,s,λe M' u H5 g5 r5 L g=>?_]
   let[M6,N,e6,w6]:=g
   let[zs,hx,O]:=(L.sub N) _ _ e6
   refine #[zs,hx,?_,I.n-(i+1),(),8,a,(((f.trans A).trans B).trans g5).trans (.lst hx),c++[e],_,by simp;omega,(L.sub N).u7 hx (O.append (.cons r5 .nil)),w6]
   rw[<-O.length]
   exact Nat.lt_of_le_of_lt U (HY a (Iv S ⋯))
 .obtain rfl:i=I.n:=()
  exact .inl #[x.stop j k f r (hC _ _ _ z o),t _ _ _ _ (g1.trans f) (by rw[Rep]) r (done c k o)]
variable{xs:u_}{tg:sg}{pos:Pos}{js:sx}{scope:JB}{elt iter:sg}{ifs:tr}{te:TD}{tc:Lg}{g:TG}{tk:OA}{wd:MP}
namespace Zq
@[scoped irreducible]def _root_.SD.DTs(X:Cx)(ifs:tr)(t:Lg):Prop:=Py X ifs (liftT X.K t)
end Zq
theorem bD:DTs X [] d4:=λKQ s σ H Q I a=>by let[δ,M,R,d,c,q,b]:=a;exact(AR KQ s σ H Q I (b _ _ _ .refl c q))
theorem lY{c:sg}{t:Lg}(h:DT X c t):DTs X [c] t:=A5 h
theorem t9(c:LO X xs js scope)(a:X.calm=KD)(b:DI X tg iter wd)(d:MW xs.length g (p6 X.K tk))(e:∀C s H fp,PG (LX X xs js scope C s H fp) tg g)(f:∀C s H fp,DTs (LX X xs js scope C s H fp) ifs tc)(i:∀C s H fp,DE (LX X xs js scope C s H fp) elt te) (j:∀x,Ia iter X.env x=pure x:=by intro _;rfl):DE X (.ListComp elt [#[tg,iter,ifs,0]] scope pos) (ka wd tk js tc te):=bf (A8 (te:=lift X.K te) (tc:=liftT X.K tc) c a b d e f i j) λ_ _ _ h=>oz h
theorem Aq(i:Nat){y:Str}{j b:Pos}(k:X.N.Nodup)(c:LO X xs js scope)(l:X.calm=KD)(m:DI X tg iter wd)(n:MW xs.length g (p6 X.K tk))(o:∀C s H fp,PG (LX X xs js scope C s H fp) tg g)(p:∀C s H fp,DTs (LX X xs js scope C s H fp) ifs tc)(r:∀C s H fp,DE (LX X xs js scope C s H fp) elt te) (t:X.N[i]?=KA y:=by rfl) (u:X.env.scope.names.lookup y=KA .local:=by rfl) (h:JH (.ListComp elt [#[tg,iter,ifs,0]] scope pos) (KA (.Name y j)) b.line X.env=pure KD:=by rfl) (f:∀x,Ia iter X.env x=pure x:=by intro _;rfl) : DSt X (.Assign [.Name y j] (.ListComp elt [#[tg,iter,ifs,0]] scope pos) b) (cG (ka wd tk js tc te) (aK i)):=cy (tZ (te:=lift X.K te) (tc:=liftT X.K tc) c l k m n o p r t u h f) λE σ H e=>by let[δ,M,f,a,B,ok,q]:=e;exact(oz #[δ,M,_,f,a,q,λd D v H1 g1 w z A=>ok.nx _ _ _ _ g1 ((f.mono g1).set w i) z A])
def comp_map{I:OI}{tk:OA}{js:sx}{te:TD}{δ:DS}{a:MH}{Q:DK}(f:Nat->D)(e:I.n<=1000000)(hC:∀p ys,a p=KC->I.C (au a p (.lst ys))) (h:∀i d M,i<I.n->I.item i=KA d->Sub a M->∃os,xR tk d os/\∀K:DK,(∀b,Sub M b->K (f i) b)->te (cδ os js δ) M K) (j:∀p,a p=KC->Q (.ref p) (au a p (.lst ((HM I.n).map f)))):xB I tk js d4 te δ a Q:=by
 refine #[e,λp c=>#[λi ys M=>ys=(HM i).map f/\M=au a p (.lst ys),#[8,rfl],?_,?_,?_]]
 .rintro i ys M _ ⟨_,rfl⟩;exact hC p ys c
 .rintro i ys d M l hd ⟨rfl,rfl⟩;let[os,m,k]:=h i d _ l hd (.new c .refl);exists os,m;unfold d4;refine oJ (k _ ?_);exact λb o=>#[_,o,ai,by rw[Kb,Ib];rfl,by rw[cC]]
 .rintro ys M ⟨rfl,rfl⟩;exact j p c
end
def En(X:Cx)(xs:u_)(js:sx)(scope:JB):Bool:=
 scope.kind==.function&&scope.names.all (λy=>(y.2 != .cell||xs.contains y.1)&&(y.2 != .free||!xs.contains y.1))&&scope.names.all (λy=>y.2 != .local||scope.names.lookup y.1==KA .local)&&xs.all (λx=>scope.names.lookup x==KA .local||scope.names.lookup x==KA .cell) &&
  scope.names.all (λy=>y.2 != .free||(X.env.kindOf y.1==KA .cell||X.env.kindOf y.1==KA .free))&&decide (cN X xs js).Nodup&&js.all (λj=>scope.names.lookup ((X.N[j]?).getD ("":Str)) != KA .local)
def LO.of{X:Cx}{xs:u_}{js:sx}{scope:JB}(h:En X xs js scope=KD):LO X xs js scope:=by
 unfold En at h;simp only[Je]at h;obtain⟨⟨⟨⟨⟨⟨h1,h2⟩,c⟩,d⟩,e⟩,f⟩,g⟩:=h;refine #[‹h1›,λy a i=>?_,λy a b=>?_,λy a k=>?_,λx hx=>?_,λy a b=>?_,of_decide_eq_true f,λj l=>?_]
 .have:=K5.mp h2 y a;rw[i]at this;simpa using this
 .have:=K5.mp h2 y a;rw[b]at this;simpa using this
 .have:=K5.mp c y a;rw[k]at this;simpa using this
 .have:=K5.mp d x hx;simpa using this
 .have:=K5.mp e y a;rw[b]at this;simpa using this
 .have:=K5.mp g j l;simpa using this
abbrev WO:=DS->MH->(ti->MH->Prop)->Prop
def tL(K:Hm)(t:WO):TO:=λσ H Q=>∃δ M R,Slots K H δ σ/\LV K H M/\t δ M R/\∀o b a,LP K H a->LV K a b->R o b->Q o a
def yM:WO:=λ_ M Q=>Q KC M
def B1(t:TD):WO:=λδ M Q=>t δ M λx a=>∃i,x=.int i/\Q (KA i) a
def cutD(xs:vu)(a b:ti):vu:=(xs.drop (HT.sIx xs.length 0 a)).take (HT.sIx xs.length xs.length b-HT.sIx xs.length 0 a)
def Gg:D->ti->ti->MH->DK->Prop:=λx c d M Q=>match x with
 |.ref a=>∃b,M a=KA (.lst b)/\∀p,M p=KC->Q (.ref p) (au M p (.lst (cutD b c d)))
 |.rol b=>∀p,M p=KC->Q (.ref p) (au M p (.lst (cutD b c d)))
 |.tup b=>¬(HT.sIx b.length 0 c=0/\HT.sIx b.length b.length d=b.length)/\Q (.tup (cutD b c d)) M
 |_=>False
def G9(te:TD)(a b:WO):TD:=λδ M Q=>te δ M λx c=>a δ c λl d=>b δ d λu e=>Gg x l u e Q
def aE.cut{K:Hm}{H:Hp}{ds:vu}{xs:vo}(h:aE K H ds xs)(a b:ti):aE K H (cutD ds a b) (qM xs a b):=by unfold cutD qM;rw[h.length];exact(h.drop _).take _
section
variable{X:Cx}{e a:sg}{te:TD}{tl th:WO}{lo hi:Option sg}{pos p2:Pos}
theorem xm{e:Option sg}{t t':TO}(h:PO X e t)(k:∀σ H Q,t' σ H Q->t σ H Q):PO X e t':=λKQ s σ H Q I q=>h KQ s σ H Q I (k _ _ _ q)
theorem eD:PO X KC (tL X.K yM):=xm Av λσ H Q b=>by let[δ,M,R,d,a,q,c]:=b;exact(c _ _ _ .refl a q)
theorem cD(h:DE X e te):PO X (KA e) (tL X.K (B1 te)):=xm (A7 h) λσ H Q b=>by let[δ,M,R,g,a,q,c]:=b;exact(#[δ,M,_,g,a,q,λd n v H1 g1 f j k=>by
 let[i,l,m]:=k
 subst l
 rw[Rep]at f
 exact #[i,f,c _ _ _ g1 j m]])
theorem cn(o:DE X a te)(p:PO X lo (tL X.K tl))(r:PO X hi (tL X.K th)):DE X (.Subscript a (.Slice lo hi KC p2) pos) (G9 te tl th):=
 bf (wx (AE.or C3) o p r) λσ H Q f=>by let[δ,M,R,k,a,q,g]:=f;exact(#[δ,M,_,k,a,q,λx s v H1 g1 t w y=>#[δ,s,_,k.mono g1,w,y,λl A E m B C=>#[δ,A,_,k.mono (g1.trans m),B,C,λu F I n h d=>by
  let G:=(g1.trans m).trans n
  let j:=t.mono (m.trans n)
  unfold Gg at d
  split at d
  .obtain⟨J,e3,d⟩:=d
   obtain rfl:v=.ref _:=j
   let[xs,hx,i]:=h _ _ e3
   exact .inl #[_,xs,8,L8.of hx,λz c=>g _ _ _ _ (G.trans (.new c)) (by rw[Rep]) (h.lK c (i.cut _ _)) (d z (h.fresh c))]
  .rw[Rep]at j
   let[b,xs,8,hx,i]:=j
   exact .inl #[_,xs,8,hx.sql,λz c=>g _ _ _ _ (G.trans (.new c)) (by rw[Rep]) (h.lK c (i.cut _ _)) (d z (h.fresh c))]
  .obtain⟨D,d⟩:=d
   rw[Rep]at j
   let[b,xs,8,hx,i]:=j
   exact .inr #[_,xs,8,hx,by rw[<-i.length];exact D,λz c=>g _ _ _ _ (G.trans (.new c)) (by rw[Rep];exact #[z,7,L7.of aH,(i.cut _ _).mono (.new c)]) (h.new c) d]
  .exact d.elim]]])
end
section
variable{X:Cx}{x y z:Str}{px py pz pt pos:Pos}{kt:Nat}{js:sx}{scope:JB}{elt iter:sg}{ifs:tr}{te:TD}{tc:Lg}{wd:MP}{xs:u_}
def fK(c:LO X xs js scope)(i:Nat)(hx:xs[i]?=KA x){C:r4}{s:Hq}{H:Hp}{fp:t_}:PG (LX X xs js scope C s H fp) (.Name x px) (dq i):=by
 let b:i<xs.length:=(Hw.mp hx).1;let a:=Hz hx
 let d:Loc (LX X xs js scope C s H fp).env.scope x:=by
  rcases c.own x a with z|z
  .exact .inl (gF ⋯ z)
  .exact .inr (gF ⋯ z)
 refine ui (i:=i) c.nd ?_ d (.inl (by show xs.contains x=KD;simpa using a));show(xs++js.map λj=>(X.N[j]?).getD ("":Str))[i]?=KA x;rw[Im b];exact hx
theorem ug(c:LO X [x,y] js scope)(a:X.calm=KD){C:r4}{s:Hq}{H:Hp}{fp:t_}:PG (LX X [x,y] js scope C s H fp) (.Tuple [.Name x px,.Name y py] kt pt) (sv X.K 2 (fV (dq 0) (fV (dq 1) tF))):=pE (X:=LX X [x,y] js scope C s H fp) a (eP (fK c 0 rfl) (eP (fK c 1 rfl) lV)) rfl rfl
theorem bS(c:LO X [x] js scope)(a:X.calm=KD)(b:DI X (.Name x px) iter wd)(d:∀C s H fp,DTs (LX X [x] js scope C s H fp) ifs tc)(e:∀C s H fp,DE (LX X [x] js scope C s H fp) elt te) (f:∀x,Ia iter X.env x=pure x:=by intro _;rfl):DE X (.ListComp elt [#[.Name x px,iter,ifs,0]] scope pos) (ka wd .one js tc te):=t9 c a b sE (λ_ _ _ _=>fK c 0 rfl) d e f
theorem qL(c:LO X [x,y] js scope)(a:X.calm=KD)(b:DI X (.Tuple [.Name x px,.Name y py] kt pt) iter wd)(d:∀C s H fp,DTs (LX X [x,y] js scope C s H fp) ifs tc)(e:∀C s H fp,DE (LX X [x,y] js scope C s H fp) elt te) (f:∀x,Ia iter X.env x=pure x:=by intro _;rfl):DE X (.ListComp elt [#[.Tuple [.Name x px,.Name y py] kt pt,iter,ifs,0]] scope pos) (ka wd (.many 2) js tc te):=t9 c a b zh (λ_ _ _ _=>ug c a) d e f
theorem iq(i:Nat){v:Str}{d a:Pos}(e:X.N.Nodup)(c:LO X [x] js scope)(f:X.calm=KD)(g:DI X (.Name x px) iter wd)(h:∀C s H fp,DTs (LX X [x] js scope C s H fp) ifs tc)(j:∀C s H fp,DE (LX X [x] js scope C s H fp) elt te) (k:X.N[i]?=KA v:=by rfl) (l:X.env.scope.names.lookup v=KA .local:=by rfl) (b:JH (.ListComp elt [#[.Name x px,iter,ifs,0]] scope pos) (KA (.Name v d)) a.line X.env=pure KD:=by rfl) (m:∀x,Ia iter X.env x=pure x:=by intro _;rfl) : DSt X (.Assign [.Name v d] (.ListComp elt [#[.Name x px,iter,ifs,0]] scope pos) a) (cG (ka wd .one js tc te) (aK i)):=Aq i e c f g sE (λ_ _ _ _=>fK c 0 rfl) h j k l b m
end
section
variable{prog:HL}{w:Il}{A:Ig}{E:Hn->Hq->Prop}{s:Hq}
def xC{N L:String}{op:CmpOp}{a b:Hn}{c:Bool}{Q:Hn->Hq->Prop}(n:(N="max"/\L="max.loop"/\op=.Gt)\/(N="min"/\L="min.loop"/\op=.Lt))(hh:A.handled=KC)
 (O:∀(t:Hq)(Y:Hn->Hq->Prop)(E':Hn->Hq->Prop),(∀x o,s.heap.get? x=KA o->t.heap.get? x=KA o)->Y (.bool c) t->Hy (HI prog w) A.in1 (richCompare op b a) Y E' t)
 (h:∀h' tk,(∀x o,s.heap.get? x=KA o->h'.get? x=KA o)->Q (if c=KD then b else a) { s with heap:=h',toks:=tk }) :
 Hy (HI prog w) A (call (.builtin N) [a,b]) Q E s:=by
 rcases n with⟨rfl,M,rfl⟩|⟨rfl,M,rfl⟩
 let B:(toString "max"++toString ".loop":String)=L:=by rw[M];decide
 let i:=F.plain_max_loop
 let C:=F.entry_max_loop
 refine call_function_tree F.kind_max F.plain_max F.entry_max (F.args_max2 _ _) ?_
 rotate_left
 let B:(toString "min"++toString ".loop":String)=L:=by rw[M];decide
 let i:=F.plain_min_loop
 let C:=F.entry_min_loop
 refine call_function_tree F.kind_min F.plain_min F.entry_min (F.args_min2 _ _) ?_
 all_goals
  rw[<-M]at i C
  show Hy _ A.in1 (Builtin.Builtins.bindParams _ ["key","default"] 0 #[[],[]] >>= λ_=>_) _ _ s
  refine Hl (wpAny_of_eq (a:=[KC,KC]) rfl ?_)
  show Hy _ A.in1 (newTuple [a,b] >>= λ_=>_) _ _ s
  refine Hl (ID ?_)
  generalize e1:s.heap.push { cls:=.type "tuple",dict:=KC,data:=.seq ([a,b]:List Hn).toArray }=h1
  let k1:∀x o,s.heap.get? x=KA o->h1.get? x=KA o:=λx o q=>by rw[<-e1];exact Hr _ q
  let Z:h1.IsTuple s.z (List.toArray [a,b]):=by rw[<-e1];exact #[_,Hx _ rfl,8,0,rfl]
  let z1:h1.objs.size=s.z+1:=by rw[<-e1,J6]
  refine Hl (wpAny_pyIter_tuple (s:={ s with heap:=h1 }) Z ?_)
  refine Hl (ID ?_)
  dsimp only
  generalize eI:h1.objs.size=I
  generalize e2:h1.push _=h2
  let k2:∀x o,h1.get? x=KA o->h2.get? x=KA o:=λx o q=>by rw[<-e2];exact Hr _ q
  let hI:h2.IsTupleIter I s.z 0:=by rw[<-e2,<-eI];exact #[_,Hx _ rfl,8,rfl]
  let z2:h2.objs.size=I+1:=by rw[<-e2,J6,eI]
  generalize eS:h2.objs.size=S
  generalize e3:h2.push _=k
  let P:∀x o,h2.get? x=KA o->k.get? x=KA o:=λx o q=>by rw[<-e3];exact Hr _ q
  let hS:k.get? S=KA { cls:=.type "list",dict:=KC,data:=.seq #[] 0,slots:=#[] }:=by rw[<-e3,<-eS];exact Hx _ rfl
  let D:S≠I:=()
  let g:∀x o,s.heap.get? x=KA o->x≠I/\x≠S:=λx o q=>#[HX (HY (HE q) ()),HX (HY (HE q) ())]
  let G:k.IsTuple s.z (List.toArray [a,b]):=by
   let[o,q,r]:=Z
   exact #[o,P _ _ (k2 _ _ q),r]
  let R:k.IsTupleIter I s.z 0:=hI.at λo q=>P _ _ q
  let TI:s.z≠I:=()
  let TS:s.z≠S:=()
  let l:∀x o,s.heap.get? x=KA o->k.get? x=KA o:=λx o q=>P _ _ (k2 _ _ (k1 _ _ q))
  rw[B]
  refine Hs #[plainId_quiet i _,?_]
  let f:∀(t:Hq)(v:Hn)(n:Nat),t.heap.IsTupleIter I s.z 2->t.heap.IsTuple s.z (List.toArray [a,b])->t.heap.get? S=KA { cls:=.type "list",dict:=KC,data:=.seq (List.toArray [v,v]) n,slots:=#[] }->
   (∃h' tk,t={ s with heap:=h',toks:=tk }/\∀x o,s.heap.get? x=KA o->h'.get? x=KA o)->v=(if c=KD then b else a)->JE (HI prog w) A (.builtin L #[[.ref I,.none,.ref S],[]]) (λr s'=>match r with|.ok (.ret v)=>Q v s'|.ok _=>False|.error e=>E e s') t:=by
   rintro t v n i2 tT lS ⟨h',tk,rfl,kt⟩ ev
   refine codeAny_builtin C ?_
   rw[Around.under_plainId i _]
   show Hy _ A.in1 (seqItems? (.ref S) >>= λ_=>_) _ _ _
   refine Hl (Kn lS rfl ?_)
   show Hy _ A.in1 (tryCatch (pyNext (.ref I)) _ >>= λ_=>_) _ _ _
   refine Hl (wpAny_tryCatch (wpAny_pyNext_tuple_end (A:=A.in1) hh i2 tT (_) λy z=>?_))
   let T:y.get? S=KA _:=z _ _ D lS
   show Hy _ A.in1 (updateSeq S (λ_=>#[]) >>= λ_=>_) _ _ _
   refine Hl (wpAny_updateSeq T rfl (Hl (wpAny_letGo (Hs ?_))))
   show Q v _
   rw[ev]
   exact h _ _ λx o q=>(Jn _ _ (g x o q).2.symm).trans (z x o (g x o q).1 (kt x o q))
  refine codeAny_builtin C ?_
  rw[Around.under_plainId i _]
  show Hy _ A.in1 (seqItems? (.ref S) >>= λ_=>_) _ _ _
  refine Hl (Kn (s:={ s with heap:=k }) hS rfl ?_)
  show Hy _ A.in1 (tryCatch (pyNext (.ref I)) _ >>= λ_=>_) _ _ _
  refine Hl (wpAny_tryCatch (wpAny_pyNext_tuple_item (s:={ s with heap:=k }) R G (x:=a) (_) λy i4 z=>?_))
  let H:y.get? S=KA _:=(z.2 _ D).trans hS
  let U:y.IsTuple s.z (List.toArray [a,b]):=by
   let[o,q,r]:=G
   exact #[o,(z.2 _ TI).trans q,r]
  show Hy _ A.in1 (updateSeq S (λ_=>(List.toArray [a,a])) >>= λ_=>_) _ _ _
  refine Hl (wpAny_updateSeq H rfl ?_)
  rw[B]
  refine Hs #[plainId_quiet i _,?_]
  generalize e5:y.update S _=m
  let V:∀x,x≠S->m.get? x=y.get? x:=λx q=>by rw[<-e5];exact Jn _ _ q.symm
  let j:∃n,m.get? S=KA { cls:=.type "list",dict:=KC,data:=.seq (List.toArray [a,a]) n,slots:=#[] }:=#[_,by rw[<-e5];exact JM _ H rfl]
  let[n5,j]:=j
  let i5:m.IsTupleIter I s.z 1:=i4.at λo q=>(V _ D.symm).trans q
  let J:m.IsTuple s.z (List.toArray [a,b]):=by
   let[o,q,r]:=U
   exact #[o,(V _ TS).trans q,r]
  let p:∀x o,s.heap.get? x=KA o->m.get? x=KA o:=λx o q=>(V _ (g x o q).2).trans ((z.2 _ (g x o q).1).trans (l x o q))
  refine codeAny_builtin C ?_
  rw[Around.under_plainId i _]
  show Hy _ A.in1 (seqItems? (.ref S) >>= λ_=>_) _ _ _
  refine Hl (Kn (s:={ s with heap:=m }) j rfl ?_)
  show Hy _ A.in1 (tryCatch (pyNext (.ref I)) _ >>= λ_=>_) _ _ _
  refine Hl (wpAny_tryCatch (wpAny_pyNext_tuple_item (s:={ s with heap:=m }) i5 J (x:=b) (_) λW i6 X=>?_))
  let u:W.get? S=KA _:=(X.2 _ D).trans j
  let K:W.IsTuple s.z (List.toArray [a,b]):=by
   let[o,q,r]:=J
   exact #[o,(X.2 _ TI).trans q,r]
  let d:∀x o,s.heap.get? x=KA o->W.get? x=KA o:=λx o q=>(X.2 _ (g x o q).1).trans (p x o q)
  show Hy _ A.in1 (tryCatch (holding [b,b] (richCompare _ b a >>= λ_=>_)) _ >>= λ_=>_) _ _ _
  refine Hl (wpAny_tryCatch (IM (Hl (O _ _ _ d ?_))))
  refine Hl (IM (Jf ?_))
  refine Hl (wpAny_letGo (Hs ?_))
  cases c with
  |true=>
   simp only[if_true]at f ⊢
   refine Hl (wpAny_updateSeq u rfl (Hl (wpAny_letGo ?_)))
   rw[B]
   refine Hs #[plainId_quiet i _,f _ b _ (i6.at λo q=>(Jn _ _ D).trans q) ?_ (JM _ u rfl) #[_,7,λx o q=>(Jn _ _ (g x o q).2.symm).trans (d x o q)] rfl]
   let[o,q,r]:=K
   exact #[o,(Jn _ _ TS.symm).trans q,r]
  |false=>
   simp only[IE,if_false]at f ⊢
   refine Hl (wpAny_letGo ?_)
   rw[B]
   exact Hs #[plainId_quiet i _,f _ a _ i6 K u #[_,7,d] rfl]
end
end SD
namespace HT
open PySem PyProof.Rows
def lexLe:sy->sy->Bool
 |[],[]=>KD
 |[],_::_=>KD
 |_::_,[]=>KG
 |x::xs,y::ys=>if x=y then lexLe xs ys else decide (x<=y)
def cF:sy->sy->Bool
 |[],[]=>KG
 |[],_::_=>KG
 |_::_,[]=>KD
 |x::xs,y::ys=>if x=y then cF xs ys else decide (y<x)
def mC(k:Bool)(ns ms:sy):Bool:=bif k then cF ns ms else lexLe ns ms
def we(k:Bool)(x y:Int)(xs ys:sy):mC k (x::xs) (y::ys)=if x=y then mC k xs ys else bif k then decide (y<x)else decide (x<=y):=by cases k<;>rfl
def zC{k:Bool}{ns ms:sy}{a b:Nat}(z:ns=[]\/ms=[])(h:ns.length+b=ms.length+a):mC k ns ms=bif k then decide (a>b)else decide (a<=b):=by
 let e:mC k ns ms=bif k then decide (ns.length>ms.length)else decide (ns.length<=ms.length):=by
  rcases z with rfl|rfl
  .cases k<;>cases ms<;>simp[mC,lexLe,cF]
  .cases k<;>cases ns<;>simp[mC,lexLe,cF]
 rw[e];cases k
 .exact decide_eq_decide.mpr ()
 .exact decide_eq_decide.mpr ()
def AI(k:Bool)(A:Ig)(s:Hq)(a:Int)(t:Tok)(c:Int)(u:Tok)(prog:HL)(w:Il)(E:Hn->Hq->Prop)(Q:Hn->Hq->Prop)(h:Q (.bool (bif k then decide (c<a)else decide (a<=c))) s) : Hy (HI prog w) A (richCompare (bif k then .Gt else .LtE) (.int a t) (.int c u)) Q E s:=by
 cases k
 .exact(PyProof.Rows.le_int h:Hy (HI prog w) A (Ik .LtE (.int a t) (.int c u)) Q E s)
 .exact(PyProof.Rows.gt_int h:Hy (HI prog w) A (Ik .Gt (.int a t) (.int c u)) Q E s)
section
open PySem.SeqAt
open PySem.AutoSeq1 (wpAny_loadPart')
open PySem.MeetsSeq PySem.MeetsSeq2 PySem.MeetsSeq3
theorem wH(k:Bool)(l b:r4)(items i:Array Hn)(n n2:Nat)(U J:Option r4)(V K:Array (Option Hn))(ns ms:sy)(Q:Jk items.toList ns)(S:Jk i.toList ms) :
 Meets ((bif k then Kd.«tuple.__gt__» else Kd.«tuple.__le__») #[[.ref l,.ref b],[]])
  (λ_ R s=>s.heap.get? l=KA { cls:=.type "tuple",dict:=U,data:=.seq items n,slots:=V }/\s.heap.get? b=KA { cls:=.type "tuple",dict:=J,data:=.seq i n2,slots:=K }/\
   R (.ok (.ret (.bool (mC k ns ms)))) s):=
 .of_wp λprog w A R s h=>by
  let[H,g,d,I,os]:=s;let[W,X,h]:=h
  let f2:=AutoSeq1.sub_tuple_tuple
  let z1:items.size=ns.length:=by rw[<-Q.length];simp
  let z2:i.size=ms.length:=by rw[<-S.length];simp
  let L:=we k
  let M:=λns ms a b=>zC (k:=k) (ns:=ns) (ms:=ms) (a:=a) (b:=b)
  let T:=λa t c u=>AI k A.in1 #[H,g,d,I,os] a t c u prog w
  generalize mC k=f at h L M
  cases k
  all_goals
   dsimp only[cond_true,cond_false]at L M T ⊢
   wp_walk using J3 W,J3 X,wpAny_forIn_list _ (λr b N=>b.1=KC/\N=#[H,g,d,I,os]/\∃(vs ws:List Hn) (j m:sy),r=vs.zip ws/\
    Jk vs j/\Jk ws m/\j.length+i.size=m.length+items.size/\R (.ok (.ret (.bool (f j m)))) #[H,g,d,I,os]) _
   case turn=>
    rintro⟨y,x⟩ r b N ⟨B,rfl,vs,ws,j,m,p,C,D,o,v⟩
    cases C with
    |nil=>rw[List.zip_nil_left]at p;cases p
    |cons a t F=>
     cases D with
     |nil=>rw[List.zip_nil_right]at p;cases p
     |cons c u G=>
      rw[List.zip_cons_cons]at p
      injection p with O E
      injection O with Y hx
      subst Y hx
      rw[L]at v
      simp only[Ih]at o
      let[e,Z,z]:=p7 A.in1 #[H,g,d,I,os] a t c u
      refine Hl (Z prog w _ _ ?_)
      cases e with
      |true=>
       rw[KI (z.mp rfl)]at v
       wp_walk
       exact #[8,8,_,_,_,_,E,F,G,(),v]
      |false=>
       rw[KH (λq=>absurd (z.mpr q) HF)]at v
       let P:=T a t c u
       wp_walk using P
       exact #[7,‹v›]
   case fin=>
    rintro⟨b1,b2⟩ N ⟨B,rfl,vs,ws,j,m,p,C,D,o,v⟩
    simp only at B
    subst B
    let hv:=M j m items.size i.size (by
     cases C with
     |nil=>exact .inl rfl
     |cons a t hv=>
      cases D with
      |nil=>exact .inr rfl
      |cons c u hw=>
       rw[List.zip_cons_cons]at p
       cases p) o
    rw[hv]at v
    wp_walk
    exact #[7,by simpa[Builtin.Tuple.tupleCompareSizes]using v]
   case h=>
    exact #[8,8,items.toList,i.toList,ns,ms,8,Q,S,(),h]
end
section
variable{prog:HL}{w:Il}{A:Ig}{E:Hn->Hq->Prop}{s:Hq}
def jh(k:Bool){l b:r4}{items a:Array Hn}{ns ms:sy}{Q:Hn->Hq->Prop}(r:IsTup s.heap l items)(t:IsTup s.heap b a)(u:Jk items.toList ns)(v:Jk a.toList ms)
 (o:A.units<IV) (h:Q (.bool (mC k ns ms)) s):Hy (HI prog w) A (Ik (bif k then .Gt else .LtE) (.ref l) (.ref b)) Q E s:=by
 obtain⟨⟨cls,y,data,z⟩,f,p,n,hd⟩:=id r
 obtain⟨⟨q,g,i,j⟩,c,d,n2,e⟩:=id t
 simp only at p hd d e
 subst p hd d e
 let m:=wH k l b items a n n2 y g z j ns ms u v
 let h:JU (mC k ns ms)≠Value.notImplemented/\Q (.bool (mC k ns ms)) s:=#[(λx=>nomatch x),h]
 cases k
 .exact richCompare_meets_room (op:=.LtE) #[_,f,rfl] #[_,c,rfl] PySem.F.slot_tuple_le PySem.F.entry_tuple_le (PySem.F.args_tuple_le_2 _ _) m #[f,c,h] o
 .exact richCompare_meets_room (op:=.Gt) #[_,f,rfl] #[_,c,rfl] PySem.F.slot_tuple_gt PySem.F.entry_tuple_gt (PySem.F.args_tuple_gt_2 _ _) m #[f,c,h] o
end
end HT
namespace SD
open PySem PySem.Spec PyProof.Rows L2
section
variable{X:Cx}
theorem eN{K:Hm}{H:Hp}:∀{ns:sy}{xs:vo},aE K H (ns.map D.int) xs->xs=ns.map V.int
 |[],xs,h=>by rw[JF,aE]at h;exact h
 |n::ns,xs,h=>by
  rw[HG,aE]at h
  let[x,r,8,h1,h2]:=h
  rw[Rep]at h1
  rw[h1,eN h2];rfl
def Dt(d:X.A.units<IV):Lq X (Ik .LtE) (λx y H Q=>∃a b ns ms,x=.ref a/\y=.ref b/\L7 X.K H a (ns.map V.int)/\L7 X.K H b (ms.map V.int)/\Q (.bl (HT.lexLe ns ms)) H):=by intro KQ s σ H x y v u Q I e f h;let[a,b,ns,ms,8,8,g,i,q]:=h;cases e;cases f;let[j,k,l,_]:=I.tuple g;let[c,m,n,_]:=I.tuple i;exact HT.jh KG l n (intsAre_of k) (intsAre_of m) d #[.bl (HT.lexLe ns ms),H,I,8,q]
def CQ(d:X.A.units<IV):Lq X (Ik .Gt) (λx y H Q=>∃a b ns ms,x=.ref a/\y=.ref b/\L7 X.K H a (ns.map V.int)/\L7 X.K H b (ms.map V.int)/\Q (.bl (HT.cF ns ms)) H):=by intro KQ s σ H x y v u Q I e f h;let[a,b,ns,ms,8,8,g,i,q]:=h;cases e;cases f;let[j,k,l,_]:=I.tuple g;let[c,m,n,_]:=I.tuple i;exact HT.jh KD l n (intsAre_of k) (intsAre_of m) d #[.bl (HT.cF ns ms),H,I,8,q]
def qu(f:Int->Int->Bool)(g:sy->sy->Bool):Lx:=λx y M Q=>match x,y with
 |.int i,.int j=>True/\Q (.bl (f i j)) M
 |.tup a,.tup b=>∃ns c,a=Jp D.int ns/\b=Jp D.int c/\Q (.bl (g ns c)) M
 |_,_=>False
def wA{op:CmpOp}{f:Int->Int->Bool}{g:sy->sy->Bool}(h1:MF X (Ik op) (OD (λ_ _=>True) λi j=>.bl (f i j))) (h2:Lq X (Ik op) (λx y H Q=>∃a b ns ms,x=.ref a/\y=.ref b/\L7 X.K H a (ns.map V.int)/\L7 X.K H b (ms.map V.int)/\Q (.bl (g ns ms)) H)):MF X (Ik op) (qu f g):=by
 refine ix (h1.or h2) λv u H Q c=>?_;let[x,y,M,R,e,h,a,q,d]:=c;unfold qu at q;split at q
 .exact .inl #[_,_,M,R,e,h,a,q,d]
 .obtain⟨ns,ms,rfl,rfl,q⟩:=q;rw[Rep]at e;let[p,xs,8,hx,l]:=e;obtain⟨m,o,rfl,k,n⟩:∃a xs,u=V.ref a/\L7 X.K H a xs/\aE X.K H (Jp D.int ms) xs:=by rw[Rep]at h;exact h
  rw[eN l]at hx;rw[eN n]at k;exact .inr #[p,m,ns,ms,8,8,hx,k,d _ _ _ _ .refl (by rw[Rep]) a q]
 .exact q.elim
theorem b4(a:X.A.units+64<IV):MF X (Ik .Lt) (qu (λi j=>decide (i<j)) HT.lexLt):=wA EW (C8 ())
theorem mv(a:X.A.units+64<IV):MF X (Ik .LtE) (qu (λi j=>decide (i<=j)) HT.lexLe):=wA Fx (Dt ())
theorem fM(a:X.A.units+64<IV):MF X (Ik .Gt) (qu (λi j=>decide (j<i)) HT.cF):=wA E1 (CQ ())
def vk(d:X.calm=KD)(E:X.A.units+64<IV):bY X (.builtin "max") (λxs H Q=>∃p q ns ms,xs=[.ref p,.ref q]/\L7 X.K H p (ns.map V.int)/\L7 X.K H q (ms.map V.int)/\Q (if HT.cF ms ns=KD then .ref q else .ref p) H):=by
 intro KQ s σ H xs us Q I r f;let[p,q,ns,ms,e,g,h,k]:=f;subst e;let[u,v,8,i,j]:=vals2 r;cases i;cases j;let[l,m,n,_]:=I.tuple g;let[b,o,w,_]:=I.tuple h;refine xC (.inl #[8,8,rfl]) (c:=HT.cF ms ns) (I.ok.hd d) (λt F G a x=>?_) λJ L a=>#[_,H,I.kept a,?_,k]
 .obtain⟨y,z,b1⟩:=n;let[B,C,D]:=w;exact HT.jh KD (A:=X.A.in1) (s:=t) #[B,a _ _ C,D] #[y,a _ _ z,b1] (intsAre_of o) (intsAre_of m) (by show X.A.units+1<IV;omega) x
 .cases HT.cF ms ns<;>rfl
def uY(d:X.calm=KD)(E:X.A.units+64<IV):bY X (.builtin "min") (λxs H Q=>∃p q ns ms,xs=[.ref p,.ref q]/\L7 X.K H p (ns.map V.int)/\L7 X.K H q (ms.map V.int)/\Q (if HT.lexLt ms ns=KD then .ref q else .ref p) H):=by
 intro KQ s σ H xs us Q I r f;let[p,q,ns,ms,e,g,h,k]:=f;subst e;let[u,v,8,i,j]:=vals2 r;cases i;cases j;let[l,m,n,_]:=I.tuple g;let[b,o,w,_]:=I.tuple h;refine xC (.inr #[8,8,rfl]) (c:=HT.lexLt ms ns) (I.ok.hd d) (λt F G a x=>?_) λJ L a=>#[_,H,I.kept a,?_,k]
 .obtain⟨y,z,b1⟩:=n;let[B,C,D]:=w;exact HT.me (A:=X.A.in1) (s:=t) #[B,a _ _ C,D] #[y,a _ _ z,b1] (intsAre_of o) (intsAre_of m) (by show X.A.units+1<IV;omega) x
 .cases HT.lexLt ms ns<;>rfl
def Bo:RC:=λd M Q=>match d with
 |[.int i,.int j]=>Q (.int (max i j)) M
 |[.tup a,.tup b]=>∃ns c,a=Jp D.int ns/\b=Jp D.int c/\Q (.tup (Jp D.int (if HT.cF c ns=KD then c else ns))) M
 |_=>False
def FP:RC:=λd M Q=>match d with
 |[.int i,.int j]=>Q (.int (min i j)) M
 |[.tup a,.tup b]=>∃ns c,a=Jp D.int ns/\b=Jp D.int c/\Q (.tup (Jp D.int (if HT.lexLt c ns=KD then c else ns))) M
 |_=>False
theorem zH(j:X.calm=KD)(s:X.A.units+64<IV):d9 X (.builtin "max") Bo:=bZ (bY.or (CI j) (vk j s)) λvs H Q t=>by
 let[b,M,R,k,a,q,c]:=t;rcases b with _|⟨d,b⟩
 .exact HS q
 cases d<;>rcases b with _|⟨e,b⟩<;>try exact HS q
 all_goals (cases e<;>rcases b with _|⟨f,b⟩<;>try exact HS q)
 .exact .inl #[_,M,R,k,a,q,c]
 .obtain⟨ns,i,rfl,rfl,q⟩:=q;let[v,u,8,l,m]:=gc k;rw[Rep]at l;let[p,xs,8,hx,n]:=l;obtain⟨w,x,rfl,o,r⟩:∃a xs,u=V.ref a/\L7 X.K H a xs/\aE X.K H (Jp D.int i) xs:=by rw[Rep]at m;exact m
  let g:=hx;let h:=o;rw[eN n]at g;rw[eN r]at h;refine .inr #[p,w,ns,i,8,g,h,c _ _ _ _ .refl ?_ a q];by_cases z:HT.cF i ns=KD
  .rw[KI z,KI z,Rep];exact #[_,7,o,r]
  .rw[KH z,KH z,Rep];exact #[_,7,hx,n]
theorem uD(j:X.calm=KD)(s:X.A.units+64<IV):d9 X (.builtin "min") FP:=bZ (bY.or (Ci j) (uY j s)) λvs H Q t=>by
 let[b,M,R,k,a,q,c]:=t;rcases b with _|⟨d,b⟩
 .exact HS q
 cases d<;>rcases b with _|⟨e,b⟩<;>try exact HS q
 all_goals (cases e<;>rcases b with _|⟨f,b⟩<;>try exact HS q)
 .exact .inl #[_,M,R,k,a,q,c]
 .obtain⟨ns,i,rfl,rfl,q⟩:=q;let[v,u,8,l,m]:=gc k;rw[Rep]at l;let[p,xs,8,hx,n]:=l;obtain⟨w,x,rfl,o,r⟩:∃a xs,u=V.ref a/\L7 X.K H a xs/\aE X.K H (Jp D.int i) xs:=by rw[Rep]at m;exact m
  let g:=hx;let h:=o;rw[eN n]at g;rw[eN r]at h;refine .inr #[p,w,ns,i,8,g,h,c _ _ _ _ .refl ?_ a q];by_cases z:HT.lexLt i ns=KD
  .rw[KI z,KI z,Rep];exact #[_,7,o,r]
  .rw[KH z,KH z,Rep];exact #[_,7,hx,n]
end
end SD
namespace Ma
open SD
def Aw{p z:Int}(h:0<p):0<p*z↔0<z:=by
 constructor
 .intro q;by_cases a:0<z
  .exact a
  .have:p*z<=0:=Int.mul_nonpos_of_nonneg_of_nonpos () ();omega
 .exact λq=>IZ h q
def vd{a b c d:Int}(f:0<b)(hd:0<d):Rat.divInt a b<Rat.divInt c d↔a*d<c*b:=by
 let e:=Rat.divInt_sub_divInt c a (d₁:=d) (d₂:=b) () ();let h1:Rat.divInt a b<Rat.divInt c d↔0<Rat.divInt c d-Rat.divInt a b:=by constructor<;>intro z<;>grind
 rw[h1,e,mW (IZ hd f)];omega
def ut(t b X m x:Int):Rat:=Rat.divInt (x*t+X*m) (b*m)
def qE{t b X m n x y:Int}(c:0<t)(a:0<b)(d:0<m)(f:0<n):ut t b X m x<ut t b X n y↔n*x<m*y:=by
 unfold ut;rw[vd (IZ a d) (IZ a f)];let e:(y*t+X*n)*(b*m)-(x*t+X*m)*(b*n)=(b*t)*(m*y-n*x):=by grind
 have:=Aw (z:=m*y-n*x) (IZ a c);omega
def mE{t b X m n x y:Int}(d:0<t)(f:0<b)(g:0<m)(h:0<n):ut t b X m x=ut t b X n y↔n*x=m*y:=by
 let h1:=qE (X:=X) (x:=x) (y:=y) d f g h;let h2:=qE (X:=X) (x:=y) (y:=x) d f h g;constructor
 .intro e;let a:¬ut t b X m x<ut t b X n y:=by rw[e];exact Rat.lt_irrefl
  let c:¬ut t b X n y<ut t b X m x:=by rw[e];exact Rat.lt_irrefl
  rw[h1]at a;rw[h2]at c;omega
 .intro e;let a:¬ut t b X m x<ut t b X n y:=by rw[h1];omega
  let c:¬ut t b X n y<ut t b X m x:=by rw[h2];omega
  grind
def yo{t b X x:Int}:Rat.divInt (x*t+X) b=ut t b X 1 x:=by unfold ut;rw[Int.mul_one,Int.mul_one]
def Ey{t b X Y m n x y u v:Int}(a:0<t)(c:0<b)(d:0<m)(e:0<n) : ah (ut t b X m x) (ut t b Y m y) (ut t b X n u) (ut t b Y n v)↔HT.lexLt [n*x,n*y] [m*u,m*v]=KD:=by
 unfold ah;rw[qE a c d e,mE a c d e,qE a c d e];simp only[HT.lexLt];by_cases h:n*x=m*u
 .rw[KI h];by_cases h2:n*y=m*v
  .rw[KI h2];simp;omega
  .rw[KH h2];simp;omega
 .rw[KH h];simp;omega
def uR(a b c d:Int):HT.lexLe [a,b] [c,d]=!HT.lexLt [c,d] [a,b]:=by
 simp only[HT.lexLe,HT.lexLt];by_cases h:a=c
 .subst h;rw[KI rfl,KI rfl];by_cases h2:b=d
  .subst h2;rw[KI rfl,KI rfl];rfl
  .rw[KH h2,KH (λe=>h2 e.symm)];rw[<-decide_not,KN];omega
 .rw[KH h,KH (λe=>h e.symm),<-decide_not,KN];omega
def oq(a b c d:Int):HT.cF [a,b] [c,d]=HT.lexLt [c,d] [a,b]:=by
 simp only[HT.cF,HT.lexLt];by_cases h:a=c
 .subst h;rw[KI rfl,KI rfl];by_cases h2:b=d
  .subst h2;simp
  .rw[KH h2,KH (λe=>h2 e.symm)]
 .rw[KH h,KH (λe=>h e.symm)]
def iz{a b c d:Int}:HT.lexLt [a,b] [c,d]=KD↔a<c\/(a=c/\b<d):=by
 simp only[HT.lexLt];by_cases h:a=c
 .subst h;rw[KI rfl];by_cases h2:b=d
  .subst h2;rw[KI rfl];simp
  .rw[KH h2];simp
 .rw[KH h];simp;omega
end Ma
open Ma renaming wll->Kv,ut->Kw,Bq->Ky,ah->Kz,pos_int->LA,cr->LB,sgn->LC,iz->LD,mE->LF,l4->LG,spt->LH,fr->LI,den_pos->LJ,jd->LK
namespace SD
open PySem PySem.Spec PyProof.Rows L2
theorem az{M:MH}{a p:PySem.Addr}{o:MO}(h:M a=KA o)(b:M p=KC):a≠p:=λe=>by subst e;rw[h]at b;cases b
def Q8(t b x y:Int):D:=.tup [.int t,.int b,.int x,.int y]
structure Lm(t b x y:Int):Prop where
 t0:0<t
 t1:t<=10^24
 b0:0<b
 b1:b<=10^26
 x0:-(10^30)<=x
 x1:x<=10^30
 y0:-(10^30)<=y
 y1:y<=10^30
def uw(w:Int×Int×Int×Int):D:=.tup [.tup [.int w.1,.int w.2.1],.tup [.int w.2.2.1,.int w.2.2.2]]
def LQ(t b x y:Int)(w:Int×Int×Int×Int):D:=Kv (Kw t b x 1 w.1) (Kw t b y 1 w.2.1) (Kw t b x 1 w.2.2.1) (Kw t b y 1 w.2.2.2)
def Y2(n:Int)(w:Int×Int×Int×Int):Prop:=(-n<=w.1/\w.1<=n)/\(-n<=w.2.1/\w.2.1<=n)/\(-n<=w.2.2.1/\w.2.2.1<=n)/\(-n<=w.2.2.2/\w.2.2.2<=n)
def range_getD(l:vu):(HM l.length).map (λi=>(l[i]?).getD .non)=l:=by refine List.ext_getElem (_) λi h1 h2=>?_;simp[h2]
def getD_map{b:Type}{f:b->D}{l:List b}{i:Nat}{a:b}(h:l[i]?=KA a):((l.map f)[i]?).getD .non=f a:=by rw[Hv,h];rfl
def Bx{t b x m p:Int}(g:0<t/\t<=10^24)(a:0<b/\b<=10^26)(hx:-(10^30)<=x/\x<=10^30)(c:0<m/\m<=10^6)(h:-(10^6)<=p/\p<=10^6):Ky 200 (Kw t b x m p):=by
 let d:Bd 80 t:=by show t.natAbs<2^80;omega
 let bm:Bd 64 m:=by show m.natAbs<2^64;omega
 let e:Bd 64 p:=by show p.natAbs<2^64;omega
 let f:Bd 90 b:=by show b.natAbs<2^90;omega
 let bx:Bd 100 x:=by show x.natAbs<2^100;omega
 refine Ma.Bq.divInt (by have:=IZ a.1 c.1;omega) ?_ ((f.mul bm).mono ⋯);exact(((e.mul d).mono (by decide:64+80<=164)).add (bx.mul bm)).mono ⋯
theorem Lm.bx{t b x y m p:Int}(S:Lm t b x y)(a:0<m/\m<=10^6)(c:-(10^6)<=p/\p<=10^6):Ky 200 (Kw t b x m p):=Bx #[S.t0,S.t1] #[S.b0,S.b1] #[S.x0,S.x1] a c
theorem Lm.by'{t b x y m p:Int}(S:Lm t b x y)(a:0<m/\m<=10^6)(c:-(10^6)<=p/\p<=10^6):Ky 200 (Kw t b y m p):=Bx #[S.t0,S.t1] #[S.b0,S.b1] #[S.y0,S.y1] a c
def oO(a b c d:Int):Iy (.tuple [.int a,.int b]) (.tuple [.int c,.int d])=decide (a=c/\b=d):=by simp only[Iy,IT,oX,Bool.and_true,J4]
open PySem PySem.Spec PyProof.Rows L2 Ma
instance(a b c d:Rat):Decidable (Kz a b c d):=inferInstanceAs (Decidable (_\/_))
def NX(a b c d:Int):Int:=a*d-b*c
def Dk{t b X m x:Int}(a:0<b)(c:0<m):Kw t b X m x=((t:Rat)/b)*((x:Rat)/m)+(X:Rat)/b:=by
 unfold Kw;rw[Rat.divInt_eq_div];let h1:(b:Rat)≠0:=by have:=LA a;grind
 let h2:(m:Rat)≠0:=by have:=LA c;grind
 rw[Rat.intCast_add,Rat.intCast_mul,Rat.intCast_mul,Rat.intCast_mul];grind
def iD{t b X x:Int}(a:0<b):Kw t b X 1 x=((t:Rat)/b)*(x:Rat)+(X:Rat)/b:=by rw[Dk a ⋯];have:((1:Int):Rat)=1:=rfl;rw[this];grind
def Dv(k x y p q r s e f:Rat):LB (k*p+x) (k*q+y) (k*r+x) (k*s+y) (k*e+x) (k*f+y)=k*k*((r-p)*(f-q)-(s-q)*(e-p)):=by unfold LB;grind
def EG{t b X Y p q r s e f:Int}(a:0<b):LB (Kw t b X 1 p) (Kw t b Y 1 q) (Kw t b X 1 r) (Kw t b Y 1 s) (Kw t b X 1 e) (Kw t b Y 1 f)=((t:Rat)/b)*((t:Rat)/b)*((NX (r-p) (s-q) (e-p) (f-q):Int):Rat):=by rw[iD a,iD a,iD a,iD a,iD a,iD a,Dv];unfold NX;rw[Rat.intCast_sub,Rat.intCast_mul,Rat.intCast_mul,Rat.intCast_sub,Rat.intCast_sub,Rat.intCast_sub,Rat.intCast_sub]
def sgn_mul{k:Rat}(a:0<k)(z:Int):LC (k*(z:Rat))=HW z:=by
 unfold LC;by_cases h1:0<z
 .rw[KI (Rat.mul_pos a (LA h1)),Jb h1]
 .by_cases h2:z<0
  .have b:0<k*((-z:Int):Rat):=Rat.mul_pos a (LA ());rw[Rat.intCast_neg]at b;rw[KH (by grind),KI (by grind),IS h2]
  .obtain rfl:z=0:=()
   have:((0:Int):Rat)=0:=rfl;rw[this];simp
def E3{t b X Y p q e f:Int}(a:0<t)(c:0<b):Kz (Kw t b X 1 p) (Kw t b Y 1 q) (Kw t b X 1 e) (Kw t b Y 1 f)↔(p<e\/(p=e/\q<f)):=by rw[Ma.Ey a c ⋯ ⋯,LD];omega
end SD
namespace HT
open PySem PyProof.Rows
end HT
namespace SD
open PySem PySem.Spec PyProof.Rows L2
section
variable{X:Cx}
def EC(g:Bool->Bool):Lx:=λx y M Q=>∃p ps,Pd M x p/\(Pd M y (.list ps)\/Pd M y (.tuple ps))/\JY p=KD/\Ji ps=KD/\Q (.bl (g (ps.any λq=>Iy q p))) M
theorem rm{p:Kj}{n:Nat}(h:JY p=KD):min n p.depth<=63+1:=Iv (Nat.min_le_right _ _) (SeqAt.depth_of_shaped h)
def mJ(r:X.A.units+66<IV):MF X (Ik .NotIn) (EC λb=>!b):=by
 intro KQ s σ H v u t w Q I m g h;obtain⟨x,y,M,R,o,i,a,⟨p,ps,q,c,e,j,k⟩,d⟩:=h;let[z,l]:=cI I a q o m;let B:=rm (n:=PyData.depthAll ps) e;rcases c with c|c
 .obtain⟨bs,f⟩:=cI I a c i g;exact SeqAt.notIn_list_reads f l j (SeqAt.canLay_of_shaped e) () #[.bl _,H,I,8,d _ _ _ _ .refl (by rw[Rep]) a k]
 .obtain⟨bs,f⟩:=cI I a c i g;exact SeqAt.notIn_tuple_reads f l j (SeqAt.canLay_of_shaped e) () #[.bl _,H,I,8,d _ _ _ _ .refl (by rw[Rep]) a k]
theorem qH{K:Hm}{H:Hp}:∀{bs:List Bool}{xs:vo},aE K H (bs.map D.bl) xs->xs=bs.map V.bl
 |[],xs,h=>by rw[JF,aE]at h;exact h
 |n::ns,xs,h=>by
  rw[HG,aE]at h
  let[x,r,8,h1,h2]:=h
  rw[Rep]at h1
  rw[h1,qH h2];rfl
theorem mK:∀{bs:List Bool}{us:List Hn},Vals (bs.map V.bl) us->us=bs.map JU
 |[],_,.nil=>rfl
 |b::bs,_,.cons r t=>by
  cases (show _=JU b from r)
  rw[mK t];rfl
def G3:RC:=λa M Q=>match a with
 |[.ref l]=>∃bs:List Bool,M l=KA (.lst (Jp D.bl bs))/\Q (.bl (bs.all id)) M
 |_=>False
def uV(g:X.calm=KD):bY X (.builtin "all") (λxs H Q=>∃(p:r4) (bs:List Bool),xs=[.ref p]/\L8 X.K H p (bs.map V.bl)/\Q (.bl (bs.all id)) H):=by
 intro KQ s σ H xs us Q I r h;let[l,bs,e,j,k]:=h;subst e;let[u,8,m]:=vals1 r;cases m;let[c,n,o,_]:=I.list j;let hv:=mK n;let d:=o.isList;let lt:l≠s.z:=HX (let⟨_,e,_⟩:=d;HE e);refine call_all_walk (x:=.ref l) (wpAny_pyIter_list d #[s.z,[s.z,l],[s.z],c.toArray.size,_,_,λi=>(bs[i]?).getD KD,8,Walks.list (A:=X.A.in1) (I.ok.hd g) _ l lt c.toArray,#[#[_,Hx _ rfl,8,rfl],d.push _],λi v q t B w y=>?_,λC D z=>?_])
 .have a:c[i]?=KA v:=‹w›
  rw[hv,Hv]at a;cases eb:bs[i]? with
  |none=>rw[eb]at a;cases a
  |some b=>
   rw[eb]at a
   cases a
   let f:t b q:=by simpa[eb]using y
   exact Jf f
 .rw[show((HM c.toArray.size).all λi=>(bs[i]?).getD KD)=bs.all id by rw[HD,hv,Ho];exact LSm.range_all bs];exact #[.bl (bs.all id),H,I.kept (LSm.kept_iter z),8,k]
theorem Ds(f:X.calm=KD):d9 X (.builtin "all") G3:=bZ (uV f) λvs H Q g=>by
 let[b,M,R,h,a,q,c]:=g;rcases b with _|⟨d,b⟩
 .exact HS q
 cases d<;>rcases b with _|⟨e,b⟩<;>try exact HS q
 .obtain⟨bs,e,q⟩:=q;let[v,8,r]:=bR h;rw[Rep]at r;subst r;let[xs,hx,i]:=a _ _ e;rw[qH i]at hx;exact #[_,bs,8,L8.of hx,c _ _ _ _ .refl (by rw[Rep]) a q]
def EL(to:TD)(t:Ld):TD:=λδ M Q=>to δ M λx a=>∃l c,x=.ref l/\a l=KA (.lst c)/\t δ a λe b=>∃xs d,e=[d]/\b l=KA (.lst xs)/\xs.length<1000000/\Q .non (au b l (.lst (xs++[d])))
variable{o e:sg}{to:TD}{t:Ld}{apos KW:Pos}
theorem bE(y:DE X o to)(z:DA X [e] t)
 (b:JO o "append" X.env (eval o X.env)=eval o X.env:=by rfl)
 (i:((IY KW (HC [e] X.env)).all (λx=>!x.1)&&(Ks KW (JK [] X.env)).all (λx=>x.1.isSome)
  && decide ([e].length+([]:List Keyword).length+(if([]:List Keyword).isEmpty then 0 else 1)<30))=KD:=by rfl)
 (c:(apos.endLine==KW.line)=KD:=by rfl) (A:HC [e] X.env=(KG,eval e X.env)::HC [] X.env:=by rfl) (a:(IY KW (HC [] X.env)).any (·.1)=KG:=by rfl) :
 DE X (.Call (.Attribute o "append" apos) [e] [] KW) (EL to t):=
 bf (Br PySem.F.plainAttrs_list PySem.F.slot_list_append PySem.F.type_list_append jU y z b i c A a) λσ H Q B=>by
  let[δ,M,R,j,C,q,m]:=B
  refine #[δ,M,_,j,C,q,λx D v H1 g1 p r f=>?_]
  let[l,O,ex,E,G]:=f
  subst ex
  rw[Rep]at p
  subst p
  let[vs,n,_]:=r _ _ E
  refine #[.inl #[8,vs,L8.of n],δ,D,_,j.mono g1,r,G,λP S us T I J s g=>?_]
  let[xs,d,K,hx,U,L]:=g
  subst K
  let[u,8,N]:=bR J
  let[ws,h,k]:=s _ _ hx
  let w:=k.length
  exists l,ws,u,8,8,h,HY () (show 1000000<=HK from LR rfl)
  exact m _ _ _ _ (g1.trans (I.trans (.lst h))) (by rw[Rep]) (s.u7 h (k.append (.cons N .nil))) L
end
def jK{k:Nat}{A:Ig}(r:LU k A):A.units+66<IV:=by have:=r.un;omega
abbrev Wl:=Int×Int×Int×Int
abbrev _root_.vp:=List Wl
def la(x y:Int):Int:=100*x+y
def l1(w:Wl):Int:=la w.1 w.2.1
def l2(w:Wl):Int:=la w.2.2.1 w.2.2.2
def sd(w:Wl)(x y:Int):Int:=NX (w.2.2.1-w.1) (w.2.2.2-w.2.1) (x-w.1) (y-w.2.1)
def MV(w v:Wl):Int:=sd w v.1 v.2.1
def MN(w v:Wl):Int:=sd w v.2.2.1 v.2.2.2
structure L5(w:Wl):Prop where
 a:0<=w.1/\w.1<=20
 b:0<=w.2.1/\w.2.1<=20
 c:0<=w.2.2.1/\w.2.2.1<=20
 d:0<=w.2.2.2/\w.2.2.2<=20
 lt:l1 w<l2 w
def bT(w:Wl)(l s:Int):Prop:=l=l1 w\/l=l2 w\/l<l1 w\/l2 w<l\/s≠0
structure Mq(U V:Wl):Prop where
 ne:¬(l1 U=l1 V/\l2 U=l2 V)
 e1:bT U (l1 V) (MV U V)
 e2:bT U (l2 V) (MN U V)
 e3:bT V (l1 U) (MV V U)
 e4:bT V (l2 U) (MN V U)
 pr:0<=HW (MV U V)*HW (MN U V)\/0<=HW (MV V U)*HW (MN V U)
theorem Mq.swap{U V:Wl}(h:Mq U V):Mq V U:=#[λz=>h.ne #[z.1.symm,z.2.symm],h.e3,h.e4,h.e1,h.e2,h.pr.symm]
def MQ(U V:Wl):Bool:=
 if max (l1 U) (l1 V)<min (l2 U) (l2 V)then
  if l1 U=l1 V then(if l2 U<l2 V then decide (0<MN V U)else decide (MN U V<0))
  else if l1 V<l1 U then decide (0<MV V U)else decide (MV U V<0)
 else KG
theorem ZO(z:Int):HW z=1↔0<z:=Int.sign_eq_one_iff_pos
def ZN(z:Int):-HW z=1↔z<0:=by
 rcases IX z 0 with h|h|h
 .rw[IS h];omega
 .subst h;simp
 .rw[Jb h];omega
def sC{x y u v:Int}(h1:0<=y/\y<=20)(h2:0<=v/\v<=20)(h:la x y=la u v):x=u/\y=v:=by unfold la at h;omega
def BS{U V:Wl}(a:L5 U)(b:L5 V)(h:l2 U=l2 V):MN U V=0:=by let[e1,e2]:=sC a.d b.d h;unfold MN sd NX;rw[e1,e2];grind
def xE{a b c d:Int}(e:0<=b/\b<=20)(hd:0<=d/\d<=20):HT.lexLt [a,b] [c,d]=decide (la a b<la c d):=by let h:=LD (a:=a) (b:=b) (c:=c) (d:=d);rw[JJ,h,decide_eq_true_eq];unfold la;omega
def BQ{a b c d:Int}(e:0<=b/\b<=20)(hd:0<=d/\d<=20):HT.lexLe [a,b] [c,d]=decide (la a b<=la c d):=by rw[Ma.uR,xE hd e,<-decide_not,KN];omega
def FE{a b c d:Int}(e:0<=b/\b<=20)(hd:0<=d/\d<=20):HT.cF [a,b] [c,d]=decide (la c d<la a b):=by rw[Ma.oq,xE hd e]
def yz{x y u v:Int}(h1:0<=y/\y<=20)(h2:0<=v/\v<=20):(x=u/\y=v)↔la x y=la u v:=by unfold la;omega
def oF{I:OI}{tk:OA}{js:sx}{tc:Lg}{te:TD}{δ:DS}{a:MH}{Q:DK}(f:Nat->v9)(g:I.n<=1000000)(hC:∀p ys,a p=KC->I.C (au a p (.lst ys))) (h:∀i d M,i<I.n->I.item i=KA d->Sub a M->∃os,xR tk d os/\(∀K:Bool->MH->Prop,K (f i).isSome M->tc (cδ os js δ) M K)/\∀e,f i=KA e->∀K:DK,(∀b,Sub M b->K e b)->te (cδ os js δ) M K) (j:∀p,a p=KC->Q (.ref p) (au a p (.lst ((HM I.n).filterMap f)))):xB I tk js tc te δ a Q:=by
 refine #[g,λp c=>#[λi ys M=>ys=(HM i).filterMap f/\M=au a p (.lst ys),#[8,rfl],?_,?_,?_]]
 .rintro i ys M _ ⟨_,rfl⟩;exact hC p ys c
 .rintro i ys d M k hd ⟨rfl,rfl⟩;let[os,l,m,o]:=h i d _ k hd (.new c .refl);refine #[os,l,m _ ?_];cases e:f i with
  |none=>
   refine gr rfl #[_,.refl,?_,?_]
   .rw[Kb,List.filterMap_append];simp[e]
   .rfl
  |some v=>
   refine iK rfl (o v e _ λb q=>#[_,q,ai,?_,by rw[cC]])
   rw[Kb,List.filterMap_append];simp[e]
 .rintro ys M ⟨rfl,rfl⟩;exact j p c
def wI{A:Wl}{x y:Int}(c:L5 A)(e:0<=y/\y<=20)(h:(!(decide (A.1=x/\A.2.1=y)||decide (A.2.2.1=x/\A.2.2.2=y))&&(decide (l1 A<=la x y)&&decide (la x y<=l2 A)&&decide (sd A x y=0)))=KG):bT A (la x y) (sd A x y):=by
 unfold bT;by_cases h1:A.1=x/\A.2.1=y
 .exact .inl ((yz c.b e).mp h1).symm
 .by_cases h2:A.2.2.1=x/\A.2.2.2=y
  .exact .inr (.inl ((yz c.d e).mp h2).symm)
  .rw[KJ h1,KJ h2,Bool.or_false,Bool.not_false,Bool.true_and,<-J4,<-J4,decide_eq_false_iff_not]at h;by_cases f:sd A x y=0
   .rcases Int.lt_or_le (la x y) (l1 A)with z|z
    .exact .inr (.inr (.inl z))
    .rcases Int.lt_or_le (l2 A) (la x y)with a|a
     .exact .inr (.inr (.inr (.inl a)))
     .exact absurd #[#[z,a],f] h
   .exact .inr (.inr (.inr (.inr f)))
def BJ(z:Int):Bd 64 (HW z):=by
 rcases IX z 0 with h|h|h
 .rw[IS h];decide
 .subst h;decide
 .rw[Jb h];decide
def PF(ws:vp):Prop:=∀(i j:Nat)(U V:Wl),i≠j->ws[i]?=KA U->ws[j]?=KA V->Mq U V
theorem D3:PF []:=λi j U V _ h=>by simp at h
def vA{ws:vp}{U:Wl}(h:PF ws)(d:∀(j:Nat)(w:Wl),ws[j]?=KA w->Mq U w):PF (ws++[U]):=by
 intro i j A B c f hB
 let get:∀{k:Nat}{C:Wl},(ws++[U])[k]?=KA C->ws[k]?=KA C\/(k=ws.length/\C=U):=λ{k C} e=>by
  rcases Nat.lt_trichotomy k ws.length with z|z|z
  .rw[Im z]at e;exact .inl e
  .subst z;rw[Ij (Hu _)]at e;simp at e;exact .inr #[8,e.symm]
  .rw[List.getElem?_eq_none (by simp;omega)]at e;cases e
 rcases get f with a|⟨a,rfl⟩<;>rcases get hB with b|⟨b,rfl⟩
 .exact h i j A B c a b
 .exact(d _ _ a).swap
 .exact d _ _ b
 .omega
def vT{p q e f:Int}(c:0<=p/\p<=20)(a:0<=q/\q<=20)(d:0<=e/\e<=20)(b:0<=f/\f<=20)(ne:¬(p=e/\q=f)) :
 ∃w:Wl,(if HT.lexLt [e,f] [p,q]=KD then[e,f]else[p,q])=[w.1,w.2.1]/\(if HT.cF [e,f] [p,q]=KD then[e,f]else[p,q])=[w.2.2.1,w.2.2.2]/\L5 w:=by
 rw[xE b a,FE b a]
 let i:la p q≠la e f:=λz=>ne ((yz a b).mpr z)
 by_cases h:la e f<la p q
 .exact #[(e,f,p,q),by rw[KI (KL h)],by rw[KH (by simp;omega)],#[d,b,c,a,h]]
 .have g:la p q<la e f:=()
  exact #[(p,q,e,f),by rw[KH ‹h›],by rw[KI (KL g)],#[c,a,d,b,g]]
def pb{t b X Y p q e f:Int}(a:0<t)(c:0<b)(d:0<=q/\q<=20)(g:0<=f/\f<=20):Kz (Kw t b X 1 p) (Kw t b Y 1 q) (Kw t b X 1 e) (Kw t b Y 1 f)↔la p q<la e f:=by rw[E3 a c];unfold la;omega
def jI{t b X Y p q e f:Int}(a:0<t)(c:0<b)(d:0<=q/\q<=20)(g:0<=f/\f<=20):(Kw t b X 1 p=Kw t b X 1 e/\Kw t b Y 1 q=Kw t b Y 1 f)↔la p q=la e f:=by rw[LF a c ⋯ ⋯,LF a c ⋯ ⋯];unfold la;omega
def kR{t b X Y:Int}(c:0<t)(a:0<b)(w:Wl)(x y:Int):LC (LB (Kw t b X 1 w.1) (Kw t b Y 1 w.2.1) (Kw t b X 1 w.2.2.1) (Kw t b Y 1 w.2.2.2) (Kw t b X 1 x) (Kw t b Y 1 y))=HW (sd w x y):=by
 let k:(0:Rat)<(t:Rat)/b:=by rw[Rat.div_def];exact Rat.mul_pos (LA c) (Rat.inv_pos.mpr (LA a))
 rw[EG a,sgn_mul (Rat.mul_pos k k)];rfl
def Gu(z:Int):HW z=-1↔z<0:=by rw[<-ZN];omega
def sV{K:Hm}{r i:Lx}{j l tc:TD}{σ:L2.St}{H:Hp}{Q:VK}(h:lift K (uC r i j l tc) σ H Q):wM (kP K r) (kP K i) (lift K j) (lift K l) (lift K tc) σ H Q:=by
 let[δ,M,R,g,s,q,b]:=h;refine #[δ,M,_,g,s,q,λx t v H1 g1 A B C=>#[δ,t,_,g.mono g1,B,C,λy D u P c m E F=>#[x,y,D,_,A.mono c,m,E,F,λz G w S d n o a=>?_]]];let[k,e,f]:=a;subst e;rw[Rep]at n;exists k,n;cases k with
 |true=>
  rw[KI rfl]at f ⊢
  exact #[δ,G,_,g.mono ((g1.trans c).trans d),o,f,λI J T U p L N O=>#[y,I,J,R,m.mono (d.trans p),L,N,O,b.go (((g1.trans c).trans d).trans p)]]
 |false=>
  rw[KH HF]at f ⊢
  exact b _ _ _ _ ((g1.trans c).trans d) (by rw[Rep]) o f
theorem mP{X:Cx}{a b c:sg}{f g tc:TD}{pos:Pos}{op d:CmpOp}{r i:Lx}(j:MF X (Ik op) r)(e:MF X (Ik d) i)(k:DE X a f)(l:DE X b g)(m:DE X c tc) (n:lastMarks [op,d] [b,c]=KG:=by with_unfolding_all rfl):DT X (.Compare a [op,d] [b,c] pos) (tBD (uC r i f g tc)):=iT (yH j e k l m n) λ_ _ _ h=>j0 (λ_ _ _ h=>sV h) h
section
variable{X:Cx}
def ic{a:Type}(xs:List a)(j:Nat)(y:a):List a:=xs.take j++y::xs.drop j
def zA:V->vo->Hp->VK->Prop:=λx vs H Q=>∃l xs y,∃(k:Int) (j:Nat),x=.ref l/\vs=[.int k,y]/\k=(j:Int)/\H l=KA (.lst xs)/\j<=xs.length/\xs.length<1000000/\Q .non (upd H l (.lst (ic xs j y)))
def zQ(its:List Hn)(k:Int)(j:Nat)(u:Hn)(a:k=(j:Int))(b:j<=its.length) :
 (its.toArray.extract 0 (if k<0 then(k+((its.toArray.size:Nat):Int)).toNat else min k.toNat its.toArray.size)).push u++its.toArray.extract (if k<0 then(k+((its.toArray.size:Nat):Int)).toNat else min k.toNat its.toArray.size)=(ic its j u).toArray:=by
 let e:(if k<0 then(k+((its.toArray.size:Nat):Int)).toNat else min k.toNat its.toArray.size)=j:=by
  rw[KH (),HD];omega
 rw[e]
 apply Array.toList_inj.mp
 simp[ic]
 exact Jo (_)
def vJ:Y3 X "list.insert" zA:=by
 intro KQ s σ H x vs v us Q I g h i;let[l,xs,y,k,j,ex,m,o,f,A,B,q]:=i;subst ex m;cases g;let[C,c,8,p,u]:=h.two;let[t,8]:=p;let[z,a,n,r,w,e]:=I.pS f;let b:Builtin.List.listFitsIndex k=KD:=by unfold Builtin.List.listFitsIndex;simp;omega
 let d:a.toArray.size<=HK:=by rw[HD,<-w];exact z
 refine call_meets PySem.F.slot_list_insert #[_,e,rfl] PySem.F.entry_list_insert (PySem.F.args_list_insert_3 _ _ _) (PySem.AutoSeq1.list_insert_list_int_val_1 l a.toArray n k t c (by rw[b];decide) d) #[e,?_];refine #[.non,_,I.Gi (its':=ic a j c) f e (zQ a k j c o ()) ((Vals.take j r).append (.cons u (Vals.drop j r))) ?_,8,q];show(xs.take j++y::xs.drop j).length<=HK;simp only[Io,Iu,Ih,Jd];have:1000000<=HK:=LR rfl;omega
def Fv(to:TD)(t:Ld):TD:=λδ M Q=>to δ M λx a=>∃l c,x=.ref l/\a l=KA (.lst c)/\t δ a λe b=>∃xs d,∃j:Nat,e=[.int (j:Int),d]/\b l=KA (.lst xs)/\j<=xs.length/\xs.length<1000000/\Q .non (au b l (.lst (ic xs j d)))
variable{o e1 e2:sg}{to:TD}{t:Ld}{apos KW:Pos}
theorem k9(z:DE X o to)(A:DA X [e1,e2] t)
 (b:JO o "insert" X.env (eval o X.env)=eval o X.env:=by rfl)
 (i:((IY KW (HC [e1,e2] X.env)).all (λx=>!x.1)&&(Ks KW (JK [] X.env)).all (λx=>x.1.isSome)
  && decide ([e1,e2].length+([]:List Keyword).length+(if([]:List Keyword).isEmpty then 0 else 1)<30))=KD:=by rfl)
 (c:(apos.endLine==KW.line)=KD:=by rfl) (B:HC [e1,e2] X.env=(KG,eval e1 X.env)::HC [e2] X.env:=by rfl) (a:(IY KW (HC [e2] X.env)).any (·.1)=KG:=by rfl) :
 DE X (.Call (.Attribute o "insert" apos) [e1,e2] [] KW) (Fv to t):=
 bf (Br PySem.F.plainAttrs_list PySem.F.slot_list_insert PySem.F.type_list_insert vJ z A b i c B a) λσ H Q C=>by
  let[δ,M,R,k,D,q,n]:=C
  refine #[δ,M,_,k,D,q,λx E v H1 g1 s u e=>?_]
  let[l,P,ex,G,I]:=e
  subst ex
  rw[Rep]at s
  subst s
  let[vs,p,_]:=u _ _ G
  refine #[.inl #[8,vs,L8.of p],δ,E,_,k.mono g1,u,I,λS T us U J K w f=>?_]
  let[xs,d,j,L,hx,V,W,N]:=f
  subst L
  let[Y,O,8,m,r]:=gc K
  rw[Rep]at m
  subst m
  let[ws,g,h]:=w _ _ hx
  let y:=h.length
  exact #[l,ws,O,_,j,8,8,8,g,(),(),n _ _ _ _ (g1.trans (J.trans (.lst g))) (by rw[Rep]) (w.u7 g ((h.take j).append (.cons r (h.drop j)))) N]
def x9:RC:=λa M Q=>match a with
 |[.ref l]=>∃xs,M l=KA (.lst xs)/\∀p,M p=KC->Q (.ref p) (au M p (.lst xs))
 |[.tup xs]=>∀p,M p=KC->Q (.ref p) (au M p (.lst xs))
 |_=>False
theorem AA:d9 X (.type "list") x9:=bZ oN λvs H Q g=>by
 let[h,M,R,f,a,q,c]:=g;unfold x9 at q;split at q
 .obtain⟨i,e,q⟩:=q;let[v,8,r]:=bR f;rw[Rep]at r;subst r;let[xs,hx,d]:=a _ _ e;exact #[_,xs,8,.inl (L8.of hx),λz b=>c _ _ _ _ (.new b) (by rw[Rep]) (a.lK b d) (q z (a.fresh b))]
 .obtain⟨v,rfl,r⟩:=bR f;rw[Rep]at r;let[p,xs,8,hx,d]:=r;exact #[_,xs,8,.inr hx,λz b=>c _ _ _ _ (.new b) (by rw[Rep]) (a.lK b d) (q z (a.fresh b))]
 .exact q.elim
end
def pW{a b:Type}(f:a->b)(xs:List a)(j:Nat)(y:a):ic (xs.map f) j (f y)=(ic xs j y).map f:=by unfold ic;simp[List.map_take,List.map_drop]
def kQ{a:Type}(xs:List a)(j:Nat)(y:a):(ic xs j y).Perm (y::xs):=by
 unfold ic;let h:(xs.take j++y::xs.drop j).Perm (y::(xs.take j++xs.drop j)):=List.perm_middle
 rwa [List.take_append_drop]at h
def qt{b c:Type}(g:b->Option c):∀l:List b,(HM l.length).filterMap (λi=>(l[i]?).bind g)=l.filterMap g:=by
 intro l
 induction l with
 |nil=>rfl
 |cons a l d=>
  rw[Ih,List.range_succ_eq_map,JG,JG,List.filterMap_map]
  let e:((λi=>((a::l)[i]?).bind g)∘Nat.succ)=λi=>(l[i]?).bind g:=by funext i;simp
  rw[e,d]
  simp
theorem iE{b:Type}(p:b->Bool)(f:b->D):∀l:List b,l.filterMap (λk=>if p k=KD then KA (f k)else KC)=(l.filter p).map f
 |[]=>rfl
 |a::l=>by
  rw[JG,List.filter_cons]
  cases h:p a
  .simp[iE p f l]
  .simp[iE p f l]
def MA(ws:vp)(k:Int):Wl:=(ws[k.toNat]?).getD (0,0,0,0)
def eG{ws:vp}{k:Int}(h0:0<=k)(h1:k<ws.length):ws[k.toNat]?=KA (MA ws k)/\atI (ws.map uw) k=KA (uw (MA ws k))/\MA ws k∈ws:=by
 obtain⟨j,rfl⟩:∃j:Nat,k=(j:Int):=#[k.toNat,()];let a:j<ws.length:=()
 let e:MA ws (j:Int)=ws[j]:=by unfold MA;simp[a]
 refine #[by rw[e];simp[a],?_,by rw[e];exact Iq a];rw[e];exact aW (by simp[a])
def Qa(q:Rat):Kj:=.tuple [.int q.num,.int (q.den:Int)]
def QE(t b x y:Int)(w:Wl):Kj:=.tuple [.tuple [Qa (Kw t b x 1 w.1),Qa (Kw t b y 1 w.2.1)],.tuple [Qa (Kw t b x 1 w.2.2.1),Qa (Kw t b y 1 w.2.2.2)]]
def zu(t b x y:Int)(w:Wl):Iy (QE t b x y w) (QE t b x y w)=KD:=by simp[QE,Qa,Iy,IT]
section
variable{X:Cx}{KQ:sm}{σ:L2.St}{H:Hp}{s:Hq}
def mT{h':r_}{t':Nat}{e it:r4}(I:Inv X KQ σ H s)(k:∀b o,b≠e->b≠it->s.heap.get? b=KA o->h'.get? b=KA o)(g:cJ X KQ H e)(h:cJ X KQ H it):Inv X KQ σ H { s with heap:=h',toks:=t' }:=by
 let[i,e1,_,e3,e4,j]:=g;let[l,f,_,p,t,w]:=h;let ne:∀b u,H b=KA u->b≠e/\b≠it:=λb u q=>#[λz=>(by rw[z,i]at q;cases q),λz=>(by rw[z,l]at q;cases q)];let d:∀{b:r4},b∉[e,it]->b≠e/\b≠it:=λ{b} a=>#[λz=>a (by simp[z]),λz=>a (by simp[z])];refine I.step (g':=s.gens) (d':=s.drawn) (ch:=[e,it]) (λb x=>?_) (λb o _ _ a q _=>k b o (d a).1 (d a).2 q) (λb o _ _ a q _=>#[o.slots,k b o (d a).1 (d a).2 q]) (λ_ _ _ _ n=>n) (λb o a q=>#[o,k b o (d a).1 (d a).2 q]) (λ_ _ q=>q) (λ_ _ _ q=>q) (λb ps q=>#[#[],by rw[q];simp]) (λm A=>?_) (λb u q=>?_) I.bare
 .rcases(show b=e\/b=it by simpa using x)with rfl|rfl
  .exact #[e3,e1,e4,j]
  .exact #[p,f,t,w]
 .obtain⟨o,B,C,D,r⟩:=A;exact #[o,B,C,k _ o (Ne.symm e1) (Ne.symm f) D,r]
 .refine(I.hok b u q).fW (λc v a z=>?_) (λ_ z=>z) λ_ _ z=>z;rcases a with y|y
  .subst y;exact k _ v (ne _ u q).1 (ne _ u q).2 z
  .exact k c v (ne c _ y).1 (ne c _ y).2 z
end
theorem qX(c:Nat){prog:HL}{w:Il}{A:Ig}{it:r4}{fp:t_}{n:Nat}{P:Nat->Hn->Prop}{St:Nat->r_->Prop}(D:Draws prog w A it fp n P St):Draws prog w A it fp (n+c) (λj x=>∃i,j=i+c/\P i x) (λj h=>∃i,j=i+c/\St i h) where
 live:=λj h a=>by
  let[i,_,st]:=a
  exact D.live i h st
 frame:=λj h b a k=>by
  let[i,e,st]:=a
  exact #[i,e,D.frame i h b st k]
 item:=λj s Q E m a f=>by
  let[i,e,st]:=a
  exact D.item i s Q E () st λx b g p d l=>f x b g #[i,e,p] #[i+1,(),d] l
 done:=λs Q E a hE=>by
  let[i,e,st]:=a
  obtain rfl:i=n:=()
  exact D.done s Q E st hE
theorem rB{prog:HL}{w:Il}{A:Ig}(b:A.handled=KC)(it l:r4)(c:l≠it)(items:Array Hn){i:Nat}(hx:items[i]?=KC):Draws prog w A it [it,l] i (λ_ _=>False) (λj h=>j=i/\h.IsListIter it l i/\h.IsList l items) where
 live:=λ_ _ st=>by
  let[o,d,_]:=st.2.1
  exact #[o,d]
 frame:=λ_ _ _ st a=>#[st.1,st.2.1.at λo e=>a it (_) o e,st.2.2.at λo e=>a l (_) o e]
 item:=λj s Q E f st _=>absurd st.1 ()
 done:=λs Q E st hE=>wpAny_nextOf_list_end b st.2.1 st.2.2 hx hE
def W8(K:Hm)(c:Nat)(a:r4):It:=
 #[λi H=>∃xs x,L8 K H a xs/\xs[i]?=KA x,λi H x b=>∃T y,x=.ref T/\H T=KC/\b=upd H T (.tup [.int ((i+c:Nat):Int),y])/\∀xs,L8 K H a xs->xs[i]?=KA y,λi H=>∃xs,L8 K H a xs/\xs.length<=i]
def nZ(c:Nat){P:HL}{w:Il}{K:Hm}{F:tr}{kt}{pt:Pos}(a e it:r4)(r:e≠it):Turn P w K (.Tuple F kt pt) (W8 K c a) [e,it] e (λi h=>(∃g,IsEnum h e it ((i+c:Nat):Int) g)/\h.IsListIter it a i) where
 mem:=by simp
 obj:=λi h st b G=>by
  rcases(show b=e\/b=it by simpa using G)with rfl|rfl
  .obtain⟨⟨g,q⟩,_⟩:=st
   exact #[_,q,λv z=>by
    let z':Data.fields _=Data.cell v:=z
    cases z']
  .obtain⟨o,q,_,d⟩:=st.2
   exact #[o,q,λv z=>by rw[d]at z;cases z]
 keep:=λi h h' st k=>by
  obtain⟨⟨g,q⟩,st⟩:=st
  exact #[#[g,k e (_) _ q],st.at λo z=>k it (_) o z]
 item:=by
  intro X O Q R S i KQ s σ H E I M st T
  subst O Q R
  let[xs,x,N,hx]:=T
  let[m,U,p,hz]:=I.list N
  let[u,hu,ru]:=U.get hx
  obtain⟨⟨g,t⟩,j⟩:=st
  let le:e<s.z:=HE t
  let li:it<s.z:=by let[o,q,_]:=j;exact HE q
  let y:a≠it:=λz=>by
   subst z
   let[o1,V,W,_]:=j
   let[o2,y1,B,_]:=p.isList
   rw[V]at y1;cases y1
   rw[W]at B;exact absurd (Kg.inj B) ⋯
  let Y:e≠a:=λz=>by
   subst z
   let[o2,y1,B,_]:=p.isList
   rw[show s.heap.get? e=_ from t]at y1;cases y1
   exact absurd (Kg.inj B) ⋯
  let C:X.A.in1.handled=KC:=I.ok.hd S
  let a0:i<m.length:=(Hw.mp hu).1
  refine wpAny_pyNext_enum_itemD (i:=i+c) (qX c (Draws.list C it a y m.toArray)) t #[i,8,j,p.isList] (by simp;omega) r (by simp[r,Y]) λx0 h1 D l ho J hT b0 hk=>?_
  let[i0,c0,l]:=l
  obtain rfl:i=i0:=()
  let[i1,d0,L]:=J
  obtain rfl:i1=i+1:=()
  obtain rfl:u=x0:=by
   let l:m[i]?=KA x0:=‹l›
   rw[hu]at l;cases l;rfl
  refine #[7,wpAny_letOwnedTupleGo_enum (s:={ s with heap:=h1,toks:=D+1 }) ho λh2 Z n=>?_]
  let n:JD e h1 h2:=n
  let fr:=I.fresh
  let I1:Inv X KQ σ (upd H s.z (.tup [.int ((i+c:Nat):Int),x])) { s with heap:=s.heap.push { cls:=.type "tuple",data:=.seq (List.toArray [.int ((i+c:Nat):Int) D,u]) },toks:=s.toks }:=
   I.laid (λb v q=>Hr _ q) (Hu _) #[LR rfl,[.int ((i+c:Nat):Int) D,u],.cons #[_,rfl] (.cons ru .nil),#[_,Hx _ rfl,8,7],#[_,Hx _ rfl,rfl]]
  let fk:∀{b:r4},b<s.z->cJ X KQ H b->cJ X KQ (upd H s.z (.tup [.int ((i+c:Nat):Int),x])) b:=λ{b} lt f=>#[by rw[aG (HX lt)];exact f.1,f.2]
  let fe:=fk le (M e (_))
  let fi:=fk li (M it (_))
  let I2:Inv X KQ σ (upd H s.z (.tup [.int ((i+c:Nat):Int),x])) { s with heap:=h2,toks:=D+1 }:=by
   refine mT (s:={ s with heap:=s.heap.push { cls:=.type "tuple",data:=.seq (List.toArray [.int ((i+c:Nat):Int) D,u]) },toks:=s.toks }) I1 (λb o ne ni q=>?_) fe fi
   let q:(s.heap.push { cls:=.type "tuple",data:=.seq (List.toArray [.int ((i+c:Nat):Int) D,u]) }).get? b=KA o:=q
   refine(n.2 b ne).trans ?_
   rcases Heap.get?_push_cases q with⟨rfl,rfl⟩|q
   .exact hT
   .exact hk b o ne ni q
  refine #[.ref s.z,_,I2,8,#[_,x,8,fr,8,λys hy=>by rw[I.jQ hy N];exact hx],#[#[u,?_],L.1.at λo z=>(n.2 it r.symm).trans z],λb G=>?_]
  .rw[show((i+1+c:Nat):Int)=((i+c:Nat):Int)+1 by omega];exact Z
  .rcases(show b=e\/b=it by simpa using G)with rfl|rfl
   .exact fe.1
   .exact fi.1
 done:=by
  intro X O Q R S i KQ s σ H E I M st T
  subst O Q R
  let[xs,N,hx]:=T
  let[m,U,p,hz]:=I.list N
  obtain⟨⟨g,t⟩,j⟩:=st
  let[f0,f1,f2,f3,f4,f5]:=M it (_)
  let hl:=U.length
  let y:a≠it:=λz=>by
   subst z
   let[o1,V,W,_]:=j
   let[o2,y1,B,_]:=p.isList
   rw[V]at y1;cases y1
   rw[W]at B;exact absurd (Kg.inj B) ⋯
  let C:X.A.in1.handled=KC:=I.ok.hd S
  exact wpAny_pyNext_enum_endD (rB C it a y m.toArray (i:=i) (by simp;omega)) t #[8,j,p.isList] λh' eb=>#[8,I.turned (t':=s.toks) (λb o G q=>eb b o G q) f0 f1 f3 f4 f5]
 self:=λ_ _ _ _ _ st h=>let⟨⟨_,t⟩,_⟩:=st;wpAny_pyIter_enum t h
def gG:IG "enumerate"=KA (.type "enumerate"):=by decide +kernel
section
variable{X:Cx}{elts:tr}{kt:Nat}{pt:Pos}
def EJ(K:Hm)(b:TA):TI:=λσ H R=>b σ H λvs H1=>∃a xs,vs=[.ref a]/\H1 a=KA (.lst xs)/\R (W8 K 0 a) H1
def zS{a:sg}{j:TA}{p pos:Pos}(m:Gl X "enumerate")(o:X.mg "enumerate"=KC)(t:PA X [a] j)(v:HC [a] X.env=[(KG,eval a X.env)]:=by rfl):PI X (.Tuple elts kt pt) (.Call (.Name "enumerate" p) [a] [] pos) (EJ X.K j):=by
 intro KQ s σ H R I h;refine Call_ (fL I m o gG (Jg (LS (t pos KQ s σ H _ I h) λus c d=>?_) v rfl));let[vs,H1,g,w,x]:=d;let[l,xs,y,A,q]:=x;subst y;let[u,8,B]:=w.one;cases B;let[z,C,n,r,G,e]:=g.pS A;refine call_enumerate_1 e λJ k i D E=>wpAny_pyIter_enum k ?_
 let fp:∀b∈[c.z+1,c.z],cJ X KQ H1 b:=λb F=>by
  let f:c.z<=b:=by
   rcases(show b=c.z+1\/b=c.z by simpa using F)with rfl|rfl
   .exact Kq _
   .exact Hu _
  exact g.pD f (g.hok.fresh f)
 exact #[_,[c.z+1,c.z],_,_,H1,8,g.kept (t':=c.toks) E,nZ 0 l _ _ (Nat.succ_ne_self _),#[#[_,k],i],fp,q]
def uf(c:Nat){K:Hm}{H1:Hp}{l:r4}{es:vu}:WT K H1 #[es.length,λi=>(es[i]?).map λd=>.tup [.int ((i+c:Nat):Int),d],λM=>M l=KA (.lst es)] (W8 K c l):=by
 refine #[λo f p b g=>?_,λi o f e p b g=>?_,?_]
 .obtain⟨a,h,j⟩:=b _ _ (show f l=KA (.lst es)from g);exact #[a,L8.of h,by rw[<-j.length];exact Hu _]
 .obtain⟨a,h,j⟩:=b _ _ (show f l=KA (.lst es)from g);let k:i<a.length:=by rw[<-j.length];exact e
  exact #[a,a[i],L8.of h,by simp[k]]
 .rintro i o f v q e p b g ⟨T,y,rfl,m,rfl,h⟩;let e:i<es.length:=e;let[a,n,j]:=b _ _ (show f l=KA (.lst es)from g);let[x,e1,e2]:=j.get (show es[i]?=KA es[i] by simp[e]);have:=h a (L8.of n);rw[e1]at this;cases this;exact #[.new m,b.new m,.tup [.int ((i+c:Nat):Int),es[i]],by simp[e],by rw[Rep];exact #[T,7,L7.of aH,.cons (by rw[Rep]) (.cons (e2.mono (.new m)) .nil)]]
def E6(c:Ld):MP:=λδ M R=>c δ M λe b=>∃l a,e=[.ref l]/\b l=KA (.lst a)/\R #[a.length,λi=>(a[i]?).map λd=>.tup [.int (i:Int),d],λM=>M l=KA (.lst a)] b
theorem Ak{a:sg}{d:Ld}{p pos:Pos}(g:Gl X "enumerate")(h:X.mg "enumerate"=KC)(i:DA X [a] d)(b:HC [a] X.env=[(KG,eval a X.env)]:=by rfl):DI X (.Tuple elts kt pt) (.Call (.Name "enumerate" p) [a] [] pos) (E6 d):=
 km (zS g h i b) λσ H R j=>by
  let[δ,M,u,b,k,q,c]:=j
  exact #[δ,M,_,b,k,q,λw m vs H1 g1 n f o=>by
   let[l,x,e,s,t]:=o
   subst e
   let[v,8,r]:=bR n
   rw[Rep]at r;subst r
   let[xs,hx,y]:=f _ _ s
   exact #[l,xs,8,hx,c _ m H1 _ g1 f t (uf 0)]]
end
end SD
namespace HT
open PySem PyProof.Rows
section
open PySem.SeqAt
open PySem.AutoSeq1 (wpAny_loadPart')
open PySem.MeetsSeq PySem.MeetsSeq2 PySem.MeetsSeq3
theorem ny(l:r4)(items:Array Hn)(n:Nat)(r:Option r4)(t:Array (Option Hn))(x:Hn)(j:Nat)(z:j<items.size) :
 Meets (Kd.«tuple.index» #[[.ref l,x],[]]) λA R s=>s.heap.get? l=KA { cls:=.type "tuple",dict:=r,data:=.seq items n,slots:=t }/\(∀(i:Nat)(B:i<items.size),i<=j->EqAt A.in1 s items[i] x (decide (i=j)))/\R (.ok (.ret (.int (j:Int) s.toks))) { s with toks:=s.toks+1 }:=
 .of_wp λprog w A R s h=>by
  let[u,g,d,v,os]:=s;let[y,k,h]:=h
  unfold Kd.«tuple.index»
  simp only[Std.Legacy.Range.forIn_eq_forIn_range']
  wp_walk using J3 y,wpAny_forIn_list _ (λc b o=>b=(KC,.unit)/\o=#[u,g,d,v,os]/\∃m,m<=j/\c=List.range' m (items.size-m) 1) _
  case turn=>
   rintro a c b o ⟨rfl,rfl,m,q,e⟩
   let p:items.size-m=(items.size-m-1)+1:=()
   rw[p,List.range'_succ]at e
   injection e with h1 h2
   subst h1 h2
   let f:a<items.size:=()
   rw[Array.getElem?_eq_getElem f]
   refine Hl (k a f q prog w _ _ ?_)
   by_cases e1:a=j
   .subst e1
    rw[KL rfl]
    wp_walk
    exact #[7,h]
   .rw[KJ e1]
    wp_walk
    exact #[8,8,a+1,(),by rw[show items.size-a-1=items.size-(a+1) by omega]]
  case fin=>
   rintro b o ⟨rfl,rfl,m,q,e⟩
   let p:items.size-m=(items.size-m-1)+1:=()
   rw[p,List.range'_succ]at e
   cases e
  exact #[8,8,0,(),by simp[Std.Legacy.Range.size]]
end
end HT
namespace SD
open PySem PySem.Spec PyProof.Rows L2
section
variable{X:Cx}
def EI(to:TD)(t:Ld):TD:=λδ M Q=>to δ M λx c=>∃a,x=.tup a/\t δ c λe b=>∃d p,∃j:Nat,e=[d]/\j<a.length/\Pd b d p/\JY p=KD/\
 (∀(i:Nat)(y:D),i<=j->a[i]?=KA y->∃q,Pd b y q/\PyData.canLay0 q=KD/\Iy q p=decide (i=j))/\Q (.int (j:Int)) b
def Fp(K:Hm):V->vo->Hp->VK->Prop:=λx vs H Q=>∃a b M v d p,∃j:Nat,x=.ref a/\vs=[v]/\LV K H M/\Rep K H (.tup b) x/\Rep K H d v/\j<b.length/\Pd M d p/\JY p=KD/\
 (∀(i:Nat)(y:D),i<=j->b[i]?=KA y->∃q,Pd M y q/\PyData.canLay0 q=KD/\Iy q p=decide (i=j))/\Q (.int (j:Int)) H
def Dw(Y:X.A.units+66<IV):Y3 X "tuple.index" (Fp X.K):=by
 intro KQ s σ H x vs v us Q I y z B;let[a,l,M,Z,d,p,j,ex,C,u,hx,hd,D,E,f,g,q]:=B;subst ex C;cases y;let[G,8,J]:=z.one;rw[Rep]at hx;let[a',xs,ea,L,w]:=hx;cases ea;obtain⟨c,h,⟨o,h1,h2,n,N⟩,hz⟩:=I.tuple L;let[as,O]:=cI I u E hd J;let b:c.length=l.length:=by rw[<-h.length,w.length]
 let[oc,od,P,osl]:=o;cases h2;cases N;refine call_meets PySem.F.slot_tuple_index #[_,h1,rfl] PySem.F.entry_tuple_index (PySem.F.args_tuple_index_2 _ _) (HT.ny a c.toArray n od osl G j (by simpa[b]using D)) #[h1,λi R m=>?_,?_]
 .have k:i<l.length:=by simpa[b]using R
  let[S,g1,T,U]:=g i l[i] m (Ht k);let[x1,e1,r]:=w.get (Ht k);let[V,e2,t]:=h.get e1;let[bs,W]:=cI I u g1 r t
  let e3:c.toArray[i]=V:=by
   have:=Hw.mp e2
   let[_,e]:=this
   simpa using e
  rw[e3,<-U];let hm:min S.depth p.depth<=63+1:=Iv (Nat.min_le_right _ _) (SeqAt.depth_of_shaped f);exact PySem.SeqAt.eqAt_reads _ _ _ _ _ _ _ _ W O T (SeqAt.canLay_of_shaped f) (by show X.A.units+1+_<IV;omega)
 .exact #[.int _,H,I.tok _,#[_,rfl],q]
def CU{o e1:sg}{to:TE}{t:TA}{c d:Pos}(r:X.A.units+66<IV)(u:PE X o to)(w:PA X [e1] t)
 (f:JO o "index" X.env (eval o X.env)=eval o X.env)
 (k:((IY d (HC [e1] X.env)).all (λx=>!x.1)&&(Ks d (JK [] X.env)).all (λx=>x.1.isSome)
  && decide ([e1].length+([]:List Keyword).length+(if([]:List Keyword).isEmpty then 0 else 1)<30))=KD)
 (g:(c.endLine==d.line)=KD) (y:HC [e1] X.env=(KG,eval e1 X.env)::HC [] X.env) (b:(IY d (HC [] X.env)).any (·.1)=KG) :
 PE X (.Call (.Attribute o "index" c) [e1] [] d) (λσ H Q=>to σ H λx H1=>(∃p xs,x=.ref p/\L7 X.K H1 p xs)/\t σ H1 λvs l=>Fp X.K x vs l Q):=by
 intro KQ s σ H Q I h
 refine wpAny_Call_method_late f k g rfl (LS (u KQ s σ H _ I h) λv z i=>?_)
 obtain⟨x,H1,m,B,⟨p,xs,ex,n⟩,C⟩:=i
 subst ex
 cases B
 obtain⟨D,_,⟨E,g1,G,_⟩,_⟩:=m.tuple n
 let[J,L,M]:=m.DX n
 refine #["tuple","tuple.index",PySem.F.plainAttrs_tuple,PySem.F.slot_tuple_index,PySem.F.type_tuple_index,#[E,g1,G],λa e=>by cases e;exact #[J,L,M],?_]
 let q:=w d KQ z σ H1 _ m C
 rw[y]at q ⊢
 refine Calls.callWith_builtin (by show(KG||(IY d (HC [] X.env)).any (·.1))=KG;rw[b]<;>rfl) (Calls.evalArgs_plain ?_)
 exact LS q λus N j=>by let[vs,l,O,P,R]:=j;exact(Dw r KQ N σ l (.ref p) vs (.ref p) us Q O rfl P R)
variable{o e1:sg}{to:TD}{t:Ld}{apos KW:Pos}
theorem sG(y:X.A.units+66<IV)(z:DE X o to)(B:DA X [e1] t)
 (c:JO o "index" X.env (eval o X.env)=eval o X.env:=by rfl)
 (h:((IY KW (HC [e1] X.env)).all (λx=>!x.1)&&(Ks KW (JK [] X.env)).all (λx=>x.1.isSome)
  && decide ([e1].length+([]:List Keyword).length+(if([]:List Keyword).isEmpty then 0 else 1)<30))=KD:=by rfl)
 (e:(apos.endLine==KW.line)=KD:=by rfl) (C:HC [e1] X.env=(KG,eval e1 X.env)::HC [] X.env:=by rfl) (b:(IY KW (HC [] X.env)).any (·.1)=KG:=by rfl) :
 DE X (.Call (.Attribute o "index" apos) [e1] [] KW) (EI to t):=
 bf (CU y z B c h e C b) λσ H Q ⟨δ,M,R,i,D,q,l⟩=>by
  refine #[δ,M,_,i,D,q,λx E v H1 g1 m F f=>?_]
  let[G,ex,I]:=f
  subst ex
  let n:=m
  rw[Rep]at m
  let[a,xs,8,J,U]:=m
  refine #[#[a,xs,8,J],δ,E,_,i.mono g1,F,I,λV K us W u L w g=>?_]
  let[d,p,j,N,O,P,r,k,S]:=g
  subst N
  let[T,8,s]:=bR L
  exact #[a,G,K,T,d,p,j,8,8,w,n.mono u,s,O,P,r,k,l _ _ _ _ (g1.trans u) (by rw[Rep]) w S]
def FU(te:TD):Lg:=λδ M Q=>te δ M λx a=>∃l xs,x=.ref l/\a l=KA (.lst xs)/\Q (!xs.isEmpty) a
theorem B8{e:sg}{te:TD}(g:DE X e te)(hw:∀a,isTrue e X.env a=(do let v <-a;standAt e.pos;holding [v] (truthy v)):=by intro _;rfl):DT X e (FU te):=
 iT (wJ g hw) λσ H Q ⟨δ,M,R,h,i,q,b⟩=>#[δ,M,_,h,i,q,λx p v H1 g1 d f ⟨l,xs,ex,j,k⟩=>by
  subst ex
  rw[Rep]at d;subst d
  let[c,m,n]:=f _ _ j
  exists _,.inl #[c,L8.of m,rfl]
  let e:c.isEmpty=xs.isEmpty:=by
   have:=n.length
   cases xs<;>cases c<;>simp at this ⊢
  rw[e]
  exact b _ _ _ g1 f k]
end
section
open PySem.AutoSeq1 (wpAny_loadPart')
variable{prog:HL}{w:Il}{A:Ig}{E:Hn->Hq->Prop}{s:Hq}
def sX{it t:r4}{i:Nat}{items}{x:Hn}{Q:Hn->Hq->Prop}(a:s.heap.IsTupleIter it t i)(e:s.heap.IsTuple t items)(hx:items[i]?=KA x)
 (f:∀h',h'.IsTupleIter it t (i+1)->JD it s.heap h'->Q x { s with heap:=h' }):Hy (HI prog w) A (Builtin.SmallTypes.nextOf (.ref it)) Q E s:=by
 let[o,b,g,hd]:=id a
 let[h,c,_,j,d]:=e
 unfold Builtin.SmallTypes.nextOf
 refine Hl (JT (name:=IW "__next__") a.typeIs K7 (JC K7 a.typeIs F.entry_tuple_iterator_next ?_ (F.args_tuple_iterator_next_1 _)))
 show Hy _ _ (field (.ref it) 0 >>= _) _ _ s
 refine Hl (Ke b hd (x:=.ref t) rfl ?_)
 show Hy _ _ (if(II t==Value.none)=KD then _ else _) _ _ s
 rw[KH (show ¬((II t==Value.none)=KD)from HF)]
 show Hy _ _ (field (.ref it) 1 >>= _) _ _ s
 refine Hl (Ke b hd (x:=.int i 0) rfl ?_)
 show Hy _ _ (seqItems? (.ref t) >>= _) _ _ s
 refine Hl (Kn c d ?_)
 simp only[IJ,hx]
 refine Hl (wpAny_setField b hd (_) (Hs #[x,8,Hs (f _ ?_ (IU ..))]))
 exact #[_,JM _ b (Obj.isFreed_of_fields (Obj.data_mapFields hd _)),(Obj.cls_mapFields ..).trans g,by
  rw[Obj.data_mapFields hd];simp[Kr]]
def vY{it t:r4}{i:Nat}{items}{Q:Hn->Hq->Prop}(g:A.handled=KC)(b:s.heap.IsTupleIter it t i)(h:s.heap.IsTuple t items)(hx:items[i]?=KC)
 (hE:∀h' e,Heap.ExtBut it s.heap h'->(∃o,h'.get? e=KA o/\o.cls=.type "StopIteration")->E (.ref e) { s with heap:=h' }):Hy (HI prog w) A (Builtin.SmallTypes.nextOf (.ref it)) Q E s:=by
 let[o,c,j,hd]:=id b
 let[k,d,_,l,f]:=h
 unfold Builtin.SmallTypes.nextOf
 refine Hl (JT (name:=IW "__next__") b.typeIs K7 (JC K7 b.typeIs F.entry_tuple_iterator_next ?_ (F.args_tuple_iterator_next_1 _)))
 show Hy _ _ (field (.ref it) 0 >>= _) _ _ s
 refine Hl (Ke c hd (x:=.ref t) rfl ?_)
 show Hy _ _ (if(II t==Value.none)=KD then _ else _) _ _ s
 rw[KH (show ¬((II t==Value.none)=KD)from HF)]
 show Hy _ _ (field (.ref it) 1 >>= _) _ _ s
 refine Hl (Ke c hd (x:=.int i 0) rfl ?_)
 show Hy _ _ (seqItems? (.ref t) >>= _) _ _ s
 refine Hl (Kn d f ?_)
 simp only[IJ,hx]
 refine Hl (wpAny_rule (Hl (wpAny_setField c hd (_) ?_)))
 show Hy _ _ (newExc (.type "StopIteration") [] >>= _) _ _ _
 refine Hl ?_
 simp only[newExc,newTuple]
 refine Hl (ID ?_ (by size_fits))
 refine Hl (m:=firstArgMember _ _) (wpAny_of_eq (a:=Value.none) (by first|rfl|(simp only[firstArgMember];rfl)) ?_)
 refine ID ?_ (by size_fits)
 simp only[raiseNew]
 refine Hl (wpAny_handled ?_)
 first|rw[show A.in1.handled=KC from g]|rw[g]
 refine Hl (Hs (wpAny_throw ?_))
 exact hE _ _ (((IU ..).extBut.push _).push _) #[_,Hx _ rfl,rfl]
theorem xf(k:A.handled=KC)(it t:r4)(c:t≠it)(items:Array Hn):Draws prog w A it [it,t] items.size (λi v=>items[i]?=KA v) (λi h=>h.IsTupleIter it t i/\h.IsTuple t items) where
 live:=λ_ _ st=>let⟨o,d,_⟩:=st.1;#[o,d]
 frame:=λ_ _ _ st f=>by
  obtain⟨⟨o,d,r⟩,⟨g,e,l⟩⟩:=st
  exact #[#[o,f it (_) o d,r],#[g,f t (_) g e,l]]
 item:=λi s Q E j st m=>by
  refine sX st.1 st.2 (x:=items[i]) (by simp[j]) λn a b=>?_
  exact m _ n s.toks (by simp[j]) #[a,st.2.extBut b.extBut c] b
 done:=λs Q E st hE=>vY k st.1 st.2 (_) hE
theorem uZ(l:r4)(items:Array Hn)(n:Nat)(b:Option r4)(i:Array (Option Hn)) :
 Meets (Kd.«enumerate.__new__» #[[.type "enumerate",.ref l],[]]) (λ_ R s=>s.heap.get? l=KA { cls:=.type "tuple",dict:=b,data:=.seq items n,slots:=i }/\
  R (.ok (.ret (.ref (s.heap.push { cls:=.type "tuple_iterator",data:=.fields (List.toArray [.ref l,.int 0 0]) }).objs.size)))
    { s with heap:=(s.heap.push { cls:=.type "tuple_iterator",data:=.fields (List.toArray [.ref l,.int 0 0]) }).push { cls:=.type "enumerate",data:=.fields (List.toArray [.none,.bool KG,.ref s.z,Kr 0,.none,.none]) } }):=
 .of_wp λprog w A R s h=>by
  let[j,g,d,k,os]:=s;let[a,h]:=h
  let f:=sub_enumerate
  let e:Heap.IsTuple (Shared.heap #[j,g,d,k,os]) l items:=#[_,a,8,n,rfl]
  wp_walk using J3 a
  refine wpAny_stack_any λst=>Hs ?_
  split
  .rename_i c _ _ _ _ _
   cases (c==Kg "enumerate")
   .wp_walk using J3 a,wpAny_pyIter_tuple e
    exact #[7,h]
   .wp_walk using J3 a,wpAny_pyIter_tuple e
    exact #[7,h]
  .wp_walk using J3 a,wpAny_pyIter_tuple e
   exact #[7,h]
def rS{l:r4}{items:Array Hn}{Q:Hn->Hq->Prop}(g:s.heap.IsTuple l items)
 (h:∀h',IsEnum h' (s.z+1) s.z 0 .none->h'.IsTupleIter s.z l 0->(∀b o,s.heap.get? b=KA o->h'.get? b=KA o)->Q (.ref (s.z+1)) { s with heap:=h' }) :
 Hy (HI prog w) A (call (.type "enumerate") [.ref l]) Q E s:=by
 obtain⟨⟨c,a,i,j⟩,k,d,n,hd⟩:=g
 replace d:c=.type "tuple":=d
 replace hd:i=.seq items n:=hd
 subst d hd
 refine callType_new F.called_enumerate ⋯ (F.typeCall_enumerate_1 _) (F.newCall_enumerate_1 _) (λobj=>F.args_object_init_2 obj _) F.entry_enumerate_new (uZ l items n a j) #[k,?_]
 let e:(s.heap.push { cls:=.type "tuple_iterator",data:=.fields (List.toArray [.ref l,.int 0 0]) }).objs.size=s.z+1:=J6 ..
 show _/\_
 rw[e]
 let f:IsEnum ((s.heap.push { cls:=.type "tuple_iterator",data:=.fields (List.toArray [.ref l,.int 0 0]) }).push { cls:=.type "enumerate",data:=.fields (List.toArray [.none,.bool KG,.ref s.z,Kr 0,.none,.none]) }) (s.z+1) s.z 0 .none:=by
  have:=Hx (s.heap.push { cls:=.type "tuple_iterator",data:=.fields (List.toArray [.ref l,.int 0 0]) }) (o:={ cls:=.type "enumerate",data:=.fields (List.toArray [.none,.bool KG,.ref s.z,Kr 0,.none,.none]) }) rfl
  rw[e]at this;exact this
 exact #[#[_,f,rfl],h _ f #[_,Hr _ (Hx _ rfl),8,rfl] λb o x=>Hr _ (Hr _ x)]
end
def Gk(K:Hm)(a:r4):It:=
 #[λi H=>∃xs x,L7 K H a xs/\xs[i]?=KA x,λi H x b=>∃T y,x=.ref T/\H T=KC/\b=upd H T (.tup [.int (i:Int),y])/\∀xs,L7 K H a xs->xs[i]?=KA y,λi H=>∃xs,L7 K H a xs/\xs.length=i]
def sk{P:HL}{w:Il}{K:Hm}{G:tr}{kt}{pt:Pos}(a e it:r4)(t:e≠it):Turn P w K (.Tuple G kt pt) (Gk K a) [e,it] e (λi h=>(∃j,IsEnum h e it (i:Int) j)/\h.IsTupleIter it a i) where
 mem:=by simp
 obj:=λi h st b J=>by
  rcases(show b=e\/b=it by simpa using J)with rfl|rfl
  .obtain⟨⟨j,q⟩,_⟩:=st
   exact #[_,q,λv z=>by
    let z':Data.fields _=Data.cell v:=z
    cases z']
  .obtain⟨o,q,c,d⟩:=st.2
   exact #[o,q,λv z=>by rw[d]at z;cases z]
 keep:=λi h h' st k=>by
  obtain⟨⟨j,q⟩,⟨o,R,r⟩⟩:=st
  exact #[#[j,k e (_) _ q],#[o,k it (_) o R,r]]
 item:=by
  intro X S T U V i KQ s σ H E I O st W
  subst S T U
  let[xs,x,Q,hx]:=W
  let[g,Y,p,hz]:=I.tuple Q
  let[u,hu,ru]:=Y.get hx
  obtain⟨⟨j,y⟩,l⟩:=st
  let p:s.heap.IsTuple a g.toArray:=p
  let le:e<s.z:=HE y
  let li:it<s.z:=by let[o,q,_]:=l;exact HE q
  let B:a≠it:=λz=>by
   subst z
   let[o1,L,M,_]:=l
   let[o2,y1,C,_]:=p
   rw[L]at y1;cases y1
   rw[M]at C;exact absurd (Kg.inj C) ⋯
  let Z:e≠a:=λz=>by
   subst z
   let[o2,y1,C,_]:=p
   rw[show s.heap.get? e=_ from y]at y1;cases y1
   exact absurd (Kg.inj C) ⋯
  let D:X.A.in1.handled=KC:=I.ok.hd V
  let b0:i<g.length:=(Hw.mp hu).1
  refine wpAny_pyNext_enum_itemD (xf D it a B g.toArray) y #[l,p] (by simp;omega) t (by simp[t,Z]) λx0 h1 F m R N hT c0 hk=>?_
  obtain rfl:u=x0:=by
   let m:g[i]?=KA x0:=‹m›
   rw[hu]at m;cases m;rfl
  refine #[7,wpAny_letOwnedTupleGo_enum (s:={ s with heap:=h1,toks:=F+1 }) R λh2 a0 n=>?_]
  let n:JD e h1 h2:=n
  let fr:=I.fresh
  let I1:Inv X KQ σ (upd H s.z (.tup [.int (i:Int),x])) { s with heap:=s.heap.push { cls:=.type "tuple",data:=.seq (List.toArray [.int (i:Int) F,u]) },toks:=s.toks }:=
   I.laid (λb v q=>Hr _ q) (Hu _) #[LR rfl,[.int (i:Int) F,u],.cons #[_,rfl] (.cons ru .nil),#[_,Hx _ rfl,8,7],#[_,Hx _ rfl,rfl]]
  let fk:∀{b:r4},b<s.z->cJ X KQ H b->cJ X KQ (upd H s.z (.tup [.int (i:Int),x])) b:=λ{b} lt f=>#[by rw[aG (HX lt)];exact f.1,f.2]
  let fe:=fk le (O e (_))
  let fi:=fk li (O it (_))
  let I2:Inv X KQ σ (upd H s.z (.tup [.int (i:Int),x])) { s with heap:=h2,toks:=F+1 }:=by
   refine mT (s:={ s with heap:=s.heap.push { cls:=.type "tuple",data:=.seq (List.toArray [.int (i:Int) F,u]) },toks:=s.toks }) I1 (λb o ne ni q=>?_) fe fi
   let q:(s.heap.push { cls:=.type "tuple",data:=.seq (List.toArray [.int (i:Int) F,u]) }).get? b=KA o:=q
   refine(n.2 b ne).trans ?_
   rcases Heap.get?_push_cases q with⟨rfl,rfl⟩|q
   .exact hT
   .exact hk b o ne ni q
  obtain⟨⟨oi,L,M⟩,_⟩:=N
  refine #[.ref s.z,_,I2,8,#[_,x,8,fr,8,λys hy=>by rw[I.nR hy Q];exact hx],#[#[u,?_],#[oi,(n.2 it t.symm).trans L,M]],λb J=>?_]
  .have:(((i+1:Nat):Int))=(i:Int)+1:=()
   rw[this];exact a0
  .rcases(show b=e\/b=it by simpa using J)with rfl|rfl
   .exact fe.1
   .exact fi.1
 done:=by
  intro X S T U V i KQ s σ H E I O st W
  subst S T U
  let[xs,Q,hx]:=W
  let[g,Y,p,hz]:=I.tuple Q
  let p:s.heap.IsTuple a g.toArray:=p
  obtain⟨⟨j,y⟩,l⟩:=st
  let[f0,f1,f2,f3,f4,f5]:=O it (_)
  let hl:=Y.length
  let B:a≠it:=λz=>by
   subst z
   let[o1,L,M,_]:=l
   let[o2,y1,C,_]:=p
   rw[L]at y1;cases y1
   rw[M]at C;exact absurd (Kg.inj C) ⋯
  let D:X.A.in1.handled=KC:=I.ok.hd V
  let ei:g.toArray.size=i:=by simp;omega
  exact wpAny_pyNext_enum_endD (xf D it a B g.toArray) y #[by rw[ei];exact l,p] λh' eb=>#[8,I.turned (t':=s.toks) (λb o J q=>eb b o J q) f0 f1 f3 f4 f5]
 self:=λ_ _ _ _ _ st h=>let⟨⟨_,y⟩,_⟩:=st;wpAny_pyIter_enum y h
section
variable{X:Cx}{elts:tr}{kt:Nat}{pt:Pos}
def Cu(K:Hm)(b:TA):TI:=λσ H R=>b σ H λvs H1=>∃a xs,vs=[.ref a]/\L7 K H1 a xs/\R (Gk K a) H1
def yn{a:sg}{j:TA}{p pos:Pos}(m:Gl X "enumerate")(n:X.mg "enumerate"=KC)(o:PA X [a] j)(r:HC [a] X.env=[(KG,eval a X.env)]:=by rfl):PI X (.Tuple elts kt pt) (.Call (.Name "enumerate" p) [a] [] pos) (Cu X.K j):=by
 intro KQ s σ H R I h;refine Call_ (fL I m n gG (Jg (LS (o pos KQ s σ H _ I h) λus c d=>?_) r rfl));let[vs,H1,f,t,v]:=d;let[l,xs,w,x,q]:=v;subst w;let[u,8,y]:=t.one;cases y;let[g,B,pt,C]:=f.tuple x;refine rS (show c.heap.IsTuple l g.toArray from pt) λD k i z=>wpAny_pyIter_enum k ?_
 let fp:∀b∈[c.z+1,c.z],cJ X KQ H1 b:=λb A=>by
  let e:c.z<=b:=by
   rcases(show b=c.z+1\/b=c.z by simpa using A)with rfl|rfl
   .exact Kq _
   .exact Hu _
  exact f.pD e (f.hok.fresh e)
 exact #[_,[c.z+1,c.z],_,_,H1,8,f.kept (t':=c.toks) z,sk l _ _ (Nat.succ_ne_self _),#[#[_,k],i],fp,q]
def CM(b:Ld):MP:=λδ M R=>b δ M λc e=>∃a,c=[.tup a]/\R #[a.length,λi=>(a[i]?).map λd=>.tup [.int (i:Int),d],λ_=>True] e
theorem y8{a:sg}{n:Ld}{p pos:Pos}(w:Gl X "enumerate")(z:X.mg "enumerate"=KC)(A:DA X [a] n)(f:HC [a] X.env=[(KG,eval a X.env)]:=by rfl):DI X (.Tuple elts kt pt) (.Call (.Name "enumerate" p) [a] [] pos) (CM n):=
 km (yn w z A f) λσ H R B=>by
  let[δ,M,K,f,C,q,g]:=B
  exact #[δ,M,_,f,C,q,λL D vs H1 g1 E F G=>by
   let[d,e,I]:=G
   subst e
   let[v,8,r]:=bR E
   rw[Rep]at r
   let[l,xs,8,hx,h]:=r
   refine #[l,xs,8,hx,g _ D H1 _ g1 F I #[λo s b j u=>#[xs,b.t _ _ hx,h.length.symm],λi o s c b j u=>?_,?_]]
   .have k:i<xs.length:=by rw[<-h.length];exact c
    exact #[xs,xs[i],b.t _ _ hx,by simp[k]]
   .rintro i o s v N c b j u ⟨T,y,rfl,m,rfl,J⟩
    let c:i<d.length:=c
    let[x,e1,e2]:=(h.mono b).get (show d[i]?=KA d[i] by simp[c])
    have:=J xs (b.t _ _ hx)
    rw[e1]at this;cases this
    exact #[.new m,j.new m,.tup [.int (i:Int),d[i]],by simp[c],by rw[Rep];exact #[T,7,L7.of aH,.cons (by rw[Rep]) (.cons (e2.mono (.new m)) .nil)]]]
end
open PySem PySem.W PySem.Spec PySem.Calls PyProof.Rows Builtin Builtin.ObjectAttr Builtin.Getset_descriptor
section
variable{P:HL}{w:Il}{K:Hm}{mg:Str->Option Hn}{base:r_}{N:u_}{qual:Str}{scope:JB}{f:r4}{cd:Hn}{A:Ig}{outer:List Env}{s:Hq}{H:Hp}{E:XK}
end
def mG(s:r8)(i:Nat):r8:=match s with
 |.ClassDef _ _ _ b _ _ _ _ _ _ _=>b.getD i (.Pass #[0,0,0,0])
 |_=>.Pass #[0,0,0,0]
def cl(K:Hm)(x:Str):r4:=match JZ K IA x with
 |some (KA (.ref C))=>C
 |_=>0
section
variable{K:Hm}{x y:Str}{C D:r4}{b:Bool}
def uo(a:JZ K IA x=KA (KA (.ref C))):cl K x=C:=by unfold cl;rw[a]
end
section
variable{X:Cx}{pos:Pos}
variable{x:Str}{e1 e2:sg}{kt:Nat}{tp np:Pos}{t:Ld}
def EY(t:TA):TE:=λσ H Q=>t σ H λvs H1=>∃n:Nat,vs=[.int (n:Int)]/\∀p,H1 p=KC->Q (.ref p) (upd H1 p (.rng 0 (n:Int)))
def Eh{a:sg}{d:TA}{p:Pos}(i:Gl X "range")(j:X.mg "range"=KC)(k:PA X [a] d)(l:HC [a] X.env=[(KG,eval a X.env)]:=by rfl):PE X (.Call (.Name "range" p) [a] [] pos) (EY d):=by intro KQ s σ H Q I h;refine JN (fL I i j boot_range (Jg (LS (k pos KQ s σ H _ I h) λus f c=>?_) l rfl));let[vs,H1,g,m,n,r,q]:=c;subst r;let[u,8,t,8]:=vals1 m;refine call_range_1 ?_;let v:=g.hok.fresh (Hu f.z);exact #[.ref _,_,g.laid (a:=f.z) (o:=.rng 0 (n:Int)) (λb u e=>Hr _ e) (Hu _) #[_,_,_,Hx _ rfl],8,q _ v]
end
abbrev Lc:=Int×Int×Int×Int
section
variable{P:HL}{w:Il}
def rk(P:HL)(w:Il)(h:r_)(n d:Int)(a:r4):Prop:=IsTupleKey (intKind P w) h [n,d] a
def iy(P:HL)(w:Il)(h:r_)(k:Lc)(a:r4):Prop:=∃o b c m,h.get? a=KA o/\o.cls=.type "tuple"/\o.data=.seq (List.toArray [.ref b,.ref c]) m/\rk P w h k.1 k.2.1 b/\rk P w h k.2.2.1 k.2.2.2 c
def iy.inj{h:r_}{a:r4}{x y:Lc}(p:iy P w h x a)(q:iy P w h y a):x=y:=by
 let[o,b,c,m,h1,h2,i,j,k]:=p;let[t,l,n,u,g1,v,d,r,s]:=q;rw[h1]at g1;cases g1;rw[i]at d;injection d with e _;let e1:b=l/\c=n:=‹e›
 let[8,8]:=e1;let f:=IsTupleKey.inj j r;let g:=IsTupleKey.inj k s;let[x1,z,A,B]:=x;let[y1,C,D,E]:=y;simp at f g;let[8,8]:=f;let[8,8]:=g;rfl
def iy.keeps{h h':r_}{k:Lc}{a d:r4}{o:Obj}{es:Array IQ}{ep:Nat}(p:iy P w h k a)(hd:h.get? d=KA o)(e:o.data=.dict es ep)(f:JD d h h'):iy P w h' k a:=by
 let[i,b,c,m,h1,h2,g,j,l]:=p;let ne:a≠d:=λz=>by rw[z,hd]at h1;cases h1;rw[e]at g;cases g
 exact #[i,b,c,m,(f.2 a ne).trans h1,h2,g,IsTupleKey.keeps j hd e f,IsTupleKey.keeps l hd e f]
def yi(P:HL)(w:Il)(k:Lc):Int:=reduceHash (Builtin.Tuple.tupleHashOf [tupleKeyHash (intKind P w) [k.1,k.2.1],tupleKeyHash (intKind P w) [k.2.2.1,k.2.2.2]])
def iy.hash{A:Ig}{E:Hn->Hq->Prop}{s:Hq}{k:Lc}{a:r4}{Q:Int->Hq->Prop}(i:A.units+4<IV)(p:iy P w s.heap k a)(q:Q (yi P w k) { s with toks:=s.toks+7 }):Hy (HI P w) A (pyHash (.ref a)) Q E s:=by
 let[o,b,c,m,h1,h2,e,f,h]:=p;let[j,g,d,l,os]:=s;show Hy _ _ (pyHashByItsType (.ref a)) _ _ _;refine PySem.W.pyHash_slot (T:="tuple") #[o,h1,h2] F.slot_tuple_hash F.entry_tuple_hash (F.args_tuple_hash_1 _) rfl (.inr ()) ?_;unfold Kd.«tuple.__hash__»;simp only[<-Array.forIn_toList]
 iterate 4 wp_step
 refine Hs ?_;refine Hl (wpAny_tupleItemsOf h1 e ?_);refine Hl ?_;simp only[List.forIn_cons,List.forIn_nil,pure_bind,bind_assoc];refine Hl (wpAny_pyHash_tuple (knd:=intKind P w) (by show A.units+1<IV;omega) f ?_);refine Hl (wpAny_pyHash_tuple (knd:=intKind P w) (by show A.units+1<IV;omega) h ?_);refine Hs ?_;unfold retInt
 wp_walk
 exact #[_,7,q]
def jB{n:Int}{v:Hn}(h:(intKind P w).is n v=KD):∃t,v=.int n t:=by
 let h:Value.isInt n v=KD:=h;cases v with
 |int i t=>
  have:(i==n)=KD:=h
  exact #[t,by rw[eq_of_beq this]]
 |_=>cases h
def Ad(n d:Int):Kj:=.tuple [.int n,.int d]
def qp(k:Lc):Kj:=.tuple [Ad k.1 k.2.1,Ad k.2.2.1 k.2.2.2]
def rk.reads{h:r_}{n d:Int}{a:r4}(p:rk P w h n d a):∃e,Reads h (.ref a) (Ad n d) e:=by
 let[o,b,m,h1,h2,f,c]:=p;generalize g:b.toList=l at c;cases c with
 |cons hx r=>
  cases r with
  |cons i r=>
   cases r
   let[t1,8]:=jB hx
   let[j,8]:=jB i
   exact #[_,.tuple h1 h2 f (by rw[g];exact .cons (.int _ _) (.cons (.int _ _) .nil))]
def iy.reads{h:r_}{k:Lc}{a:r4}(p:iy P w h k a):∃d,Reads h (.ref a) (qp k) d:=by let[o,b,c,m,h1,h2,e,f,g]:=p;let[d,i]:=f.reads;let[bs,j]:=g.reads;exact #[_,.tuple h1 h2 e (.cons i (.cons j .nil))]
def xS(x y:Lc):(qp x).eqv (qp y)=decide (x=y):=by let[x1,a,b,c]:=x;let[y1,d,e,f]:=y;simp only[qp,Ad,Iy,IT,Bool.and_true];rw[JJ];simp[and_assoc]
def iy.eq{A:Ig}{E:Hn->Hq->Prop}{s:Hq}{x y:Lc}{a b:r4}{Q:Bool->Hq->Prop}(g:A.units+4<IV)(p:iy P w s.heap x a)(c:iy P w s.heap y b)(q:Q (decide (x=y)) s):Hy (HI P w) A (eqBool (.ref a) (.ref b)) Q E s:=by let[d,e]:=p.reads;let[bs,f]:=c.reads;let hd:min (qp x).depth (qp y).depth<=3:=Iv (Nat.min_le_left _ _) (LR rfl);have:=SeqAt.eqAt_reads (qp x) (qp y) A s (.ref a) (.ref b) d bs e f rfl rfl ();rw[xS]at this;exact this P w E Q q
def rk.quiet{A:Ig}{E:Hn->Hq->Prop}{s:Hq}{n d:Int}{a:r4}{Q:Bool->Hq->Prop}(i:Nat)(p:rk P w s.heap n d a)(q:Q KD s):Hy (HI P w) A (eqIsQuiet (i+1) (.ref a)) Q E s:=by
 let[o,b,m,h1,h2,e,c]:=p;rw[eqIsQuiet.eq_2];refine Hl (wpAny_specialOf #[o,h1,h2] F.slot_tuple_eq.lookup ?_);refine Hl (wpAny_isInstance #[o,h1,h2] isSubtype_tuple_tuple ?_);simp only[Bool.not_true,IE,if_false];refine Hl (Kn h1 e ?_);simp only[Option.getD_some,<-Array.forIn_toList];generalize h:b.toList=l at c;cases c with
 |cons hx r=>
  cases r with
  |cons f r=>
   cases r
   let[t1,8]:=jB hx
   let[g,8]:=jB f
   refine Hl ?_
   simp only[List.forIn_cons,List.forIn_nil,pure_bind,bind_assoc,eqIsQuiet_byValue i (show carriedByValue (.int n t1)=KD from rfl),eqIsQuiet_byValue i (show carriedByValue (.int d g)=KD from rfl),Bool.not_true,IE,if_false]
   refine Hs ?_
   exact Hs q
def iy.quiet{A:Ig}{E:Hn->Hq->Prop}{s:Hq}{k:Lc}{a:r4}{Q:Bool->Hq->Prop}(p:iy P w s.heap k a)(q:Q KD s):Hy (HI P w) A (eqIsQuiet 8 (.ref a)) Q E s:=by let[o,b,c,m,h1,h2,d,e,f]:=p;rw[eqIsQuiet.eq_2];refine Hl (wpAny_specialOf #[o,h1,h2] F.slot_tuple_eq.lookup ?_);refine Hl (wpAny_isInstance #[o,h1,h2] isSubtype_tuple_tuple ?_);simp only[Bool.not_true,IE,if_false];refine Hl (Kn h1 d ?_);simp only[Option.getD_some,<-Array.forIn_toList];refine Hl ?_;simp only[List.forIn_cons,List.forIn_nil,pure_bind,bind_assoc];refine Hl (e.quiet 6 ?_);simp only[Bool.not_true,IE,if_false,pure_bind];refine Hl (f.quiet 6 ?_);simp only[Bool.not_true,IE,if_false,pure_bind];refine Hs ?_;exact Hs q
def eR(P:HL)(w:Il):HeapKind P w Lc where
 is:=iy P w
 hash:=yi P w
 draws:=λ_=>7
 room:=λA=>A.units+4<IV
 inj:=λp q=>p.inj q
 keeps:=λp hd b c=>p.keeps hd b c
 pyHash:=λa p q=>p.hash a q
 eqBool:=λa p d q=>p.eq a d q
 quiet:=λp q=>p.quiet q
end
section
variable{X:Cx}{KQ:sm}{σ:L2.St}{H:Hp}{s:Hq}{a b:r4}{k:Lc}
def dQ(K:Hm)(H:Hp)(b:r4)(k:Lc):Prop:=∃f g,L7 K H b [.ref f,.ref g]/\L7 K H f [.int k.1,.int k.2.1]/\L7 K H g [.int k.2.2.1,.int k.2.2.2]
def BN{n d:Int}{f:r4}(I:L2.Inv X KQ σ H s)(h:L7 X.K H f [.int n,.int d]):rk X.prog X.w s.heap n d f:=by
 let[c,r,e,_]:=I.tuple h;cases r with
 |cons g r=>cases r with
  |cons i r=>
   cases r
   let[t1,8]:=g
   let[l,8]:=i
   let[o,h1,h2,m,j]:=e
   exact #[o,_,m,h1,h2,j,.cons (by show((n==n)=KD);simp) (.cons (by show((d==d)=KD);simp) .nil)]
def qD(I:L2.Inv X KQ σ H s)(h:dQ X.K H b k):iy X.prog X.w s.heap k b:=by
 let[f,g,h1,h2,c]:=h;let[d,r,e,_]:=I.tuple h1;cases r with
 |cons i r=>cases r with
  |cons j r=>
   cases r
   cases i
   cases j
   let[o,l,n,m,p]:=e
   exact #[o,f,g,m,l,n,p,BN I h2,BN I c]
abbrev MB:=Lc×r4×V
def b5(P:HL)(w:Il)(a:r4)(xs:List MB):r_->Prop:=λh=>(a==Jz)=KG/\xs.length<=HK/\(xs.map (·.1)).Nodup/\∃c:List (Lc×r4×Hn),
 Kt (λ(p:MB) (q:Lc×r4×Hn)=>p.1=q.1/\p.2.1=q.2.1/\RelV p.2.2 q.2.2) xs c/\∃o d e,h.get? a=KA o/\o.ExactDict/\o.data=.dict d e/\d.toList=c.map (entryOfKey (eR P w))
def gf(xs:List MB)(k:Lc)(b:r4)(v:V):List MB:=if(xs.any λx=>decide (x.1=k))=KD then xs.map (λx=>if x.1=k then(x.1,x.2.1,v)else x)else xs++[(k,b,v)]
abbrev Pm:=λ(p:MB) (q:Lc×r4×Hn)=>p.1=q.1/\p.2.1=q.2.1/\RelV p.2.2 q.2.2
def jN{xs:List MB}{ys:List (Lc×r4×Hn)}(r:Kt Pm xs ys):ys.map (·.1)=xs.map (·.1):=by
 induction r with
 |nil=>rfl
 |cons h t c=>rw[HG,HG,c,h.1]
def Bf{xs:List MB}{ys:List (Lc×r4×Hn)}(r:Kt Pm xs ys)(k:Lc):(xs.any λx=>decide (x.1=k))=(atKey ys k).isSome:=by
 induction r with
 |nil=>rfl
 |@cons p q ps qs h t ih=>
  rw[K1]
  by_cases e:p.1=k
  .have c:q.1=k:=h.1.symm.trans e;simp[atKey,Ie,e,c]
  .have c:¬q.1=k:=λz=>e (h.1.trans z);rw[KJ e,Bool.false_or,ih];simp[atKey,Ie,c]
def iF{xs:List MB}{ys:List (Lc×r4×Hn)}(r:Kt Pm xs ys)(k:Lc)(b:r4){v:V}{u:Hn}(c:RelV v u):Kt Pm (gf xs k b v) (storedH ys k b u):=by
 unfold gf storedH;rw[Bf r k];by_cases e:(atKey ys k).isSome=KD
 .rw[KI e,KI e];clear e
  induction r with
  |nil=>exact .nil
  |@cons p q ps qs h t ih=>
   rw[HG,HG]
   refine .cons ?_ ih
   unfold putAt
   by_cases e:p.1=k
   .rw[KI e,KI (h.1.symm.trans e)];exact #[h.1,h.2.1,c]
   .rw[KH e,KH (λz=>e (h.1.trans z))];exact h
 .rw[KH e,KH e];exact Paired.snoc r #[8,8,c]
def lT{xs:List MB}{ys:List (Lc×r4×Hn)}(r:Kt Pm xs ys):xs.length=ys.length:=by
 induction r with
 |nil=>rfl
 |cons h t c=>rw[Ih,Ih,c]
def zY{xs:List MB}{ys:List (Lc×r4×Hn)}(r:Kt Pm xs ys){q:Lc×r4×Hn}(h:q∈ys):∃p∈xs,p.1=q.1/\p.2.1=q.2.1:=by
 induction r with
 |nil=>cases h
 |cons c t d=>
  rcases Iw.mp h with z|z
  .subst z;exact #[_,by simp,c.1,c.2.1]
  .obtain⟨p,f,e⟩:=d z;exact #[p,by simp[f],e]
def mD(xs:List MB)(k:Lc)(b:r4)(v:V):(gf xs k b v).length<=xs.length+1:=by
 unfold gf;split
 .rw[Ho];omega
 .simp
def oS{xs:List MB}(I:L2.Inv X KQ σ H s)(e:H a=KA (.ext (b5 X.prog X.w a xs)))(c:∀x∈xs,dQ X.K H x.2.1 x.1):(a==Jz)=KG/\xs.length<=HK/\∃ys,Kt Pm xs ys/\s.heap.DictOfH (eR X.prog X.w) a ys:=by obtain⟨⟨h1,h2,d,ys,r,o,f,g,h,i,j,l⟩,_⟩:=I.hok a _ e;refine #[h1,h2,ys,r,o,f,g,h,i,j,l,λx hx=>?_,by rw[jN r];exact d];let[p,m,e1,e2]:=zY r hx;rw[<-e1,<-e2];exact qD I (c p m)
def lR{P:HL}{w:Il}{xs:List MB}(h1 h2:r_)(h:b5 P w a xs h1)(k:∀o,h1.get? a=KA o->h2.get? a=KA o):b5 P w a xs h2:=by let[c,d,e,f,r,o,g,i,j,q]:=h;exact #[c,d,e,f,r,o,g,i,k o j,q]
def AS{A:Ig}{E:Hn->Hq->Prop}{Q:Unit->Hq->Prop}{xs:List MB}{v:V}{u:Hn}(D:A.units+8<IV)(I:L2.Inv X KQ σ H s)(e:H a=KA (.ext (b5 X.prog X.w a xs)))(i:∀x∈xs,dQ X.K H x.2.1 x.1)(j:dQ X.K H b k)(f:RelV v u)(F:xs.length<HK)
 (h:∀g,L2.Inv X KQ σ (upd H a (.ext (b5 X.prog X.w a (gf xs k b v)))) g->Q .unit g):Hy (HI X.prog X.w) A (setItem (.ref a) (.ref b) u) Q E s:=by
 let[hd,l,G,r,m]:=oS I e i
 refine wpAny_setItem_heap (knd:=eR X.prog X.w) (hsz:=by rw[<-lT r];exact l) (show A.in1.units+4<IV by show A.units+1+4<IV;omega) (qD I j) m λJ c n=>h _ ?_
 let[q,o,p,d,t,z,B,_,C]:=c
 refine jP I (by rw[e];exact JA) n #[q,d] #[#[hd,?_,?_,_,iF r k b f,q,o,p,d,t,z,B],#[q,d],λh1 h2 x y=>lR h1 h2 x y]
 .have:=mD xs k b v;omega
 .rw[<-jN (iF r k b f)];exact C
theorem t8(I:L2.Inv X KQ σ H s):L2.Inv X KQ σ (upd H s.z (.ext (b5 X.prog X.w s.z []))) { s with heap:=s.heap.push { cls:=.type "dict",data:=.dict #[] } }:=
 I.laid (a:=s.z) (t':=s.toks) (λ_ _ q=>Hr _ q) (Hu _)
  #[#[beq_eq_false_iff_ne.mpr (Ne.symm (HX I.big)),IB _,List.nodup_nil,[],.nil,_,#[],0,Hx _ rfl,#[8,8,rfl],8,rfl],#[_,Hx _ rfl],λh1 h2 x y=>lR h1 h2 x y]
def fo(xs:List MB)(k:Lc):Option V:=(xs.find? λx=>decide (x.1=k)).map (·.2.2)
def pK{xs:List MB}{ys:List (Lc×r4×Hn)}(r:Kt Pm xs ys){v:V}(h:fo xs k=KA v):∃p:r4×Hn,atKey ys k=KA p/\RelV v p.2:=by
 induction r with
 |nil=>cases h
 |@cons p q ps qs h' t ih=>
  by_cases e:p.1=k
  .have c:q.1=k:=h'.1.symm.trans e;simp[fo,Ie,e]at h;subst h;exact #[q.2,by simp[atKey,Ie,c],h'.2.2]
  .have c:¬q.1=k:=λz=>e (h'.1.trans z);let h2:fo ps k=KA v:=by simpa[fo,Ie,e]using h
   let[d,f,g]:=ih h2;exact #[d,by simpa[atKey,Ie,c]using f,g]
def Ag{A:Ig}{E:Hn->Hq->Prop}{Q:Hn->Hq->Prop}{xs:List MB}{v:V}(i:A.units+8<IV)(I:L2.Inv X KQ σ H s)(e:H a=KA (.ext (b5 X.prog X.w a xs)))(d:∀x∈xs,dQ X.K H x.2.1 x.1)(f:dQ X.K H b k)(hv:fo xs k=KA v) (h:∀u c,L2.Inv X KQ σ H c->RelV v u->Q u c):Hy (HI X.prog X.w) A (getItem (.ref a) (.ref b)) Q E s:=by let[hd,j,l,r,g]:=oS I e d;let[p,h1,h2]:=pK r hv;exact wpAny_getItem_heap (knd:=eR X.prog X.w) (show A.in1.units+4<IV by show A.units+1+4<IV;omega) (qD I f) g h1 (h _ _ (I.tok _) h2)
end
section
variable{prog:HL}{w:Il}{K:Type}[DecidableEq K]{knd:HeapKind prog w K}{A:Ig}{E:Hn->Hq->Prop}{s:Hq}
def qb{d a:r4}{xs:List (K×r4×Hn)}{k:K}{v:Hn}{Q:Hn->Hq->Prop}(n:knd.room A)(b:knd.is s.heap k a)(r:s.heap.DictOfH knd d xs) (h1:∀p,atKey xs k=KA p->Q p.2 { s with toks:=s.toks+knd.draws k }) (h2:atKey xs k=KC->∀h',h'.DictOfH knd d (storedH xs k a v)->JD d s.heap h'->Q v { s with heap:=h',toks:=s.toks+knd.draws k }) (hsz:xs.length<=HK) : Hy (HI prog w) A (dictSetDefault d (.ref a) v) Q E s:=by
 let[o,B,t,c,u,hd,l,g,m]:=r;unfold dictSetDefault
 try with_reducible refine IM ?_
 refine Hl (knd.pyHash n b ?_);refine Hl (wpAny_dictFind_heap (s:={ s with toks:=s.toks+knd.draws k }) n b c hd l g m ?_ ?_)
 .intro h;let i:k∉xs.map (·.1):=not_mem_keys_of_get h;let f:=atKey_none_of_get h
  refine Hl (wpAny_rule (Hl (wpAny_updateDictKeys (hz:=by let e:=size_of_entries l;omega) (s:={ s with toks:=s.toks+knd.draws k }) c hd (Hs (h2 f _ #[_,_,t+1,JM _ c (Obj.isFreed_of_dict (Obj.data_mapDictKeys hd _)),
   u.mapDictKeys _,Obj.data_mapDictKeys hd _,?_,?_,?_] (IU ..))))))
  .rw[storedH_new f];simp[l,entryOfKey]
  .rw[storedH_new f];intro x hx;rcases HQ.mp hx with hx|hx
   .exact knd.keeps (g x hx) c hd (IU ..)
   .have:x=(k,a,v):=‹hx›
    subst this;exact knd.keeps b c hd (IU ..)
  .rw[storedH_new f,Ib,List.nodup_append];refine #[m,by simp,?_];intro x hx y z;have:y=k:=‹z›
   subst this;exact λe=>i (e▸hx)
 .intro j p q;let f:=atKey_of_get m q;refine Hl (wpAny_dictEntries (s:={ s with toks:=s.toks+knd.draws k }) c hd ?_);rw[entry_at l j,q];exact Hl (wpAny_rule (Hs (h1 p f)))
def p8{d a:r4}{xs:List (K×r4×Hn)}{k:K}{v:Hn}{Q:Hn->Hq->Prop}(g:knd.room A.in1)(b:knd.is s.heap k a)(c:s.heap.DictOfH knd d xs)(hd:(d==Jz)=KG)
 (h1:∀p,atKey xs k=KA p->Q p.2 { s with toks:=s.toks+knd.draws k })
 (h2:atKey xs k=KC->∀h',h'.DictOfH knd d (storedH xs k a v)->JD d s.heap h'->Q v { s with heap:=h',toks:=s.toks+knd.draws k }) (hsz:xs.length<=HK) :
 Hy (HI prog w) A (call (.builtin "dict.setdefault") [.ref d,.ref a,v]) Q E s:=by
 refine JC PySem.F.slot_dict_setdefault c.typeIs PySem.F.entry_dict_setdefault ?_ (PySem.F.args_dict_setdefault_3 _ _ _)
 unfold Kd.«dict.setdefault»
 refine Hl ?_
 unfold Builtin.Dict.keyAndDefault
 refine Hl (wpAny_notOrdered_dict c.typeIs ?_)
 show Hy _ _ (pure (d,II a,KA v)) _ _ s
 refine Hs ?_
 show Hy _ _ (if(d==Jz)=KD then _ else(dictSetDefault d (.ref a) v >>= _)) _ _ s
 rw[KH (by rw[hd];exact HF)]
 exact Hl (qb g b c (λp h=>Hs #[p.2,8,h1 p h]) (λi h' e f=>Hs #[v,8,h2 i h' e f]) hsz)
end
section
variable{X:Cx}{KQ:sm}{σ:L2.St}{H:Hp}{s:Hq}{a b:r4}{k:Lc}
def yI{xs:List MB}{ys:List (Lc×r4×Hn)}(r:Kt Pm xs ys)(h:fo xs k=KC):atKey ys k=KC:=by
 induction r with
 |nil=>rfl
 |@cons p q ps qs h' t ih=>
  by_cases e:p.1=k
  .simp[fo,Ie,e]at h
  .have c:¬q.1=k:=λz=>e (h'.1.trans z);let h2:fo ps k=KC:=by simpa[fo,Ie,e]using h
   have:=ih h2;simpa[atKey,Ie,c]using this
def so{A:Ig}{E:Hn->Hq->Prop}{Q:Hn->Hq->Prop}{xs:List MB}{v:V}{u:Hn}(P:A.units+8<IV)(I:L2.Inv X KQ σ H s)(e:H a=KA (.ext (b5 X.prog X.w a xs)))(n:∀x∈xs,dQ X.K H x.2.1 x.1)(o:dQ X.K H b k)(l:RelV v u)(R:xs.length<HK)
 (h1:∀d m f,fo xs k=KA d->L2.Inv X KQ σ H f->RelV d m->Q m f)
 (h2:fo xs k=KC->∀f,L2.Inv X KQ σ (upd H a (.ext (b5 X.prog X.w a (gf xs k b v)))) f->Q u f):Hy (HI X.prog X.w) A (call (.builtin "dict.setdefault") [.ref a,.ref b,u]) Q E s:=by
 let[hd,t,S,r,z]:=oS I e n
 refine p8 (knd:=eR X.prog X.w) (show A.in1.units+4<IV by show A.units+1+4<IV;omega) (qD I o) z hd (λp h=>?_) (λB T i C=>?_) (by rw[<-lT r];exact t)
 .cases c:fo xs k with
  |none=>rw[yI r c]at h;cases h
  |some d=>
   let[D,g,F]:=pK r c
   rw[h]at g
   cases g
   exact h1 d _ _ c (I.tok _) F
 .have c:fo xs k=KC:=by
   cases c:fo xs k with
   |none=>rfl
   |some d=>
    let[D,g,_]:=pK r c
    rw[B]at g;cases g
  refine h2 c _ ?_
  let[q,G,J,j,L,M,N,_,O]:=i
  refine jP I (by rw[e];exact JA) C #[q,j] #[#[hd,?_,?_,_,iF r k b l,q,G,J,j,L,M,N],#[q,j],λh1 h2 x y=>lR h1 h2 x y]
  .have:=mD xs k b v;omega
  .rw[<-jN (iF r k b l)];exact O
end
section
variable{X:Cx}
def BY(X:Cx):TE:=λ_ H Q=>∀p,H p=KC->Q (.ref p) (upd H p (.ext (b5 X.prog X.w p [])))
theorem yh{pos:Pos}:PE X (.Dict [] [] pos) (BY X):=λKQ s σ H Q I h=>wpAny_Dict_empty #[.ref s.z,_,t8 I,8,h _ (I.hok.fresh (Hu _))]
structure Q1(X:Cx)(H:Hp)(a b:r4)(xs:List MB)(k:Lc):Prop where
 d:H a=KA (.ext (b5 X.prog X.w a xs))
 ks:∀x∈xs,dQ X.K H x.2.1 x.1
 key:dQ X.K H b k
def Dd(X:Cx)(d ty:TE):TE:=λσ H Q=>d σ H λx H1=>ty σ H1 λy c=>∃a b xs k v,x=.ref a/\y=.ref b/\Q1 X c a b xs k/\fo xs k=KA v/\Q v c
def wU{KQ:sm}{σ:L2.St}{H:Hp}{s:Hq}{a:r4}{xs:List MB}(I:L2.Inv X KQ σ H s)(e:H a=KA (.ext (b5 X.prog X.w a xs))):s.TypeIs (.ref a) "dict"/\∀b,II a=.ref b->∃o,s.heap.get? b=KA o/\o.dict=KC:=by obtain⟨⟨_,_,_,_,_,o,_,_,c,d,_⟩,_⟩:=I.hok a _ e;exact #[#[o,c,d.1],λb z=>by cases z;exact #[o,c,d.2.1]]
def xM{o i:sg}{e ty:TE}{pos:Pos}(g:X.A.units+8<IV)(j:PE X o e)(l:PE X i ty)(m:F3 i):PE X (.Subscript o i pos) (Dd X e ty):=by intro KQ s σ H Q I h;refine Subscript_ (LS (j KQ s σ H _ I h) λv n ⟨x,H1,p,r,t⟩=>LS (l KQ n σ H1 _ p t) λu J c=>?_);let[y,w,f,z,a,b,xs,k,B,ex,C,D,hv,q]:=c;subst ex C;cases r;cases z;exact tail_any (wU f D.d).1 PySem.F.slot_dict_getitem.lookup (Ag g f D.d D.ks D.key hv λK L E G=>#[B,w,E,G,q]) (m _ _)
def Ed(X:Cx)(d ty e:TE):TS:=λD σ H=>e σ H λv H1=>d σ H1 λx f=>ty σ f λy c=>∃a b xs k,x=.ref a/\y=.ref b/\Q1 X c a b xs k/\xs.length<HK/\D.nx σ (upd c a (.ext (b5 X.prog X.w a (gf xs k b v))))
def yp{o i c:sg}{g ty j:TE}{pos e:Pos}(l:X.A.units+8<IV)(m:PE X o g)(n:PE X i ty)(hv:PE X c j)(p:JH c (KA (.Subscript o i e)) pos.line X.env=pure KG) : PS X (.Assign [.Subscript o i e] c pos) (Ed X g ty j):=by intro KQ s σ H D I h;refine wpAny_Assign_Subscript (LS (hv KQ s σ H _ I h) λr q ⟨v,H1,t,w,z⟩=>LS (m KQ q σ H1 _ t z) λu B ⟨x,C,E,F,G⟩=>LS (n KQ B σ C _ E G) λP Q f=>?_) p;let[y,R,J,K,a,b,xs,k,ex,L,A,M,N]:=f;subst ex L;cases F;cases K;exact AS l J A.d A.ks A.key w M λS O=>#[σ,_,O,N]
def Fy(X:Cx)(to:TE)(t:TA):TE:=λσ H Q=>to σ H λx H1=>∃a c,x=.ref a/\H1 a=KA (.ext (b5 X.prog X.w a c))/\t σ H1 λvs d=>∃b v xs k,vs=[.ref b,v]/\Q1 X d a b xs k/\xs.length<HK/\
 (∀e,fo xs k=KA e->Q e d)/\(fo xs k=KC->Q v (upd d a (.ext (b5 X.prog X.w a (gf xs k b v)))))
def zK{o e1 e2:sg}{to:TE}{t:TA}{e f:Pos}(z:X.A.units+8<IV)(B:PE X o to)(C:PA X [e1,e2] t)
 (g:JO o "setdefault" X.env (eval o X.env)=eval o X.env:=by rfl)
 (m:((IY f (HC [e1,e2] X.env)).all (λx=>!x.1)&&(Ks f (JK [] X.env)).all (λx=>x.1.isSome)
  && decide ([e1,e2].length+([]:List Keyword).length+(if([]:List Keyword).isEmpty then 0 else 1)<30))=KD:=by rfl)
 (i:(e.endLine==f.line)=KD:=by rfl) (E:HC [e1,e2] X.env=(KG,eval e1 X.env)::HC [e2] X.env:=by rfl) (c:(IY f (HC [e2] X.env)).any (·.1)=KG:=by rfl) :
 PE X (.Call (.Attribute o "setdefault" e) [e1,e2] [] f) (Fy X to t):=by
 intro KQ s σ H Q I h
 refine wpAny_Call_method_late g m i rfl (LS (B KQ s σ H _ I h) λv G j=>?_)
 let[x,H1,u,J,a,K,ex,L,M]:=j
 subst ex
 cases J
 let[h1,h2]:=wU u L
 exists "dict","dict.setdefault",PySem.F.plainAttrs_dict,PySem.F.slot_dict_setdefault,PySem.F.type_dict_setdefault,h1,h2
 let w:=C f KQ G σ H1 _ u M
 rw[E]at w ⊢
 refine Calls.callWith_builtin (by show(KG||(IY f (HC [e2] X.env)).any (·.1))=KG;rw[c]<;>rfl) (Calls.evalArgs_plain ?_)
 refine LS w λus Z l=>?_
 let[vs,N,O,P,b,R,xs,k,p,D,S,T,U]:=l
 subst p
 let[u1,u2,8,q,n]:=P.two
 cases q
 exact so z O D.d D.ks D.key n S (λy u' V p r W=>#[y,N,r,W,T y p]) (λY V r=>#[R,_,r,n,U Y])
end
def Ny(k:Lc):D:=.tup [.tup [.int k.1,.int k.2.1],.tup [.int k.2.2.1,.int k.2.2.2]]
section
variable{K:Hm}{H H':Hp}{M:MH}{a b:r4}{k:Lc}
def pY{v:V}(r:Rep K H (Ny k) v):∃b,v=.ref b/\dQ K H b k:=by unfold Ny at r;rw[Rep]at r;let[b,xs,8,hx,l]:=r;let[q,s,8,c,d]:=gc l;rw[Rep]at c d;let[f,fs,8,m,n]:=c;let[g,t,8,o,p]:=d;let[u,w,8,e,h]:=gc n;let[x,y,8,i,j]:=gc p;rw[Rep]at e h i j;subst e h i j;exact #[b,8,f,g,hx,m,o]
def yE(h:dQ K H b k):Rep K H (Ny k) (.ref b):=by
 let[f,g,hx,d,e]:=h;unfold Ny;rw[Rep];exists b,7,hx;let c:∀(m n:Int),aE K H [D.int m,D.int n] [V.int m,V.int n]:=λm n=>iH [m,n];rw[aE];exists _,7,?_
 .rw[Rep];exact #[f,7,d,c _ _]
 .rw[aE];exists _,7,?_
  .rw[Rep];exact #[g,7,e,c _ _]
  .rw[aE]
def dQ.mono(g:LP K H H')(h:dQ K H b k):dQ K H' b k:=by let[c,e,r]:=pY ((yE h).mono g);cases e;exact r
abbrev Lw:=List (Lc×D)
def QS(kvs:Lw):Hm->Hp->r4->Prop:=λK H a=>∃xs:List MB,(∀P w,H a=KA (.ext (b5 P w a xs)))/\xs.map (·.1)=kvs.map (·.1)/\(∀x∈xs,dQ K H x.2.1 x.1)/\aE K H (kvs.map (·.2)) (xs.map (·.2.2))
def xc{kvs:Lw}(h:QS kvs K H a)(g:LP K H H')(e:H' a=H a):QS kvs K H' a:=by let[xs,h1,h2,c,d]:=h;exact #[xs,λP w=>e.trans (h1 P w),h2,λx hx=>(c x hx).mono g,d.mono g]
def ME(kvs:Lw):MO:=.gen (QS kvs)
theorem LV.dsp{kvs:Lw}(h:LV K H M)(e:M a=KA (ME kvs)):QS kvs K H a:=(h a _ e).1
theorem QS.wB{kvs:Lw}(h:QS kvs K H a)(ne:H a≠KC):nD K H a (ME kvs):=#[h,ne,λH' g e=>xc h g e]
theorem LV.Bu{p:r4}(P:HL)(w:Il)(h:LV K H M)(c:H p=KC):LV K (upd H p (.ext (b5 P w p []))) (au M p (ME [])):=λa u e=>by
 by_cases ne:a=p
 .subst ne;rw[ai]at e;cases e;exact QS.wB #[[],(λP w=>aH),8,(λx hx=>by simp at hx),(by simp[aE])] (by rw[aH];simp)
 .rw[ak ne]at e;exact(h a u e).fW (.new c) (aG ne)
def dS(kvs:Lw)(k:Lc):v9:=(kvs.find? λx=>decide (x.1=k)).map (·.2)
def putD(kvs:Lw)(k:Lc)(d:D):Lw:=if(kvs.any λx=>decide (x.1=k))=KD then kvs.map (λx=>if x.1=k then(x.1,d)else x)else kvs++[(k,d)]
theorem pL(k:Lc):∀{kvs:Lw}{xs:List MB},xs.map (·.1)=kvs.map (·.1)->aE K H (kvs.map (·.2)) (xs.map (·.2.2))->(∀d,dS kvs k=KA d->∃v,fo xs k=KA v/\Rep K H d v)/\(dS kvs k=KC->fo xs k=KC)/\((xs.any λx=>decide (x.1=k))=kvs.any λx=>decide (x.1=k))
 |[],[],_,_=>#[(λd h=>by simp[dS]at h),(λ_=>rfl),rfl]
 |[],x::xs,h,_=>by cases h
 |y::kvs,[],h,_=>by cases h
 |y::kvs,x::xs,h,r=>by
  rw[HG,HG]at h
  injection h with h1 h2
  rw[HG,HG,aE]at r
  let[v,vs,e,g,i]:=r
  injection e with e1 e2
  subst e1 e2
  let[j,l,m]:=pL k h2 i
  by_cases e:y.1=k
  .have c:x.1=k:=h1.trans e
   refine #[λd hd=>?_,λf=>?_,?_]
   .simp[dS,Ie,e]at hd
    subst hd
    exact #[x.2.2,by simp[fo,Ie,c],g]
   .simp[dS,Ie,e]at f
   .simp[e,c]
  .have c:¬x.1=k:=λz=>e (h1.symm.trans z)
   refine #[λd hd=>?_,λf=>?_,?_]
   .obtain⟨v,n,o⟩:=j d (by simpa[dS,Ie,e]using hd)
    exact #[v,by simpa[fo,Ie,c]using n,o]
   .have:=l (by simpa[dS,Ie,e]using f)
    simpa[fo,Ie,c]using this
   .rw[K1,K1,m,KJ e,KJ c]
theorem tS(k:Lc){d:D}{v:V}(r:Rep K H d v):∀{kvs:Lw}{xs:List MB},xs.map (·.1)=kvs.map (·.1)->aE K H (kvs.map (·.2)) (xs.map (·.2.2))->
 (xs.map λx=>if x.1=k then(x.1,x.2.1,v)else x).map (·.1)=(kvs.map λx=>if x.1=k then(x.1,d)else x).map (·.1)/\aE K H ((kvs.map λx=>if x.1=k then(x.1,d)else x).map (·.2)) ((xs.map λx=>if x.1=k then(x.1,x.2.1,v)else x).map (·.2.2))
 |[],[],_,h=>#[8,h]
 |[],x::xs,h,_=>by cases h
 |y::kvs,[],h,_=>by cases h
 |y::kvs,x::xs,h,q=>by
  rw[HG,HG]at h
  injection h with h1 h2
  rw[HG,HG,aE]at q
  let[l,vs,e,i,j]:=q
  injection e with e1 e2
  subst e1 e2
  let[f,g]:=tS k r h2 j
  by_cases e:y.1=k
  .have c:x.1=k:=h1.trans e
   simp only[HG,KI e,KI c]
   exact #[by rw[f];exact congrArg (·::_) h1,by rw[aE];exact #[_,7,r,g]]
  .have c:¬x.1=k:=λz=>e (h1.symm.trans z)
   simp only[HG,KH e,KH c]
   exact #[by rw[f];exact congrArg (·::_) h1,by rw[aE];exact #[_,7,i,g]]
def Cp{kvs:Lw}{xs:List MB}{d:D}{v:V}(h1:xs.map (·.1)=kvs.map (·.1))(h2:aE K H (kvs.map (·.2)) (xs.map (·.2.2)))(c:∀x∈xs,dQ K H x.2.1 x.1)(f:dQ K H b k)(r:Rep K H d v) : (gf xs k b v).map (·.1)=(putD kvs k d).map (·.1)/\aE K H ((putD kvs k d).map (·.2)) ((gf xs k b v).map (·.2.2))/\∀x∈gf xs k b v,dQ K H x.2.1 x.1:=by
 unfold gf putD;rw[(pL k h1 h2).2.2];by_cases e:(kvs.any λx=>decide (x.1=k))=KD
 .rw[KI e,KI e];let[g,h]:=tS k r h1 h2;refine #[g,h,λx hx=>?_];let[y,i,8]:=Iz.mp hx;have:=c y i;by_cases e:y.1=k
  .rw[KI e];exact this
  .rw[KH e];exact this
 .rw[KH e,KH e];refine #[by rw[Ib,Ib,h1];rfl,?_,λx hx=>?_]
  .rw[Ib,Ib];exact h2.append (by rw[HG,HG,JF,JF,aE];exact #[_,7,r,by rw[aE]])
  .rcases HQ.mp hx with z|z
   .exact c x z
   .have:x=(k,b,v):=‹z›
    subst this;exact f
theorem LP.ext{c:r_->Prop}{o:HO}(h:H a=KA (.ext c)):LP K H (upd H a o):=.put (λxs e=>by rw[h]at e;cases e) (λu xs e=>by rw[h]at e;cases e)
theorem LV.wN{kvs:Lw}{xs:List MB}{d:D}{v:V}(P:HL)(w:Il)(h:LV K H M)(hx:∀P w,H a=KA (.ext (b5 P w a xs)))(h1:xs.map (·.1)=kvs.map (·.1))(h2:aE K H (kvs.map (·.2)) (xs.map (·.2.2)))(f:∀x∈xs,dQ K H x.2.1 x.1)(i:dQ K H b k)(r:Rep K H d v) :
 LV K (upd H a (.ext (b5 P w a (gf xs k b v)))) (au M a (ME (putD kvs k d))):=λc u e=>by
 let g:LP K H (upd H a (.ext (b5 P w a (gf xs k b v)))):=.ext (hx P w)
 by_cases ne:c=a
 .subst ne
  rw[ai]at e;cases e
  let[j,l,m]:=Cp h1 h2 f i r
  exact QS.wB #[_,λP w=>aH,j,λx hx=>(m x hx).mono g,l.mono g] (by rw[aH];simp)
 .rw[ak ne]at e
  exact(h c u e).fW g (aG ne)
end
section
variable{X:Cx}
def An:TD:=λ_ M Q=>∀p,M p=KC->Q (.ref p) (au M p (ME []))
theorem ql{pos:Pos}:DE X (.Dict [] [] pos) An:=bf yh λσ H Q a=>by let[δ,M,R,e,d,q,b]:=a;exact(λp c=>b _ _ _ _ (.new c) (by rw[Rep]) (d.Bu _ _ c) (q p (d.fresh c)))
def AN(b ty:TD):TD:=λδ M Q=>b δ M λx c=>ty δ c λy a=>∃l kvs k d,x=.ref l/\y=Ny k/\a l=KA (ME kvs)/\dS kvs k=KA d/\Q d a
theorem jH{o i:sg}{g ty:TD}{pos:Pos}(K:X.A.units+66<IV)(m:DE X o g)(n:DE X i ty)(e:F3 i):DE X (.Subscript o i pos) (AN g ty):=
 bf (xM () m n e) λσ H Q a=>by let[δ,M,R,e,p,q,f]:=a;exact(#[δ,M,_,e,p,q,λx r v H1 g1 h s t=>#[δ,r,_,e.mono g1,s,t,λy L u N w z j c=>by
  let[l,kvs,k,d,ex,B,C,hv,D]:=c
  subst ex B
  rw[Rep]at h;subst h
  let[b,8,sp]:=pY z
  let[xs,h1,h2,E,F]:=j.dsp C
  let[G,I,J]:=(pL k h2 F).1 d hv
  exact #[l,b,xs,k,G,8,8,#[h1 _ _,E,sp],I,f _ _ _ _ (g1.trans w) J j D]]])
def zL(b ty c:TD):Lv:=λB δ M=>c δ M λd e=>b δ e λx f=>ty δ f λy a=>∃l kvs k,x=.ref l/\y=Ny k/\a l=KA (ME kvs)/\kvs.length<1000000/\B.nx δ (au a l (ME (putD kvs k d)))
theorem yY{o i a:sg}{h ty j:TD}{pos c:Pos}(U:X.A.units+66<IV)(z:DE X o h)(C:DE X i ty)(hv:DE X a j)(e:JH a (KA (.Subscript o i c)) pos.line X.env=pure KG:=by rfl):DSt X (.Assign [.Subscript o i c] a pos) (zL h ty j):=
 cy (yp () z C hv e) λD σ H ⟨δ,M,e,E,B,ok,q⟩=>#[δ,M,_,e,E,q,λd F v H1 g1 G I J=>#[δ,F,_,e.mono g1,I,J,λx L u V f m N O=>#[δ,L,_,(e.mono g1).mono f,N,O,λy W Y n g P p ⟨l,kvs,k,ex,Q,R,Z,S⟩=>by
  subst ex Q
  rw[Rep]at m;subst m
  let[b,8,sp]:=pY P
  let[xs,h1,h2,r,T]:=p.dsp R
  let s:xs.length=kvs.length:=by have:=congrArg List.length h2;simpa using this
  let sz:1000000<=HK:=LR rfl
  exists l,b,xs,k,8,8,#[h1 _ _,r,sp],()
  let t:LP X.K n (upd n l (.ext (b5 X.prog X.w l (gf xs k b v)))):=.ext (h1 X.prog X.w)
  exact ok.nx _ _ _ _ (((g1.trans f).trans g).trans t) (e.mono (((g1.trans f).trans g).trans t)) (p.wN _ _ h1 h2 T r sp (G.mono (f.trans g))) S]]]
def Eg(to:TD)(t:Ld):TD:=λδ M Q=>to δ M λx c=>∃l a,x=.ref l/\c l=KA (ME a)/\t δ c λf b=>∃kvs k d,f=[Ny k,d]/\b l=KA (ME kvs)/\kvs.length<1000000/\(∀e,dS kvs k=KA e->Q e b)/\(dS kvs k=KC->Q d (au b l (ME (putD kvs k d))))
theorem AD{o e1 e2:sg}{to:TD}{t:Ld}{f j:Pos}(hu:X.A.units+66<IV)(T:DE X o to)(U:DA X [e1,e2] t)
 (g:JO o "setdefault" X.env (eval o X.env)=eval o X.env:=by rfl)
 (m:((IY j (HC [e1,e2] X.env)).all (λx=>!x.1)&&(Ks j (JK [] X.env)).all (λx=>x.1.isSome)
  && decide ([e1,e2].length+([]:List Keyword).length+(if([]:List Keyword).isEmpty then 0 else 1)<30))=KD:=by rfl)
 (h:(f.endLine==j.line)=KD:=by rfl) (s:HC [e1,e2] X.env=(KG,eval e1 X.env)::HC [e2] X.env:=by rfl) (c:(IY j (HC [e2] X.env)).any (·.1)=KG:=by rfl) :
 DE X (.Call (.Attribute o "setdefault" f) [e1,e2] [] j) (Eg to t):=
 bf (zK () T U g m h s c) λσ H Q ⟨δ,M,R,s,V,q,n⟩=>#[δ,M,_,s,V,q,λx W v H1 g1 E F ⟨l,G,ex,y,Y⟩=>by
  subst ex
  rw[Rep]at E;subst E
  let[z,h0,_]:=F.dsp y
  refine #[l,z,8,h0 _ _,δ,W,_,s.mono g1,F,Y,λds M2 vs I J Z B i=>?_]
  let[kvs,k,d,e,hl,hn,k1,k2]:=i
  subst e
  let[v1,L,8,C,p]:=gc Z
  let[b,8,sp]:=pY C
  let[xs,h1,h2,N,O]:=B.dsp hl
  let P:xs.length=kvs.length:=by have:=congrArg List.length h2;simpa using this
  let sz:1000000<=HK:=LR rfl
  let dv:=pL k h2 O
  refine #[b,L,xs,k,8,#[h1 _ _,N,sp],(),λv' a=>?_,λa=>?_]
  .cases e:dS kvs k with
   |none=>rw[dv.2.1 e]at a;cases a
   |some u=>
    let[D,r,q4]:=dv.1 u e
    rw[a]at r;cases r
    exact n _ _ _ _ (g1.trans J) q4 B (k1 u e)
  .have e:dS kvs k=KC:=by
    cases e:dS kvs k with
    |none=>rfl
    |some u=>
     let[D,r,_]:=dv.1 u e
     rw[a]at r;cases r
   let S:LP X.K I (upd I l (.ext (b5 X.prog X.w l (gf xs k b L)))):=.ext (h1 X.prog X.w)
   exact n _ _ _ _ ((g1.trans J).trans S) (p.mono S) (B.wN _ _ h1 h2 O N sp p) (k2 e)]
end
def two(a t1 b c d:sg)(scope:JB)(pos:Pos):sg:=.ListComp a [#[t1,b,[],0],#[c,d,[],0]] scope pos
def FF(a t1 d e c:sg)(scope:JB)(pos:Pos)(it b:Hn)(env:Env):compTurn (two a t1 d e c scope pos) 0 it b env=(do
 standAt d.pos
 match <-pyNext it with
 |none=>pure (.done .next)
 |some v=>
  JI t1 it v
  Kk t1 env v
  let x <-eval c env
  standAt c.pos
  let x <-Ia c env x
  let _ <-runOwn (.compStart (two a t1 d e c scope pos) 1 (<-holding [x] (pyIter x)) b env) env
  again (.compLoop (two a t1 d e c scope pos) 0 it b env)):=by rfl
def ER(a t1 e c d:sg)(scope:JB)(pos:Pos)(it b:Hn)(env:Env):compTurn (two a t1 e c d scope pos) 1 it b env=(do
 standAt d.pos
 match <-pyNext it with
 |none=>pure (.done .next)
 |some v=>
  JI c it v
  Kk c env v
  (do let _ <-call (.builtin "list.append") [b,<-eval a env])
  again (.compLoop (two a t1 e c d scope pos) 1 it b env)):=by rfl
section
variable{prog:HL}{w:Il}{A:Ig}{R:Result->Hq->Prop}{s:Hq}{elt t1 i1 t2 i2:sg}{scope:JB}{pos:Pos}{it acc:Hn}{env:Env}
def Ck(h0:JE (HI prog w) A (.compLoop (two elt t1 i1 t2 i2 scope pos) 1 it acc env) R s)
 (h:Hy (HI prog w) A (pyIter it) (λa b=>JE (HI prog w) A (.compLoop (two elt t1 i1 t2 i2 scope pos) 1 a acc env) R b) (notedBy (HI prog w) A env λx b=>R (.error x) b) s) :
 JE (HI prog w) A (.compStart (two elt t1 i1 t2 i2 scope pos) 1 it acc env) R s:=by
 refine codeAny_of_tree ?_
 show Hy _ _ ((compStart (two elt t1 i1 t2 i2 scope pos) 1 it acc env).onRaise (λx=>do noteFrame x env;standAt theWindowsPlace)) _ _ s
 refine wpAny_notedAt ?_
 unfold compStart
 show Hy _ _ (ask >>= _) _ _ s
 refine Hl (wpAny_askSetting (wpAny_ite ?_))
 split
 .first
   |exact Hl (Hs (Hs (And.intro rfl h0)))
   |exact Hs (And.intro rfl h0)
 .refine Hl (wpAny_rule ?_)
  show Hy _ _ (standAt i2.pos >>= _) _ _ s
  exact Hl (Jw (Hl (HJ h (λa b c=>Hs (And.intro rfl c)) λ_ _ x=>x)))
def Fg(J:Nat->Hq->Prop)
 (step:∀n s,J n s->Hy (HI prog w) A (pyNext it) (λr b=>match r with
  |none=>R (.ok .next) b
  |some v=>Hy (HI prog w) A (JI t2 it v) (λ_ c=>Hy (HI prog w) A (Kk t2 env v) (λ_ d=>
   Hy (HI prog w) A (eval elt env) (λx f=>Hy (HI prog w) A (call (.builtin "list.append") [acc,x]) (λ_ g=>∃m,m<n/\J m g) Lr f) Lr d) Lr c) Lr b) Lr s)
 (n:Nat) (h:J n s):JE (HI prog w) A (.compLoop (two elt t1 i1 t2 i2 scope pos) 1 it acc env) R s:=by
 let a:∀{E:Hn->Hq->Prop} e i,Lr e i->E e i:=λ_ _ z=>z.elim
 refine codeAny_loop rfl J (λn s j=>?_) n h
 show Hy _ _ (Sem.onRaise (compTurn (two elt t1 i1 t2 i2 scope pos) 1 it acc env) (λx=>do noteFrame x env;theTreesLotGoes x)) _ _ s
 refine wpAny_noted ?_
 rw[ER]
 refine Hl (Jw (Hl (HJ (step n s j) (λr b h1=>?_) a)))
 cases r with
 |none=>exact Hs h1
 |some v=>
  refine Hl (HJ h1 (λ_ c h2=>Hl (HJ h2 (λ_ d k=>?_) a)) a)
  exact Hl (Hl (HJ k (λx f l=>Hl (HJ l (λ_ g o=>Hs (Hs #[8,o])) a)) a))
def Gb(J:Nat->Hq->Prop)(c:∀x,Ia i2 env x=pure x)
 (step:∀n s,J n s->Hy (HI prog w) A (pyNext it) (λr d=>match r with
  |none=>R (.ok .next) d
  |some v=>Hy (HI prog w) A (JI t1 it v) (λ_ g=>Hy (HI prog w) A (Kk t1 env v) (λ_ i=>
   Hy (HI prog w) A (eval i2 env) (λx j=>Hy (HI prog w) A (pyIter x) (λa k=>JE (HI prog w) A (.compStart (two elt t1 i1 t2 i2 scope pos) 1 a acc env) (λr l=>match r with
    |.ok _=>∃m,m<n/\J m l
    |.error e=>False) k) Lr j) Lr i) Lr g) Lr d) Lr s)
 (n:Nat) (h:J n s):JE (HI prog w) A (.compLoop (two elt t1 i1 t2 i2 scope pos) 0 it acc env) R s:=by
 let b:∀{E:Hn->Hq->Prop} e o,Lr e o->E e o:=λ_ _ z=>z.elim
 refine codeAny_loop rfl J (λn s q=>?_) n h
 show Hy _ _ (Sem.onRaise (compTurn (two elt t1 i1 t2 i2 scope pos) 0 it acc env) (λx=>do noteFrame x env;theTreesLotGoes x)) _ _ s
 refine wpAny_noted ?_
 rw[FF]
 refine Hl (Jw (Hl (HJ (step n s q) (λr d h1=>?_) b)))
 cases r with
 |none=>exact Hs h1
 |some v=>
  refine Hl (HJ h1 (λ_ g h2=>Hl (HJ h2 (λ_ i t=>Hl (HJ t (λx j u=>?_) b)) b)) b)
  refine Hl (Jw ?_)
  rw[c]
  refine Hl (Hs ?_)
  refine Hl (IM (HJ u (λa k y=>?_) b))
  refine Hl (wpAny_runOwn (codeAny_mono y (λr l p=>?_)))
  cases r with
  |ok f=>exact Hs #[8,p]
  |error e=>exact p.elim
end
def ED(js:sx)(wi2:TI)(te:TE)(σ:L2.St)(J:It)(H1:Hp)(Q:VK):Prop:=∀D,H1 D=KC->∃W:Nat->Nat->Hp->Prop,(∃m,W 0 m (upd H1 D (.lst [])))/\∀i m H,W i m H->
 (J.stop i H/\Q (.ref D) H)\/(J.go i H/\∀y c,J.yld i H y c->∀o,wi2 (cσ [KA y,o] js σ) c λb h=>∃U:Nat->Nat->Hp->Prop,(∃n,U 0 n h)/\∀j n a,U j n a->
  (b.stop j a/\∃d,d<m/\W (i+1) d a)\/(b.go j a/\∀z e,b.yld j a z e->te (cσ [KA y,KA z] js σ) e λv f=>∃xs,f D=KA (.lst xs)/\xs.length<HK/\∃g,g<n/\U (j+1) g (upd f D (.lst (xs++[v])))))
def BC(js:sx)(a wi2:TI)(te:TE):TE:=λσ H Q=>a σ H λJ H1=>ED js wi2 te σ J H1 Q
section
variable{X:Cx}{x y:Str}{px py pos:Pos}{js:sx}{scope:JB}{elt i1 i2:sg}{te:TE}{wi wi2:TI}{KQ:sm}{σ:L2.St}{H:Hp}{s:Hq}{fp:t_}{it:r4}{tn:Nat->r_->Prop}{J:It}
def Af(c:LO X [x,y] js scope)(hc:X.calm=KD)(p1:∀C s H fp,PI (LX X [x,y] js scope C s H fp) (.Name y py) i2 wi2)(q1:∀(env:Env) x,Ia i2 env x=pure x)(he:∀C s H fp,PE (LX X [x,y] js scope C s H fp) elt te)
 {R:Hn->r4->Result->Hq->Prop} {E:Hn->Hq->Prop} {Q:VK}
 (I:Inv X KQ σ H s) (T:Turn X.prog X.w X.K (.Name x px) J fp it tn) (st:tn 0 s.heap) (hf:∀b∈fp,cJ X KQ H b) (wc:ED js wi2 te σ J H Q)
 (hR:∀D C f F,Inv X KQ σ f F->cJ X KQ f C->(∃m,F.heap.Ns C m)->Q (.ref D) f->R (.ref D) C (.ok .next) F) :
 Hy (HI X.prog X.w) X.A (newList []) (λs0 t0=>Hy (HI X.prog X.w) X.A (Km scope X.env.globals (fq scope.names X.env) [] X.env.qual KC .none (KA X.env)) (λN v0=>
  JE (HI X.prog X.w) X.A (.compStart (two elt (.Name x px) i1 (.Name y py) i2 scope pos) 0 (.ref it) s0 { N with scope:=relabel scope X.env }) (R s0 N.locals) v0) E t0) E s:=by
 let r1:∀C s H fp,PG (LX X [x,y] js scope C s H fp) (.Name x px) (dq 0):=λ_ _ _ _=>fK c 0 rfl
 let s1:∀C s H fp,PG (LX X [x,y] js scope C s H fp) (.Name y py) (dq 1):=λ_ _ _ _=>fK c 1 rfl
 let x0:∀b∈fp,b<s.z:=λb a=>let⟨o,e,_⟩:=T.obj 0 _ st b a;HE e
 let hD:H s.z=KC:=I.hok.fresh (Hu _)
 refine ID (oZ ?_)
 generalize hh:s.heap.push { cls:=.type "list",dict:=KC,data:=.seq ([]:List Hn).toArray }=g
 generalize y0:pushCells (({ s with heap:=g }:Hq).heap.push { cls:=.type "dict",data:=.dict #[] }) scope.names=h
 let k3:∀b o,s.heap.get? b=KA o->g.get? b=KA o:=λb o e=>by rw[<-hh];exact Hr _ e
 let I3:Inv X KQ σ (upd H s.z (.lst [])) { s with heap:=g }:=by
  refine I.laid (t':=s.toks) k3 (Hu _) ?_
  exists IB _,[],0,.nil
  rw[<-hh]
  exact Hx _ rfl
 let k:∀b∈fp,cJ X KQ (upd H s.z (.lst [])) b:=λb a=>#[by rw[aG (HX (x0 b a))];exact(hf b a).1,(hf b a).2]
 let t1:g.objs.size=s.z+1:=by rw[<-hh,J6]
 let z0:∀b∈fp,b<g.objs.size:=λb a=>by rw[t1];exact Jh (x0 b a)
 let k4:∀b o,g.get? b=KA o->h.get? b=KA o:=λb o e=>by rw[<-y0];exact pushCells_keeps _ _ b o (Hr _ e)
 let I4:=mU c I3 k z0 (h':=h) y0.symm k4
 obtain⟨W,⟨m0,w0⟩,b1⟩:=wc _ hD
 let Nj:tn 0 h:=T.keep 0 _ _ st λb a o e=>k4 b o (k3 b o e)
 generalize hX:LX X [x,y] js scope g.objs.size { s with heap:=g } (upd H s.z (.lst [])) fp=X' at I4
 let S:∀{pins':sm}{f:Hp}{l:L2.St}{F:Hq},Inv X' [] l f F->(∀b∈fp,f b=KC)->∀b∈fp,cJ X' [] f b:=λ{pins' f l F} J' hn b a=>by
  subst hX
  let[a1,a2]:=J'.ok.exf b a
  exact #[hn b a,a1,J'.ok.exfs b a,.inl a,a2,λp hp=>absurd (show p∈([]:sm)from hp) (_)]
 let O:JE (HI X.prog X.w) X.A (.compLoop (two elt (.Name x px) i1 (.Name y py) i2 scope pos) 0 (.ref it) (.ref s.z) (lF scope g.objs.size X.env)) (R (.ref s.z) g.objs.size)
  { s with heap:=h }:=by
  refine Gb (λn F=>∃i os f,os.length=2/\Inv X' [] (cσ os js σ) f F/\tn i F.heap/\(∀b∈fp,f b=KC)/\W i n f) (λx=>q1 _ x) ?_ m0 #[0,_,_,by simp,I4,Nj,λb a=>(k b a).1,w0]
  rintro n s5 ⟨i,os,H5,u1,I5,NK,c1,w5⟩
  rcases b1 i n H5 w5 with⟨stop,q⟩|⟨go,step⟩
  .subst hX
   refine HJ (T.done (LX X [x,y] js scope g.objs.size { s with heap:=g } (upd H s.z (.lst [])) fp) rfl rfl rfl hc i [] s5 _ H5 Lr I5 (S (pins':=[]) I5 c1) NK stop) (λr s6 z6=>?_) λ_ _ z=>z
   let[Y,I6]:=z6
   subst Y
   refine hR _ _ H5 s6 (I3.xv I6.os I6.base I6.hok I6.bare λb a=>#[(k b a).2.2.2.1,(k b a).2.1,(k b a).2.2.2.2.1,(k b a).2.2.2.2.2]) (I3.pD (Hu _) I6.free) (let⟨m,hm,_⟩:=I6.loc;#[m,hm]) q
  .subst hX
   refine HJ (T.item (LX X [x,y] js scope g.objs.size { s with heap:=g } (upd H s.z (.lst [])) fp) rfl rfl rfl hc i [] s5 _ H5 Lr I5 (S (pins':=[]) I5 c1) NK go) (λr s6 z6=>?_) λ_ _ z=>z
   let[u,Y,h6]:=z6
   subst Y
   refine HJ h6 (λ_ s7 z7=>?_) λ_ _ z=>z
   let[yv,H7,I7,r7,y7,Mp,v1]:=z7
   let w1:=I7.pinned (S (pins':=[]) I7 v1) (T.obj _ _ Mp)
   obtain⟨o0,o1,rfl⟩:∃o0 o1,os=[o0,o1]:=by
    exact pV u1
   refine HJ (r1 _ _ _ _ _ s7 _ H7 yv u (λl f=>l=cσ [KA yv,o1] js σ/\f=H7) w1 r7 #[8,rfl]) (λ_ s8 Z=>?_) λ_ _ z=>z
   let[m3,H8,I8,e8,x1]:=Z
   subst e8 x1
   let d1:∀{m':Nat}{o2:Option V}{t:Hp}{B:Hq},Inv (LX X [x,y] js scope g.objs.size { s with heap:=g } (upd H s.z (.lst [])) fp) ([]++gN fp s7.heap) (cσ [KA yv,o2] js σ) t B->m'<n->W (i+1) m' t->
    ∃m,m<n/\∃i os f,os.length=2/\Inv (LX X [x,y] js scope g.objs.size { s with heap:=g } (upd H s.z (.lst [])) fp) [] (cσ os js σ) f B/\tn i B.heap/\(∀b∈fp,f b=KC)/\W i m f:=λ{m' o2 t B} G a0 y1=>by
    refine #[m',a0,i+1,_,t,8,G.eZ,T.keep _ _ _ Mp λb a o e=>(G.pin (b,o) (HP _ (HP _ (bN a e)))).1,λb a=>?_,y1]
    let[o',e,d]:=T.obj _ _ Mp b a
    exact(G.pin (b,o') (HP _ (HP _ (bN a e)))).2.1
   refine HJ (p1 _ _ _ _ _ s8 _ _ _ I8 (step yv H8 y7 o1)) (λv2 s9 h9=>HJ h9 (λn3 B z1=>?_) λ_ _ z=>z) λ_ _ z=>z
   obtain⟨b2,c2,d2,J2,t,e2,G,T2,PV,M,U,⟨n0,u0⟩,b0⟩:=z1
   subst e2
   let L:JE (HI X.prog X.w) X.A (.compLoop (two elt (.Name x px) i1 (.Name y py) i2 scope pos) 1 (.ref b2) (.ref s.z) (lF scope g.objs.size X.env)) (λr s6=>match r with
    |.ok _=>∃m,m<n/\∃i os f,os.length=2/\Inv (LX X [x,y] js scope g.objs.size { s with heap:=g } (upd H s.z (.lst [])) fp) [] (cσ os js σ) f s6/\tn i s6.heap/\(∀b∈fp,f b=KC)/\W i m f
    |.error e=>False) B:=by
    refine Fg (λn2 F=>∃j o2 f,Inv (LX X [x,y] js scope g.objs.size { s with heap:=g } (upd H s.z (.lst [])) fp) ([]++gN fp s7.heap) (cσ [KA yv,o2] js σ) f F/\d2 j F.heap/\(∀b∈c2,f b=KC)/\U j n2 f) ?_ n0 #[0,o1,t,G,PV,λb a=>(M b a).1,u0]
    rintro n2 e1 ⟨j,o2,c0,f1,NL,P,f2⟩
    rcases b0 j n2 c0 f2 with⟨d0,m',a0,w'⟩|⟨g2,e0⟩
    .refine HJ (T2.done (LX X [x,y] js scope g.objs.size { s with heap:=g } (upd H s.z (.lst [])) fp) rfl rfl rfl hc j _ e1 _ c0 Lr f1 (λb a=>#[P b a,(M b a).2]) NL d0) (λr h2 f0=>?_) λ_ _ z=>z
     let[Y,j2]:=f0
     subst Y
     exact d1 j2 a0 w'
    .refine HJ (T2.item (LX X [x,y] js scope g.objs.size { s with heap:=g } (upd H s.z (.lst [])) fp) rfl rfl rfl hc j _ e1 _ c0 Lr f1 (λb a=>#[P b a,(M b a).2]) NL g2) (λr h2 g0=>?_) λ_ _ z=>z
     let[u2,Y,k2]:=g0
     subst Y
     refine HJ k2 (λ_ m2 h0=>?_) λ_ _ z=>z
     let[zv,g1,p2,q2,r2,My,h1]:=h0
     let j1:=p2.pinned (λb a=>#[h1 b a,(M b a).2]) (T2.obj _ _ My)
     refine HJ (s1 _ _ _ _ _ m2 _ g1 zv u2 (λl f=>l=cσ [KA yv,KA zv] js σ/\f=g1) j1 q2 #[8,rfl]) (λ_ s2 i0=>?_) λ_ _ z=>z
     let[i3,t2,w2,x2,k1]:=i0
     subst x2 k1
     refine HJ (he _ _ _ _ _ s2 _ _ _ w2 (e0 zv t2 r2)) (λv y2 k0=>?_) λ_ _ z=>z
     let[vv,z2,a3,b3,ys,m1,n1,c3]:=k0
     refine HJ (jU (X:=(LX X [x,y] js scope g.objs.size { s with heap:=g } (upd H s.z (.lst [])) fp)) _ y2 _ z2 (.ref s.z) [vv] (.ref s.z) [v] (λ_ f=>∃n',n'<n2/\U (j+1) n' f) a3 rfl (.cons b3 .nil) #[_,ys,vv,8,8,m1,n1,c3]) (λ_ o3 q0=>?_) λ_ _ z=>z
     let[_,e3,r0,_,n',f3,g3]:=q0
     refine #[n',f3,j+1,_,e3,r0.eZ,T2.keep _ _ _ My λb a o e=>(r0.pin (b,o) (HP _ (HP _ (bN a e)))).1,λb a=>?_,g3]
     let[o',e,d]:=T2.obj _ _ My b a
     exact(r0.pin (b,o') (HP _ (HP _ (bN a e)))).2.1
   exact Ck L (T2.self X.A 0 _ _ _ PV L)
 exact codeAny_compStart_list O (T.self X.A 0 _ _ _ Nj O)
def B6(c:LO X [x,y] js scope)(l:X.calm=KD)(n:PI X (.Name x px) i1 wi)(g:∀C s H fp,PI (LX X [x,y] js scope C s H fp) (.Name y py) i2 wi2)(p:∀C s H fp,PE (LX X [x,y] js scope C s H fp) elt te) (r:∀x,Ia i1 X.env x=pure x:=by intro _;rfl) (i:∀(env:Env) x,Ia i2 env x=pure x:=by intro _ _;rfl) : PE X (two elt (.Name x px) i1 (.Name y py) i2 scope pos) (BC js wi wi2 te):=by intro KQ s σ H Q I h;unfold two;rw[eval_ListComp];refine JP (use:=KC) rfl r (c.xx I.ok) c.kind c.names (LS (n KQ s σ H _ I h) λv K h1=>LS h1 λt L a=>?_);let[it,fp,tn,J,M,e,u,T,st,z,w]:=a;subst e;refine Af (R:=λj C=>compPost (HI X.prog X.w) X.A X.xe KC (EP X KQ σ Q) j C) c l g i p u T st z w λD C B E F f d q=>?_;let[m,G]:=d;exact #[m,G,λN k=>#[.ref D,B,F.turned (t':=E.toks) (λb o ne e=>k.extBut b o ne e) f.1 f.2.1 f.2.2.2.1 f.2.2.2.2.1 f.2.2.2.2.2,8,q]]
end
def FZ(I:OI)(js:sx)(h:MP)(te:TD)(δ:DS)(g:MH)(Q:DK):Prop:=I.n<=1000/\∀p,g p=KC->∃W:Nat->vu->MH->Prop,W 0 [] (au g p (.lst []))/\(∀i b M,i<=I.n->W i b M->I.C M)/\
 (∀i b d M,i<I.n->I.item i=KA d->W i b M->h (cδ [KA d,KC] js δ) M λc k=>c.n<=1000/\∃U:Nat->vu->MH->Prop,U 0 b k/\(∀j a M,j<=c.n->U j a M->c.C M)/\
  (∀j a e M,j<c.n->c.item j=KA e->U j a M->te (cδ [KA d,KA e] js δ) M λv l=>∃f,Sub f l/\f p=KA (.lst a)/\U (j+1) (a++[v]) (au f p (.lst (a++[v]))))/\∀a M,U c.n a M->W (i+1) a M)/\∀b M,W I.n b M->Q (.ref p) M
def BP(a:MP)(js:sx)(b:MP)(te:TD):TD:=λδ M Q=>a δ M λI c=>FZ I js b te δ c Q
def sS{K:Hm}{H:Hp}{d:D}{v:V}(o:Option V)(r:Rep K H d v):Slots K H [KA d,KC] [KA v,o]:=by
 refine #[8,λi e h=>?_]
 match i,h with
 |0,h=>cases h;exact #[v,8,r]
 |1,h=>cases h
theorem sF{K:Hm}{H:Hp}{d e:D}{v u:V}(r:Rep K H d v)(q:Rep K H e u):Slots K H [KA d,KA e] [KA v,KA u]:=iG (.cons r (.cons q .nil))
def xK{K:Hm}{wd KY:MP}{js:sx}{te:TD}{σ:L2.St}{H:Hp}{Q:VK}(h:lift K (BP wd js KY te) σ H Q):BC js (lC K wd) (lC K KY) (lift K te) σ H Q:=by
 let[δ,M,R,L,hM,q,N]:=h;refine #[δ,M,_,L,hM,q,λI M1 H1 J g1 a1 O P p S=>?_];let[hn,O]:=O;let[W,w0,hC,C,done]:=O p (a1.fresh S);refine #[λi m t=>m=I.n-i/\i<=I.n/\LP K H1 t/\∃w M,w.length<=i*1000/\LV K t M/\W i w M,#[I.n,by simp,IB _,.new S,[],_,IB _,a1.lK S .nil,w0],?_];rintro i m t ⟨rfl,T,f,w,x,hl,F,D⟩;by_cases a:i<I.n
 .refine .inr #[P.go i t x a f F (hC _ _ _ T D),λv H3 hy o=>?_];let[V,a3,d,ed,rd]:=P.yld i t x v H3 a f F (hC _ _ _ T D) hy;let q3:=C i w d x a ed D;refine #[cδ [KA d,KC] js δ,x,_,jJ (js:=js) (L.mono ((g1.trans f).trans V)) (sS o rd),a3,q3,λy M4 H4 J2 X a4 Y g=>?_];let[b0,U,u0,k,l,r]:=Y;refine #[λj n z=>n=y.n-j/\j<=y.n/\LP K H4 z/\∃A M,A.length<=i*1000+j/\LV K z M/\U j A M,#[y.n,by simp,IB _,.refl,w,M4,(),a4,u0],?_];rintro j n z ⟨rfl,Z,s,A,B,c0,G,E⟩;by_cases b:j<y.n
  .refine .inr #[g.go j z B b s G (k _ _ _ Z E),λu H6 a0=>?_];let[g6,a6,e,ee,re]:=g.yld j z B u H6 b s G (k _ _ _ Z E) a0;let s6:=jJ (js:=js) (L.mono (((((g1.trans f).trans V).trans X).trans s).trans g6)) (sF (rd.mono ((X.trans s).trans g6)) re);refine #[cδ [KA d,KA e] js δ,B,_,s6,a6,l j A e B b ee E,λvv M' uu H7 g7 r7 a7 c=>?_];let[M8,s8,e8,w8]:=c;let[ts,hx,rs]:=(a7.sub s8) _ _ e8;refine #[ts,hx,?_,y.n-(j+1),(),8,b,((s.trans g6).trans g7).trans (.lst hx),A++[vv],_,by simp;omega,(a7.sub s8).u7 hx (rs.append (.cons r7 .nil)),w8];rw[<-rs.length];let sz:1000000<=HK:=LR rfl;omega
  .obtain rfl:j=y.n:=()
   exact .inl #[g.stop z B s G (k _ _ _ Z E),I.n-(i+1),(),8,a,((f.trans V).trans X).trans s,A,B,(),G,r _ _ E]
 .obtain rfl:i=I.n:=()
  exact .inl #[P.stop t x f F (hC _ _ _ T D),N _ _ _ _ (g1.trans f) (by rw[Rep]) F (done w x D)]
section
variable{X:Cx}{x y:Str}{px py pos:Pos}{js:sx}{scope:JB}{elt i1 i2:sg}{te:TD}{wd KY:MP}
theorem wu(c:LO X [x,y] js scope)(d:X.calm=KD)(e:DI X (.Name x px) i1 wd)(a:∀C s H fp,DI (LX X [x,y] js scope C s H fp) (.Name y py) i2 KY)(f:∀C s H fp,DE (LX X [x,y] js scope C s H fp) elt te) (g:∀x,Ia i1 X.env x=pure x:=by intro _;rfl) (b:∀(env:Env) x,Ia i2 env x=pure x:=by intro _ _;rfl) : DE X (.ListComp elt [#[.Name x px,i1,[],0],#[.Name y py,i2,[],0]] scope pos) (BP wd js KY te):=bf (B6 (te:=lift X.K te) (wi2:=lC X.K KY) c d e a f g b) λ_ _ _ h=>xK h
end
def CN{t b X Y:Int}(a:0<t)(c:0<b){U V:Wl}(g:L5 U)(h:L5 V)(ne:¬(l1 U=l1 V/\l2 U=l2 V)):Iy (QE t b X Y U) (QE t b X Y V)=KG:=by let h1:=jI (X:=X) (Y:=Y) (p:=U.1) (q:=U.2.1) (e:=V.1) (f:=V.2.1) a c g.b h.b;let h2:=jI (X:=X) (Y:=Y) (p:=U.2.2.1) (q:=U.2.2.2) (e:=V.2.2.1) (f:=V.2.2.2) a c g.d h.d;unfold QE Qa;rw[Iy,IT,IT,IT,LG,LG,Bool.and_true,<-J4,decide_eq_false_iff_not,h1,h2];exact ne
abbrev Vc:=Int×Int
def vc(a b:Vc):Int:=NX a.1 a.2 b.1 b.2
def vl(a:Vc):Int:=la a.1 a.2
def kX(a b:Vc):vc b a=-vc a b:=by unfold vc NX;grind
def FQ(b x y z:Vc):vc b y*vc x z=vc b x*vc y z+vc b z*vc x y:=by unfold vc NX;grind
def Di(a b c:Vc)(h:vc a b=0):vc b c*vl a=vc a c*vl b:=by unfold vc NX at *;unfold vl la;grind
def Pw(a b:Vc):Prop:=vc a b=0->vl a*vl b<0
def jA(z:Int):(z<0/\HW z=-1)\/(z=0/\HW z=0)\/(0<z/\HW z=1):=by
 rcases IX z 0 with h|h|h
 .exact .inl #[h,IS h]
 .exact .inr (.inl #[h,by subst h;rfl])
 .exact .inr (.inr #[h,Jb h])
def jG{p q:Int}(h:p*q<0):(p<0/\0<q)\/(0<p/\q<0):=by
 rcases IX p 0 with a|a|a
 .rcases IX q 0 with b|b|b
  .have:=J8 a b;omega
  .subst b;simp at h
  .exact .inl #[a,b]
 .subst a;simp at h
 .rcases IX q 0 with b|b|b
  .exact .inr #[a,b]
  .subst b;simp at h
  .have:=IZ a b;omega
def Wf{a b:Vc}(c:Vc)(z:vc a b=0)(h:vl a*vl b<0):HW (vc b c)=-HW (vc a c):=by
 let e:=Di a b c z;generalize vc b c=p at *;generalize vc a c=q at *;let j:∀{x y:Int},0<x->0<y->0<x*y:=λh1 h2=>IZ h1 h2
 rcases jG h with⟨h1,h2⟩|⟨h1,h2⟩<;>rcases jA p with⟨d,e1⟩|⟨d,e1⟩|⟨d,e1⟩<;>rcases jA q with⟨f,e2⟩|⟨f,e2⟩|⟨f,e2⟩<;>rw[e1,e2]<;>first|rfl|(exfalso;subst_vars;first
  |(let g:=J8 d h1;let i:=Jq f h2;omega)
  |(let g:=Jq d h1;let i:=J8 f h2;omega)
  |(let g:=J9 d h1;let i:=IZ f h2;omega)
  |(let g:=IZ d h1;let i:=J9 f h2;omega)
  |(let g:=J8 d h1;omega)
  |(let g:=Jq d h1;omega)
  |(let g:=J9 d h1;omega)
  |(let g:=IZ d h1;omega)
  |(let i:=J8 f h2;omega)
  |(let i:=Jq f h2;omega)
  |(let i:=J9 f h2;omega)
  |(let i:=IZ f h2;omega))
def Nz(b x y:Vc):Bool:=if HW (vc b x)=HW (vc b y)then decide (vc x y<0)else decide (HW (vc b x)<HW (vc b y))
def l0(b x y:Vc):Nz b x y=KD↔HW (vc b x)<HW (vc b y)\/(HW (vc b x)=HW (vc b y)/\vc x y<0):=by
 unfold Nz;split
 .rename_i h;simp;omega
 .rename_i h;simp;omega
def u5{b x y:Vc}(h1:Pw b x)(h2:Pw b y)(a:Pw x y):Nz b x y=KD\/Nz b y x=KD:=by
 rw[l0,l0];rcases IX (vc x y) 0 with h|h|h
 .omega
 .have o:=a h;let e:=Wf b h o;let e1:vc x b=-vc b x:=kX b x;let e2:vc y b=-vc b y:=kX b y;rw[e1,e2,Int.sign_neg,Int.sign_neg]at e;by_cases ne:HW (vc b x)=HW (vc b y)
  .have c:HW (vc b x)=0:=()
   let d:HW (vc b y)=0:=()
   let f:=jG (h1 (Int.sign_eq_zero_iff_zero.mp c));let g:=jG (h2 (Int.sign_eq_zero_iff_zero.mp d));let i:=jG o;omega
  .omega
 .have:=kX x y;omega
def wq{b x y z:Vc}(h1:Pw b x)(h2:Pw b y)(l:Pw b z)(c:Nz b x y=KD)(a:Nz b y z=KD):Nz b x z=KD:=by
 rw[l0]at *;rcases c with c|⟨c,b1⟩
 .left;rcases a with a|⟨a,d⟩<;>omega
 .rcases a with a|⟨a,d⟩
  .left;omega
  .right;exists ();let i:=FQ b x y z;rcases jA (vc b y)with⟨k,e⟩|⟨k,e⟩|⟨k,e⟩
   .have kx:vc b x<0:=by rcases jA (vc b x)with q|q|q<;>omega
    let f:vc b z<0:=by rcases jA (vc b z)with q|q|q<;>omega
    let g:=J8 kx d;let h:=J8 f b1;rcases IX (vc x z) 0 with q|q|q
    .exact q
    .rw[q]at i;simp at i;omega
    .have:=Jq k q;omega
   .exfalso;let kx:vc b x=0:=by rcases jA (vc b x)with q|q|q<;>omega
    let j:=h1 kx;let e:=Wf y kx j;have:HW (vc x y)=-1:=IS b1;rw[k]at e;simp at e;omega
   .have kx:0<vc b x:=by rcases jA (vc b x)with q|q|q<;>omega
    let f:0<vc b z:=by rcases jA (vc b z)with q|q|q<;>omega
    let g:=J9 kx d;let h:=J9 f b1;rcases IX (vc x z) 0 with q|q|q
    .exact q
    .rw[q]at i;simp at i;omega
    .have:=IZ k q;omega
def Ao{a b c:Vc}(h:Pw a b)(e:Nz a c b=KD)(d:Nz b c a=KD):False:=by
 rw[l0]at e d;let e1:vc b a=-vc a b:=kX a b;let e2:vc c b=-vc b c:=kX b c;let e3:vc c a=-vc a c:=kX a c;rw[e1,Int.sign_neg]at d;rw[e2]at e;rw[e3]at d;by_cases z:vc a b=0
 .have o:=Wf c z (h z);rw[z]at e d;simp at e d;rcases jA (vc a c)with q|q|q<;>rcases jA (vc b c)with r|r|r<;>omega
 .rcases jA (vc a b)with p|p|p<;>rcases jA (vc a c)with q|q|q<;>rcases jA (vc b c)with r|r|r<;>omega
def rev(w:Wl):Wl:=(w.2.2.1,w.2.2.2,w.1,w.2.1)
def fw(ws:vp)(f:Nat):Wl:=if f%2=0 then MA ws ((f/2:Nat):Int)else rev (MA ws ((f/2:Nat):Int))
def fa(ws:vp)(f:Nat):Vc:=((fw ws f).1,(fw ws f).2.1)
def fb(ws:vp)(f:Nat):Vc:=((fw ws f).2.2.1,(fw ws f).2.2.2)
def fd(ws:vp)(f:Nat):Vc:=((fw ws f).2.2.1-(fw ws f).1,(fw ws f).2.2.2-(fw ws f).2.1)
def fx(f:Nat):Nat:=if f%2=0 then f+1 else f-1
def uE(f:Nat):fx f/2=f/2/\(fx f)%2=1-f%2:=by unfold fx;split<;>omega
def Bt(f:Nat):fx (fx f)=f:=by unfold fx;split<;>split<;>omega
def mN{f n:Nat}(h:f<2*n):fx f<2*n:=by unfold fx;split<;>omega
def BI(ws:vp)(f:Nat):fw ws (fx f)=rev (fw ws f):=by
 unfold fw;rw[(uE f).1,(uE f).2];by_cases h:f%2=0
 .rw[KH (),KI h]
 .rw[KI (),KH h];rfl
def mO(ws:vp)(f:Nat):fa ws (fx f)=fb ws f:=by unfold fa fb;rw[BI];rfl
def kW{ws:vp}(d:∀w∈ws,L5 w)(hF:PF ws){g h:Nat}(t:g<2*ws.length)(x:h<2*ws.length)(ne:g≠h)(e:fa ws g=fa ws h):Pw (fd ws g) (fd ws h):=by
 let[g1,_,f]:=eG (ws:=ws) (k:=((g/2:Nat):Int)) () ();let[h1,_,i]:=eG (ws:=ws) (k:=((h/2:Nat):Int)) () ();let U:=d _ f;let V:=d _ i;rw[IJ]at g1 h1;unfold fa at e;let e1:=congrArg Prod.fst e;let e2:=congrArg Prod.snd e;unfold fd;unfold fw at *;by_cases a:g/2=h/2
 .exfalso;rw[<-a]at e1 e2;let lt:=U.lt;unfold l1 l2 la at lt;by_cases p:g%2=0
  .rw[KI p,KH (():¬h%2=0)]at e1 e2;unfold rev at e1 e2;dsimp only at e1 e2;omega
  .rw[KH p,KI (():h%2=0)]at e1 e2;unfold rev at e1 e2;dsimp only at e1 e2;omega
 .have F:=hF _ _ _ _ a g1 h1;generalize MA ws ((g/2:Nat):Int)=u at *;generalize MA ws ((h/2:Nat):Int)=v at *;intro z;let y:=U.lt;let A:=V.lt;unfold vc NX at z;let j:=F.e2;let l:=F.e4;let m:=F.e1;let n:=F.e3;let B:=F.ne;unfold bT at m j n l;unfold vl;by_cases p:g%2=0<;>by_cases q:h%2=0
  .rw[KI p,KI q]at z e1 e2 ⊢;exfalso;simp only[]at z e1 e2;let o:MN u v=0:=by unfold MN sd NX;grind
   let r:MN v u=0:=by unfold MN sd NX;grind
   let s:l1 u=l1 v:=by unfold l1;rw[e1,e2]
   omega
  .rw[KI p,KH q]at z e1 e2 ⊢;unfold rev at *;simp only[]at z e1 e2 ⊢;let b:la (u.2.2.1-u.1) (u.2.2.2-u.2.1)=l2 u-l1 u:=by unfold l1 l2 la;omega
   let c:la (v.1-v.2.2.1) (v.2.1-v.2.2.2)=-(l2 v-l1 v):=by unfold l1 l2 la;omega
   rw[b,c];exact J9 () ()
  .rw[KH p,KI q]at z e1 e2 ⊢;unfold rev at *;simp only[]at z e1 e2 ⊢;let b:la (u.1-u.2.2.1) (u.2.1-u.2.2.2)=-(l2 u-l1 u):=by unfold l1 l2 la;omega
   let c:la (v.2.2.1-v.1) (v.2.2.2-v.2.1)=l2 v-l1 v:=by unfold l1 l2 la;omega
   rw[b,c];exact Jq () ()
  .rw[KH p,KH q]at z e1 e2 ⊢;unfold rev at *;exfalso;simp only[]at z e1 e2;let o:MV u v=0:=by unfold MV sd NX;grind
   let r:MV v u=0:=by unfold MV sd NX;grind
   let s:l2 u=l2 v:=by unfold l2;rw[e1,e2]
   omega
def eB(R:Nat->Nat->Bool)(o:Option Nat)(g:Nat):Option Nat:=match o with
 |none=>KA g
 |some h=>if R g h=KD then KA g else KA h
theorem fold_min{R:Nat->Nat->Bool}{S:Nat->Prop}(a:∀x y,S x->S y->x≠y->R x y=KD\/R y x=KD)(c:∀x y z,S x->S y->S z->R x y=KD->R y z=KD->R x z=KD) :
 ∀(l:sx)(h:Nat),S h->(∀x∈l,S x)->∃m,l.foldl (eB R) (KA h)=KA m/\S m/\(m=h\/m∈l)/\(h=m\/R m h=KD)/\∀x∈l,x=m\/R m x=KD
 |[],h,sh,_=>#[h,8,sh,.inl rfl,.inl rfl,λx hx=>by cases hx]
 |g::l,h,sh,hl=>by
  let d:=hl g (_)
  rw[List.foldl_cons]
  by_cases r:R g h=KD
  .obtain⟨m,e,b,mem,h1,h2⟩:=fold_min a c l g d (λx hx=>hl x (by simp[hx]))
   let f:eB R (KA h) g=KA g:=by unfold eB;simp[r]
   rw[f]
   exists m,e,b,?_,?_
   .rcases mem with z|z
    .right;simp[z]
    .right;simp[z]
   .right
    rcases h1 with z|z
    .rw[<-z];exact r
    .exact c _ _ _ b d sh z r
   .intro x hx
    rcases Iw.mp hx with z|z
    .subst z;exact h1
    .exact h2 x z
  .obtain⟨m,e,b,mem,h1,h2⟩:=fold_min a c l h sh (λx hx=>hl x (by simp[hx]))
   let f:eB R (KA h) g=KA h:=by unfold eB;simp[r]
   rw[f]
   exists m,e,b,?_,h1
   .rcases mem with z|z
    .exact .inl z
    .right;simp[z]
   .intro x hx
    rcases Iw.mp hx with z|z
    .subst z
     by_cases ne:x=h
     .subst ne;exact h1
     .rcases a x h d sh ne with q|q
      .exact absurd q r
      .rcases h1 with z|z
       .right;rw[<-z];exact q
       .right;exact c _ _ _ b sh d z q
    .exact h2 x z
def xP(ws:vp)(f g:Nat):Bool:=decide (fa ws g=fb ws f)&&decide (g≠fx f)
def jV(ws:vp)(f:Nat):sx:=(HM (2*ws.length)).filter (xP ws f)
def Nk(ws:vp)(f g h:Nat):Bool:=Nz (fd ws (fx f)) (fd ws g) (fd ws h)
def bh(ws:vp)(f:Nat):Nat:=((jV ws f).foldl (eB (Nk ws f)) KC).getD (fx f)
def c7{ws:vp}{f g:Nat}:g∈jV ws f↔g<2*ws.length/\fa ws g=fb ws f/\g≠fx f:=by unfold jV xP;simp[J1]
def l3{ws:vp}(i:∀w∈ws,L5 w)(hF:PF ws){f:Nat}(j:f<2*ws.length):(jV ws f=[]/\bh ws f=fx f)\/(bh ws f∈jV ws f/\∀x∈jV ws f,x=bh ws f\/Nk ws f (bh ws f) x=KD):=by
 unfold bh;cases c:jV ws f with
 |nil=>exact .inl #[8,rfl]
 |cons g l=>
  right
  let sub:∀x∈g::l,x<2*ws.length/\fa ws x=fb ws f/\x≠fx f:=λx hx=>c7.mp (by rw[c];exact hx)
  let d:∀x,(x<2*ws.length/\fa ws x=fb ws f/\x≠fx f)->Pw (fd ws (fx f)) (fd ws x):=λx hx=>kW i hF (mN j) hx.1 (λz=>hx.2.2 z.symm) (by rw[mO,hx.2.1])
  let[m,e,o,mem,h1,h2]:=fold_min (R:=Nk ws f) (S:=λx=>x<2*ws.length/\fa ws x=fb ws f/\x≠fx f) (λx y hx h ne=>u5 (d x hx) (d y h) (kW i hF hx.1 h.1 ne (by rw[hx.2.1,h.2.1]))) (λx y z hx h k a b=>wq (d x hx) (d y h) (d z k) a b) l g (sub g (_)) (λx hx=>sub x (by simp[hx]))
  rw[List.foldl_cons]
  let n:eB (Nk ws f) KC g=KA g:=rfl
  rw[n,e]
  simp only[Option.getD_some]
  refine #[by rcases mem with z|z<;>simp[z],λx hx=>?_]
  rcases Iw.mp hx with z|z
  .subst z;exact h1
  .exact h2 x z
def E2{ws:vp}(b:∀w∈ws,L5 w)(hF:PF ws){f:Nat}(a:f<2*ws.length):bh ws f<2*ws.length:=by
 rcases l3 b hF a with⟨_,e⟩|⟨h,_⟩
 .rw[e];exact mN a
 .exact(c7.mp h).1
def BF{ws:vp}(a:∀w∈ws,L5 w)(hF:PF ws){f:Nat}(b:f<2*ws.length):fa ws (bh ws f)=fb ws f:=by
 rcases l3 a hF b with⟨_,e⟩|⟨h,_⟩
 .rw[e,mO]
 .exact(c7.mp h).2.1
def Dc{ws:vp}(a:∀w∈ws,L5 w)(hF:PF ws){f g:Nat}(b:f<2*ws.length)(d:g<2*ws.length)(e:bh ws f=bh ws g):f=g:=by
 by_cases ne:fx f=fx g
 .rw[<-Bt f,ne,Bt]
 .exfalso;let c:fb ws f=fb ws g:=by rw[<-BF a hF b,<-BF a hF d,e]
  let h:fx g∈jV ws f:=c7.mpr #[mN d,by rw[mO,c],λz=>ne z.symm];let i:fx f∈jV ws g:=c7.mpr #[mN b,by rw[mO,c],ne];rcases l3 a hF b with⟨z,_⟩|⟨k,l⟩
  .rw[z]at h;cases h
  .rcases l3 a hF d with⟨z,_⟩|⟨m,n⟩
   .rw[z]at i;cases i
   .have n1:=(c7.mp k).2.2;let n2:=(c7.mp m).2.2;let o:=(l _ h).resolve_left (λz=>n2 (by rw[<-e,<-z]));let j:=(n _ i).resolve_left (λz=>n1 (by rw[e,<-z]));rw[<-e]at j;exact Ao (kW a hF (mN b) (mN d) ne (by rw[mO,mO,c])) o j
def Mz(ws:vp)(f:Nat):Nat->Nat
 |0=>f
 |k+1=>bh ws (Mz ws f k)
def rn(ws:vp)(f k:Nat):sx:=(HM (k+1)).map (Mz ws f)
def NR(ws:vp)(f k:Nat):Prop:=∀i j,i<j->j<=k->Mz ws f i≠Mz ws f j
def kn(ws:vp)(f k:Nat):(rn ws f k).length=k+1:=by simp[rn]
def Ar(ws:vp)(f k:Nat):rn ws f (k+1)=rn ws f k++[Mz ws f (k+1)]:=by unfold rn;rw[Kb,Ib];rfl
theorem yX:∀(m:Nat)(l:sx),l.Nodup->(∀x∈l,x<m)->l.length<=m
 |0,l,_,h=>by
  cases l with
  |nil=>simp
  |cons a l=>exact absurd (h a (_)) ()
 |m+1,l,nd,h=>by
  let h1:=yX m (l.erase m) (nd.erase m) (λx hx=>by
   have:=h x (List.mem_of_mem_erase hx)
   let ne:x≠m:=λz=>by
    subst z
    exact absurd hx (nd.not_mem_erase)
   omega)
  have:=List.length_erase_le (a:=m) (l:=l)
  by_cases b:m∈l
  .have:=List.length_erase_of_mem b;omega
  .rw[List.erase_of_not_mem b]at h1;omega
section
variable{ws:vp}(hU:∀w∈ws,L5 w)(hF:PF ws){f:Nat}(hf:f<2*ws.length)
include hU hF hf
theorem j8:∀k,Mz ws f k<2*ws.length
 |0=>hf
 |k+1=>E2 hU hF (j8 k)
theorem zW{k:Nat}(h:NR ws f k)(ne:bh ws (Mz ws f k)≠f):NR ws f (k+1):=λi j a b e=>by
 by_cases q:j<=k
 .exact h i j a q e
 .have:j=k+1:=()
  subst this;cases i with
  |zero=>exact ne e.symm
  |succ i=>exact h i k () (Hu _) (Dc hU hF (j8 hU hF hf i) (j8 hU hF hf k) e)
def tM{k:Nat}(h:NR ws f k):k+1<=2*ws.length:=by
 rw[<-kn ws f k];refine yX _ _ ?_ (λx hx=>?_)
 .unfold rn;rw[List.nodup_iff_pairwise_ne,List.pairwise_map];refine List.Pairwise.imp_of_mem ?_ (List.pairwise_lt_range (n:=k+1));intro a b e d c;exact h a b c (by have:=List.mem_range.mp d;omega)
 .unfold rn at hx;let[i,_,8]:=Iz.mp hx;exact j8 hU hF hf i
end
structure Zj(ws:vp)(r:sx):Prop where
 ex:∃f k,f<2*ws.length/\k+1<=2*ws.length/\r=rn ws f k/\bh ws (Mz ws f k)=f
theorem zE(ws:vp)(f:Nat):NR ws f 0:=λi j a b=>()
def zT{n d:Int}(hd:0<d):((Rat.divInt n d).den:Int) ∣ d:=by rw[Rat.den_divInt,KH ()];let h1:d.natAbs/d.gcd n ∣ d.natAbs:=Nat.div_dvd_of_dvd (Int.ofNat_dvd_left.mp (Int.gcd_dvd_left d n));exact Int.ofNat_dvd_left.mpr h1
section
variable{X:Cx}
def EB:Lx:=OD (λ_ _=>True) λi j=>.int (Builtin.bitXor i j)
theorem CT:MF X (JL .BitXor) EB:=eF (Qt DB) λ_ _ _=>by rw[Rep]
variable{o:sg}{to:TD}{apos KW:Pos}
end
theorem CJ:∀f:Nat,f<80->Builtin.bitXor (f:Int) 1=((fx f:Nat):Int):=⋯
def Qb(n:Nat)(S:Int->Bool):Hm->Hp->r4->Prop:=λK H a=>∃kvs:List (Key×V),H a=KA (.dK kvs)/\kvs.length<=n/\∀i:Int,(kvs.any λb=>decide (b.1=Sum.inl i))=S i
def Pl(n:Nat)(S:Int->Bool):MO:=.gen (Qb n S)
section
variable{K:Hm}{H H':Hp}{M:MH}{a:r4}
theorem Qb.wB{n:Nat}{S:Int->Bool}(h:Qb n S K H a):nD K H a (Pl n S):=#[h,(by let[kvs,h1,_]:=h;rw[h1];simp),λH' g e=>let⟨kvs,h1,h2⟩:=h;#[kvs,e.trans h1,h2]]
theorem LV.di{n:Nat}{S:Int->Bool}(h:LV K H M)(e:M a=KA (Pl n S)):Qb n S K H a:=(h a _ e).1
theorem LV.E9{p:r4}(h:LV K H M)(b:H p=KC):LV K (upd H p (.dK [])) (au M p (Pl 0 λ_=>KG)):=λa u e=>by
 by_cases ne:a=p
 .subst ne;rw[ai]at e;cases e;exact Qb.wB #[[],aH,Hu _,λ_=>rfl]
 .rw[ak ne]at e;exact(h a u e).fW (.new b) (aG ne)
theorem LP.dK{kvs:List (Key×V)}{o:HO}(h:H a=KA (.dK kvs)):LP K H (upd H a o):=.put (λxs e=>by rw[h]at e;cases e) (λu xs e=>by rw[h]at e;cases e)
theorem LV.E5{n:Nat}{S:Int->Bool}{kvs:List (Key×V)}{i:Int}{v:V}(h:LV K H M)(hx:H a=KA (.dK kvs))(f:kvs.length<=n)(b:∀i:Int,(kvs.any λd=>decide (d.1=Sum.inl i))=S i) : LV K (upd H a (.dK (putK kvs (.inl i) v))) (au M a (Pl (n+1) λj=>decide (j=i)||S j)):=λc u e=>by
 by_cases ne:c=a
 .subst ne;rw[ai]at e;cases e;refine Qb.wB #[_,aH,by have:=ig kvs (.inl i) v;omega,λj=>?_];rw[ff,yc];by_cases z:j=i
  .subst z;rw[KI rfl];simp
  .rw[KH (λq=>z (by injection q)),<-ff,b];simp[z]
 .rw[ak ne]at e;exact(h c u e).fW (.dK hx) (aG ne)
end
section
variable{X:Cx}{pos:Pos}
def Ca:TD:=λ_ M Q=>∀p,M p=KC->Q (.ref p) (au M p (Pl 0 λ_=>KG))
theorem wL:DE X (.Dict [] [] pos) Ca:=bf xt λσ H Q a=>by let[δ,M,R,e,d,q,b]:=a;exact(λp c=>b _ _ _ _ (.new c) (by rw[Rep]) (d.E9 c) (q p (d.fresh c)))
def BM(g:Bool->Bool)(ty b:TD):TD:=λδ M Q=>ty δ M λy c=>b δ c λx a=>∃i l n S,y=.int i/\x=.ref l/\a l=KA (Pl n S)/\Q (.bl (g (S i))) a
def AG{K:Hm}{g:Bool->Bool}{ty e:TD}{σ:L2.St}{H:Hp}{Q:VK}(h:lift K (BM g ty e) σ H Q) : (lift K ty) σ H λy H1=>(lift K e) σ H1 λx c=>∃a o,x=.ref a/\DU c a y o/\Q (.bl (g o.isSome)) c:=by let[δ,M,R,f,p,q,d]:=h;refine #[δ,M,_,f,p,q,λy r v H1 g1 j s t=>#[δ,r,_,f.mono g1,s,t,λx D u c w k m b=>?_]];let[i,l,n,S,z,ex,A,B]:=b;subst z ex;rw[Rep]at j;rw[Rep]at k;subst j k;let[kvs,h1,h2,C]:=m.di A;exists l,fY kvs (.inl i),8,.inl #[kvs,.inl i,.inl h1,8,rfl];rw[<-ff,C];exact d _ _ _ _ (g1.trans w) (by rw[Rep]) m B
variable{e1 e2:sg}{ty td:TD}
theorem rE(n:X.A.units+66<IV)(h1:DE X e1 ty)(h2:DE X e2 td)(j:K0 .NotIn e2=KG:=by rfl):DT X (.Compare e1 [.NotIn] [e2] pos) (tBD (BM (λb=>!b) ty td)):=
 iT (El (vb () h1 h2) j) λσ H Q e=>by let[δ,M,R,k,l,q,h]:=e;exact(AG (g:=λb=>!b) (Q:=λx i=>∃c,x=.bl c/\Q c i) #[δ,M,_,k,l,q,λd o v i g r a f=>by
  let[c,m,z]:=f
  subst m
  rw[Rep]at r;subst r
  exact #[c,8,h _ _ _ g a z]])
def C6(td ty b:TD):Lv:=λB δ M=>b δ M λd c=>td δ c λx e=>ty δ e λy a=>∃l i n S,x=.ref l/\y=.int i/\a l=KA (Pl n S)/\n<1000000/\B.nx δ (au a l (Pl (n+1) λj=>decide (j=i)||S j))
theorem ye{o i a:sg}{h:TD}{b:Pos}(Q:X.A.units+66<IV)(t:DE X o td)(w:DE X i ty)(hv:DE X a h)(f:JH a (KA (.Subscript o i b)) pos.line X.env=pure KG:=by rfl):DSt X (.Assign [.Subscript o i b] a pos) (C6 td ty h):=
 cy (Bh () t w hv f) λD σ H c=>by let[δ,M,f,z,B,ok,q]:=c;exact(#[δ,M,_,f,z,q,λd C v H1 g1 R E F=>#[δ,C,_,f.mono g1,E,F,λx G u T g j I J=>#[δ,G,_,(f.mono g1).mono g,I,J,λy U V k m p r e=>by
  let[l,i,n,S,ex,L,N,W,O]:=e
  subst ex L
  rw[Rep]at j;rw[Rep]at p;subst j p
  let[kvs,h1,h2,P]:=r.di N
  let sz:1000000<=HK:=LR rfl
  let s:LP X.K k (upd k l (.dK (putK kvs (.inl i) v))):=.dK h1
  exact #[l,7,.inl #[kvs,.inl i,h1,8,(),rfl],ok.nx _ _ _ _ (((g1.trans g).trans m).trans s) (f.mono (((g1.trans g).trans m).trans s)) (r.E5 h1 h2 P) O]]]])
end
def Gz(ws:vp)(f:Nat)(r:sx):Prop:=∃a,NR ws f a/\bh ws (Mz ws f a)=f/\r=rn ws f a
def WQ(ws:vp):Nat->sq->Prop
 |0,rs=>rs=[]
 |i+1,rs=>∃qs,WQ ws i qs/\((i∈qs.flatten/\rs=qs)\/(i∉qs.flatten/\∃r,Gz ws i r/\rs=qs++[r]))
def RL(M:MH)(ps:t_)(a:sq):Prop:=Kt (λ(p:r4) (r:sx)=>M p=KA (.lst (r.map v_))) ps a
def RL.len{M:MH}{ps:t_}{a:sq}(h:RL M ps a):ps.length=a.length:=by
 unfold RL at h
 induction h with
 |nil=>rfl
 |cons _ _ b=>rw[Ih,Ih,b]
def RL.mono{M b:MH}{ps:t_}{c:sq}(h:RL M ps c)(s:∀p∈ps,∀o,M p=KA o->b p=KA o):RL b ps c:=by
 unfold RL at *
 induction h with
 |nil=>exact .nil
 |cons a _ d=>exact .cons (s _ (_) _ a) (d λp f o e=>s p (by simp[f]) o e)
theorem RL.snoc{M:MH}{ps:t_}{a:sq}{p:r4}{r:sx}(h:RL M ps a)(e:M p=KA (.lst (r.map v_))):RL M (ps++[p]) (a++[r]):=Paired.snoc h e
section
variable{α β:Type}{n:Nat}{k:vi}
def Nm(n:Nat)(k:vi){α:Type}:PySem.W.KasT α->(α->Prop)->Prop
 |.ret a,Q=>Q a
 |.ask i j f,Q=>i<n/\j<n/\Nm n k (f (decide (k i<k j))) Q
theorem gb{f:α->PySem.W.KasT β}{Q:β->Prop}:∀(t:PySem.W.KasT α),Nm n k t (λa=>Nm n k (f a) Q)->Nm n k (t.bind f) Q
 |.ret _,h=>h
 |.ask i j g,h=>#[h.1,h.2.1,gb _ h.2.2]
theorem dh{Q R:α->Prop}(b:∀a,Q a->R a):∀(t:PySem.W.KasT α),Nm n k t Q->Nm n k t R
 |.ret _,h=>b _ h
 |.ask i j g,h=>#[h.1,h.2.1,dh b _ h.2.2]
theorem tO{b:Nat->Nat->(Bool->Hq->Prop)->Hq->Prop}{s:Hq}(c:∀i j (C:Bool->Hq->Prop),i<n->j<n->C (decide (k i<k j)) s->b i j C s){Q:α->Hq->Prop}:∀(t:PySem.W.KasT α),Nm n k t (λa=>Q a s)->t.kasWp b Q s
 |.ret _,h=>h
 |.ask i j g,h=>c i j _ h.1 h.2.1 (tO c _ h.2.2)
structure Ly(n:Nat)(p:Array Nat):Prop where
 perm:p.Perm (HM n).toArray
def Ly.size{p:Array Nat}(h:Ly n p):p.size=n:=by have:=h.perm.size_eq;simpa using this
def Ly.lt{p:Array Nat}(h:Ly n p){i:Nat}(b:i<n):p.getD i 0<n:=by
 let a:i<p.size:=by rw[h.size];exact b
 have:p[i]∈(HM n).toArray:=h.perm.mem_iff.mp (Array.getElem_mem a);simpa[Array.getD,a]using this
def Ly.inj{p:Array Nat}(h:Ly n p){i j:Nat}(f:i<n)(g:j<n)(e:p.getD i 0=p.getD j 0):i=j:=by
 let a:i<p.size:=by rw[h.size];exact f
 let b:j<p.size:=by rw[h.size];exact g
 let nd:p.toList.Nodup:=(Array.perm_iff_toList_perm.mp h.perm).nodup_iff.mpr ‹List.nodup_range›;let c:p.toList[i]=p.toList[j]:=by simpa[Array.getD,a,b]using e
 let d:=Ja.mp nd;rcases Nat.lt_trichotomy i j with h|h|h
 .exact absurd c (d i j _ _ h)
 .exact h
 .exact absurd c.symm (d j i _ _ h)
def ky(k:vi)(p:Array Nat)(i:Nat):Int:=k (p.getD i 0)
def Inj(n:Nat)(k:vi):Prop:=∀i j,i<n->j<n->k i=k j->i=j
theorem tf(d:Inj n k){p:Array Nat}(h:Ly n p){i j:Nat}(b:i<n)(c:j<n)(a:i≠j):ky k p i≠ky k p j:=λe=>a (h.inj b c (d _ _ (h.lt b) (h.lt c) e))
def Up(k:vi)(p:Array Nat)(m:Nat):Prop:=∀i j,i<j->j<m->ky k p i<ky k p j
def Dn(k:vi)(p:Array Nat)(m:Nat):Prop:=∀i j,i<j->j<m->ky k p j<ky k p i
theorem A1{p:Array Nat}{m:Nat}(h1:1<=m)(h:Up k p m)(h2:ky k p (m-1)<ky k p m):Up k p (m+1):=λi j a c=>by
 by_cases e:j=m
 .subst e;by_cases b:i=j-1
  .subst b;exact h2
  .have:=h i (j-1) () ();omega
 .exact h i j a ()
theorem AZ{p:Array Nat}{m:Nat}(h1:1<=m)(h:Dn k p m)(h2:ky k p m<ky k p (m-1)):Dn k p (m+1):=λi j a c=>by
 by_cases e:j=m
 .subst e;by_cases b:i=j-1
  .subst b;exact h2
  .have:=h i (j-1) () ();omega
 .exact h i j a ()
theorem pM(b:Inj n k){p:Array Nat}(a:Ly n p):∀(f m:Nat),1<=m->m+f=n->Up k p m->Nm n k (PySem.W.kas_asc p f m) λr=>m<=r/\r<=n/\Up k p r/\(r=n\/ky k p r<ky k p (r-1))
 |0,m,h1,e,u=>#[Hu _,(),u,.inl ()]
 |f+1,m,h1,e,u=>by
  exists a.lt (),a.lt ()
  by_cases c:k (p.getD m 0)<k (p.getD (m-1) 0)
  .rw[KL c]
   exact #[Hu _,(),u,.inr c]
  .rw[KJ c]
   let ne:=tf b a (i:=m) (j:=m-1) () () ()
   refine dh (λr h=>#[(),h.2]) _ (pM b a f (m+1) () () (A1 h1 u ?_))
   unfold ky at ne ⊢;omega
theorem qO(b:Inj n k){p:Array Nat}(a:Ly n p):∀(f m:Nat),1<=m->m+f=n->Dn k p m->Nm n k (PySem.W.kas_desc f p m 0) λr=>r.1=p/\r.2.2=0/\m<=r.2.1/\r.2.1<=n/\Dn k p r.2.1
 |0,m,h1,e,u=>#[8,8,Hu _,by show m<=n;omega,u]
 |f+1,m,h1,e,u=>by
  exists a.lt (),a.lt ()
  by_cases c:k (p.getD m 0)<k (p.getD (m-1) 0)
  .rw[KL c]
   exact dh (λr h=>#[h.1,h.2.1,(),h.2.2.2]) _ (qO b a f (m+1) () () (AZ h1 u c))
  .rw[KJ c]
   let ne:=tf b a (i:=m) (j:=m-1) () () ()
   let d:k (p.getD (m-1) 0)<k (p.getD m 0):=by unfold ky at ne;omega
   exists a.lt (),a.lt ()
   rw[KL d]
   exact #[8,8,Hu _,by show m<=n;omega,u]
def getD_eq(p:Array Nat)(i:Nat):p.getD i 0=(p[i]?).getD 0:=by simp[Array.getD_eq_getD_getElem?]
theorem uM{p:Array Nat}{m:Nat}(a:Ly n p):Ly n (PySem.W.kas_rev p 0 m):=⟨(mirror_perm _ _ _ _).trans a.perm⟩
theorem Cf{p:Array Nat}{m:Nat}(a:Ly n p)(b:m<=n)(h:Dn k p m):Up k (PySem.W.kas_rev p 0 m) m:=λi j c d=>by unfold ky PySem.W.kas_rev;rw[getD_eq,getD_eq,getElem?_mirror_all (by rw[a.size];exact b),getElem?_mirror_all (by rw[a.size];exact b),KI #[(),()],KI #[(),d],<-getD_eq,<-getD_eq];exact h (0+m-1-j) (0+m-1-i) () ()
theorem uO(b:Inj n k){p:Array Nat}(a:Ly n p){m:Nat}(h1:1<=m)(c:m<=n)(d:Dn k p m):Nm n k (PySem.W.kas_tail3 m n p) λr=>Ly n r.2/\1<=r.1/\r.1<=n/\Up k r.2 r.1:=gb _ (dh (λr h=>show Ly n _/\_ from #[uM a,by show 1<=r;omega,h.2.1,h.2.2.1]) _ (pM b (uM a) (n-m) m h1 () (Cf a c d)))
def vL(b:Inj n k)(t:2<=n){p:Array Nat}(a:Ly n p):Nm n k (PySem.W.kas_count n p) λr=>Ly n r.2/\1<=r.1/\r.1<=n/\Up k r.2 r.1:=by
 refine gb _ (dh (λr h=>?_) _ (pM b a (n-1) 1 (Hu _) () λi j c l=>()));let[f,g,u,m]:=h;by_cases e:r=n
 .rw[KI (by simp[e])];exact #[a,f,g,u]
 .rw[KH (by simp[e])];by_cases e1:r>1
  .rw[KI e1];exists a.lt (),a.lt ();have:k (p.getD 0 0)<k (p.getD (r-1) 0):=u 0 (r-1) () ();rw[KL this];exact #[a,f,g,u]
  .rw[KH e1];let o:r=1:=()
   subst o;refine gb _ (dh (λq h=>?_) _ (qO b a (n-(1+1)) (1+1) () () λi j c l=>?_))
   .obtain⟨e2,e3,e4,s,d⟩:=h;rw[KH (by rw[e3];exact Kh 0),e2];exact uO b a () s d
   .obtain rfl:i=0:=()
    obtain rfl:j=1:=()
    exact m.resolve_left e
theorem j7(h:Inj n k){p:Array Nat}(g:Ly n p){m:Nat}(d:m<n)(u:Up k p m):∀(f l r:Nat),r<=l+f->l<=r->r<=m->(∀i,i<l->ky k p i<ky k p m)->(∀i,r<=i->i<m->ky k p m<ky k p i)->
 Nm n k (PySem.W.kas_place p m f l r) λx=>x<=m/\(∀i,i<x->ky k p i<ky k p m)/\(∀i,x<=i->i<m->ky k p m<ky k p i)
 |0,l,r,h1,h2,h3,a,b=>#[(),a,λi o d=>b i () d]
 |f+1,l,r,h1,h2,h3,a,b=>by
  show Nm n k (if l≥r then _ else _) _
  by_cases e:l≥r
  .rw[KI e]
   exact #[(),a,λi o d=>b i () d]
  .rw[KH e]
   exists g.lt d,g.lt ()
   by_cases c:k (p.getD m 0)<k (p.getD ((l+r)/2) 0)
   .rw[KL c]
    refine j7 h g d u f l ((l+r)/2) () () () a λi o q=>?_
    by_cases s:i=(l+r)/2
    .subst s;exact c
    .have:=u ((l+r)/2) i () q
     unfold ky at this ⊢;omega
   .rw[KJ c]
    let ne:=tf h g (i:=m) (j:=(l+r)/2) d () ()
    refine j7 h g d u f ((l+r)/2+1) r () () h3 (λi o=>?_) b
    by_cases s:i=(l+r)/2
    .subst s;unfold ky at ne ⊢;omega
    .have:=u i ((l+r)/2) () ()
     unfold ky at ne this ⊢;omega
def xA{p:Array Nat}(a:Ly n p){m x:Nat}(b:m<n)(hx:x<=m)(i:Nat):ky k (bubble p m (m-x)) i=if i=x then ky k p m else if x<i/\i<=m then ky k p (i-1)else ky k p i:=by
 unfold ky;rw[getD_eq,getElem?_bubble (by rw[a.size];exact b) _ (),show m-(m-x)=x by omega];split
 .rw[<-getD_eq]
 .split
  .rw[<-getD_eq]
  .rw[<-getD_eq]
theorem uz(g:Inj n k):∀(f:Nat)(p:Array Nat)(m:Nat),Ly n p->m+f=n->Up k p m->Nm n k (PySem.W.kas_bin f p m) λq=>Ly n q/\Up k q n
 |0,p,m,hp,e,u=>#[hp,by rw[show n=m by omega];exact u]
 |f+1,p,m,hp,e,u=>by
  let c:m<n:=()
  refine gb _ (dh (λx h=>?_) _ (j7 g hp c u m 0 m () () (Hu _) (λi l=>()) λi l o=>()))
  let[hx,a,b]:=h
  refine uz g f _ (m+1) ⟨(bubble_perm _ _ _).trans hp.perm⟩ () λi j d r=>?_
  rw[xA hp c hx,xA hp c hx]
  by_cases e1:i=x
  .rw[KI e1,KH (),KI #[(),()]]
   exact b _ () ()
  .rw[KH e1]
   by_cases e2:x<i
   .rw[KI #[e2,()],KH (),KI #[(),()]]
    exact u _ _ () ()
   .rw[KH ()]
    by_cases e3:j=x
    .rw[KI e3];exact a i ()
    .rw[KH e3]
     by_cases e4:x<j
     .rw[KI #[e4,()]]
      by_cases s:i=j-1
      .omega
      .exact u _ _ () ()
     .rw[KH ()]
      exact u _ _ d ()
def yB(a:Inj n k)(c:2<=n):Nm n k (PySem.W.kas_sort n) λp=>Ly n p/\Up k p n:=by
 refine gb _ (dh (λr h=>?_) _ (vL a c (p:=(HM n).toArray) ⟨Array.Perm.refl _⟩));let[b,h1,h2,u]:=h;by_cases e:r.1<n
 .rw[KI e,show max r.1 1=r.1 by omega];exact uz a _ _ _ b () u
 .rw[KH e];have:r.1=n:=()
  exact #[b,by rw[this]at u;exact u]
end
section
variable{prog:HL}{w:Il}{A:Ig}{E:Hn->Hq->Prop}{s:Hq}
abbrev nF(h:r_)(a:r4)(vs:List Hn):r_:=((h.update a (IK λ_=>#[])).push (IC "tuple" vs.toArray 0)).push (IC "list" #[] 0)
theorem A4{h:r_}{a:r4}{vs:List Hn}{n:Nat}(b:h.get? a=KA (IC "list" vs.toArray n)):∃e,(h.update a (IK λ_=>#[])).get? a=KA (IC "list" #[] e)/\(nF h a vs).get? a=KA (IC "list" #[] e):=#[_,get?_update_seq b (λ_=>#[]),Hr _ (Hr _ (get?_update_seq b (λ_=>#[])))]
theorem yk{h:r_}{a b:r4}{vs:List Hn}{o:Obj}(c:b≠a)(e:h.get? b=KA o):(nF h a vs).get? b=KA o:=Hr _ (Hr _ (((IU h a (IK λ_=>(#[]:Array Hn))).2 b c).trans e))
def gz(vs:List Hn)(p:Array Nat):Array Hn:=HZ (p.toList.map λi=>vs.getD i Value.none)
def yf{a:r4}{vs:List Hn}{n:Nat}{k:vi}{κ:SortKind}{P:PySem.Fin->Hq->Prop}(m:s.heap.get? a=KA (IC "list" vs.toArray n))(o:vs.length<64)(d:Inj vs.length k)
 (y:2<=vs.length->∀(R:SortKind->Hq->Prop)(z:Hn->Hq->Prop),R κ { s with heap:=nF s.heap a vs }->Hy (HI prog w) A (keyKind' vs.toArray) R z { s with heap:=nF s.heap a vs })
 (B:∀i j (C:Bool->Hq->Prop),i<vs.length->j<vs.length->C (decide (k i<k j)) { s with heap:=nF s.heap a vs }->PySem.W.kas_ask prog w A κ vs i j C { s with heap:=nF s.heap a vs })
 (h:∀p,Ly vs.length p->Up k p vs.length->P (.done (.ret .none)) { s with heap:=sortedHeap s.heap a vs (gz vs p) }):Hy (HI prog w) A (Kd.«list.sort» #[[.ref a],[]]) P E s:=by
 let[e,r,b]:=A4 (vs:=vs) m
 rw[list_sort_plain]
 refine Hl (listItems_at m rfl (Hl (listUpdate_at m rfl ?_ (by rw[HD,J7];omega) (IB _))))
 refine Hl (seqEpoch_at r rfl (Hl (wpAny_newTuple ?_ (by show vs.length<=_;rw[J7];omega))))
 refine Hl (wpAny_newList (IM ?_) (IB _))
 show Hy (HI prog w) A _ P E { s with heap:=nF s.heap a vs }
 dsimp only
 by_cases h2:¬2<=vs.length
 .have f:vs.toArray.size<2:=by rw[HD];omega
  rw[KI f,KI f]
  refine Hl (Hs ?_)
  rw[StateT.run_pure]
  refine Hl (Hs ?_)
  dsimp only
  let g:Ly vs.length (HM vs.length).toArray:=⟨Array.Perm.refl _⟩
  let t:(gz vs (HM vs.length).toArray).size=vs.length:=by unfold gz;simp
  let c:arrOf (SortSt.mk' general' (vs.toArray.zip vs.toArray) #[] 7 KC)=(HM vs.length).toArray.map (PySem.W.kas_item (vs.toArray.zip vs.toArray)):=by
   let e:=PySem.W.kas_range (vs.toArray.zip vs.toArray)
   rw[show(vs.toArray.zip vs.toArray).size=vs.length by simp]at e
   exact e.symm
  rw[show(arrOf (SortSt.mk' general' (vs.toArray.zip vs.toArray) #[] 7 KC)).map (·.2)=gz vs (HM vs.length).toArray from PySem.W.kat_snds rfl c]
  refine Hl (seqEpoch_at b rfl (Hl (listUpdate_at b rfl ?_ (IB _) (by rw[t,J7];omega))))
  simp only[bne_self_eq_false,IE,if_false]
  exact Hs (h _ g λi j D J=>())
 let h2:2<=vs.length:=Decidable.not_not.mp h2
 let f:¬vs.toArray.size<2:=by rw[HD];omega
 rw[KH f,KH f]
 refine Hl (y h2 _ _ ?_)
 refine Hl (HJ (PySem.W.kat_run (Q:=λst l=>l={ s with heap:=nF s.heap a vs }/\∃p,Ly vs.length p/\Up k p vs.length/\arrOf st=p.map (PySem.W.kas_item (vs.toArray.zip vs.toArray))/\failedOf st=KC)
  (G:=λp l=>l={ s with heap:=nF s.heap a vs }/\Ly vs.length p/\Up k p vs.length) rfl h2 o (λp st l _ b1 F u=>#[u.1,p,u.2.1,u.2.2,b1,F])
  (tO (n:=vs.length) (k:=k) B _ (dh (λp q=>#[8,q]) _ (yB d h2)))) ?_ λ_ _ x=>x)
 rintro⟨⟨⟩,st⟩ K ⟨v,p,g,H,c,I⟩
 dsimp only at v ⊢
 subst v
 let t:(gz vs p).size=vs.length:=by unfold gz;rw[HD,Ho,J0,g.size]
 rw[show(arrOf st).map (·.2)=gz vs p from PySem.W.kat_snds rfl c]
 refine Hl (seqEpoch_at b rfl (Hl (listUpdate_at b rfl ?_ (IB _) (by rw[t,J7];omega))))
 rw[I]
 simp only[bne_self_eq_false,IE,if_false]
 exact Hs (h p g H)
def va{l:r4}{vs:List Hn}{k:vi}{κ:SortKind}{Q:Hn->Hq->Prop}(f:s.heap.IsList l vs.toArray)(d:vs.length<64)(a:Inj vs.length k)
 (g:∀h':r_,(∀b o,s.heap.get? b=KA o->h'.get? b=KA o)->2<=vs.length->∀(R:SortKind->Hq->Prop)(n:Hn->Hq->Prop),R κ { s with heap:=h' }->Hy (HI prog w) A.in1.in1 (keyKind' vs.toArray) R n { s with heap:=h' })
 (r:∀h':r_,(∀b o,s.heap.get? b=KA o->h'.get? b=KA o)->∀i j (C:Bool->Hq->Prop),i<vs.length->j<vs.length->C (decide (k i<k j)) { s with heap:=h' }->PySem.W.kas_ask prog w A.in1.in1 κ vs i j C { s with heap:=h' })
 (h:∀p,Ly vs.length p->Up k p vs.length->Q (.ref (s.z+1)) { s with heap:=sortedAll s.heap vs (gz vs p) }):Hy (HI prog w) A (call (.builtin "sorted") [.ref l]) Q E s:=by
 refine Calls.call_function_entry kind_sorted plain_sorted entry_sorted (args_sorted1 _) ?_
 unfold Kd.«sorted»
 refine Hl (m:=checkCount "sorted" 1 1 _) (Hs (Hl (collect_list f ?_ (by rw[J7];omega))))
 refine Hl (wpAny_newList ?_ (by rw[J7];omega))
 generalize e1:((s.heap.push (IC "list" #[] 0)).update s.z (IK (·++vs.toArray)))=h1
 let e:h1.objs.size=s.z+1:=by rw[<-e1,Heap.size_update,size_push']
 let t:∀b o,s.heap.get? b=KA o->h1.get? b=KA o:=λb o q=>by
  rw[<-e1,Heap.get?_update_ne _ _ _ _ (HX (HE q)),Heap.get?_push_ne _ _ _ (HX (HE q))]
  exact q
 let c:(h1.push (IC "list" vs.toArray 0)).get? (s.z+1)=KA (IC "list" vs.toArray 0):=by rw[<-e];exact Hx _ rfl
 show Hy _ _ _ _ _ { s with heap:=h1.push (IC "list" vs.toArray 0) }
 rw[e]
 let kp:∀b o,s.heap.get? b=KA o->(nF (h1.push (IC "list" vs.toArray 0)) (s.z+1) vs).get? b=KA o:=λb o q=>
  yk (HX (Jh (HE q))) (Hr _ (t b o q))
 refine Hl (IM (JC slot_list_sort #[_,c,rfl] entry_list_sort (yf (s:={ s with heap:=h1.push (IC "list" vs.toArray 0) }) c d a (g _ kp) (r _ kp) λp u v=>#[7,Hs #[7,?_]]) (args_list_sort _)))
 have:=h p u v
 unfold sortedAll at this
 rw[e1]at this
 exact this
end
section
variable{X:Cx}
def p0(us:List (Int×Int))(i:Nat):Int×Int:=us.getD i (0,0)
def Zo(us:List (Int×Int))(i:Nat):Int:=100*(p0 us i).1+(p0 us i).2
def jo{us:List (Int×Int)}{i:Nat}(h:i<us.length):p0 us i∈us:=by unfold p0;rw[List.getD_eq_getElem?_getD,Ht h];exact Iq h
def AM{xs:vo}{its:List Hn}(h:Vals xs its):∀i,RelV (xs.getD i .non) (its.getD i .none):=by
 induction h with
 |nil=>intro i;simp;rfl
 |cons a _ b=>intro i;cases i with
  |zero=>exact a
  |succ i=>exact b i
theorem oj{xs:vo}{its:List Hn}(h:Vals xs its):∀l:sx,Vals (l.map λi=>xs.getD i .non) (l.map λi=>its.getD i .none)
 |[]=>.nil
 |i::l=>.cons (AM h i) (oj h l)
variable{prog:HL}{w:Il}{A:Ig}{E:Hn->Hq->Prop}{s:Hq}
end
section
variable{X:Cx}
def QX(K:Hm)(H:Hp):vo->List (Int×Int)->Prop
 |[],[]=>True
 |x::xs,u::us=>(∃a,x=.ref a/\L7 K H a [.int u.1,.int u.2])/\QX K H xs us
 |_,_=>False
theorem QX.len{K:Hm}{H:Hp}:∀{xs:vo}{us:List (Int×Int)},QX K H xs us->xs.length=us.length
 |[],[],_=>rfl
 |_::_,_::_,h=>by rw[Ih,Ih,QX.len h.2]
 |[],_::_,h=>h.elim
 |_::_,[],h=>h.elim
def vU(h:r_)(v:Hn)(u:Int×Int):Prop:=∃a t1 b,v=.ref a/\IsTup h a (List.toArray [.int u.1 t1,.int u.2 b])
def yt{KQ:sm}{σ:List (Option V)}{H:Hp}{s:Hq}(I:Inv X KQ σ H s){x:V}{v:Hn}{u:Int×Int}(h:∃a,x=.ref a/\L7 X.K H a [.int u.1,.int u.2])(r:RelV x v):vU s.heap v u:=by let[a,8,b]:=h;cases r;let[c,d,e,_]:=I.tuple b;obtain⟨y1,g,rfl,⟨t1,rfl⟩,⟨f,rfl⟩⟩:=vals2 d;exact #[a,t1,f,8,e]
theorem ya{KQ:sm}{σ:List (Option V)}{H:Hp}{s:Hq}(I:Inv X KQ σ H s):∀{xs:vo}{us:List (Int×Int)} {its:List Hn},QX X.K H xs us->Vals xs its->∀i,i<us.length->vU s.heap (its.getD i .none) (p0 us i)
 |[],[],_,_,_,i,hi=>by simp at hi
 |x::xs,u::us,_,h,.cons a r,i,hi=>by
  cases i with
  |zero=>exact yt I h.1 a
  |succ i=>exact ya I h.2 r i ‹hi›
 |[],_::_,_,h,_,_,_=>h.elim
 |_::_,[],_,h,_,_,_=>h.elim
theorem qJ{h:r_}:∀{its:List Hn}{us:List (Int×Int)},its.length=us.length->(∀i,i<us.length->vU h (its.getD i .none) (p0 us i))->∃fs:List Hn,PySem.W.KatTups h its fs/\fs.length=us.length/\∀v∈fs,∃n t,v=Value.int n t
 |[],[],_,_=>#[[],PySem.W.KatTups.nil,8,λv hv=>by simp at hv]
 |v::its,u::us,hl,q=>by
  let[fs,b,c,d]:=qJ (its:=its) (us:=us) ‹hl› λi f=>q (i+1) ‹f›
  let[a,t1,l,e,o,g,j,n,hd]:=q 0 (_)
  let k:v=.ref a:=e
  subst k
  refine #[.int u.1 t1::fs,PySem.W.KatTups.cons g j hd rfl b,by simp[c],λv hv=>?_]
  rcases Iw.mp hv with rfl|hv
  .exact #[_,7]
  .exact d v hv
 |[],_::_,hl,_=>by simp at hl
 |_::_,[],hl,_=>by simp at hl
def vU.kept{h h':r_}{v:Hn}{u:Int×Int}(q:vU h v u)(k:∀b o,h.get? b=KA o->h'.get? b=KA o):vU h' v u:=by let[a,t1,c,e,o,d,r]:=q;exact #[a,t1,c,e,o,k _ _ d,r]
def MD(u:Int×Int):D:=.tup [.int u.1,.int u.2]
theorem zd{K:Hm}{H:Hp}:∀{us:List (Int×Int)} {xs:vo},aE K H (us.map MD) xs->QX K H xs us
 |[],xs,h=>by
  rw[JF,aE]at h
  subst h;trivial
 |u::us,xs,h=>by
  rw[HG,aE]at h
  let[x,r,8,a,b]:=h
  refine #[?_,zd b]
  unfold MD at a
  rw[Rep]at a
  let[p,e,8,c,d]:=a
  let[y1,f,8,e1,e2]:=gc d
  rw[Rep]at e1 e2
  subst e1 e2
  exact #[p,8,c]
theorem um{K:Hm}{H:Hp}:∀{ds:vu}{xs:vo},aE K H ds xs->∀i,i<ds.length->Rep K H (ds.getD i .non) (xs.getD i .non)
 |[],_,_,i,hi=>by simp at hi
 |d::ds,xs,h,i,hi=>by
  rw[aE]at h
  let[x,r,8,a,b]:=h
  cases i with
  |zero=>exact a
  |succ i=>exact um b i ‹hi›
theorem n8{K:Hm}{H:Hp}{ds:vu}{xs:vo}(h:aE K H ds xs):∀l:sx,(∀i∈l,i<ds.length)->aE K H (l.map λi=>ds.getD i .non) (l.map λi=>xs.getD i .non)
 |[],_=>aE.nil
 |i::l,q=>aE.cons (um h i (q i (_))) (n8 h l λj a=>q j (by simp[a]))
def Lj(u v:Int×Int):Prop:=100*u.1+u.2<100*v.1+v.2
def vI{us:List (Int×Int)}{a:Array Nat}(h:Ly us.length a):(a.toList.map (p0 us)).Perm us:=by
 let e1:=(Array.perm_iff_toList_perm.mp h.perm).map (p0 us)
 let e2:(HM us.length).map (p0 us)=us:=by
  apply List.ext_getElem
  .simp
  .intro i h1 h2;simp[p0,h2]
 simpa[e2]using e1
def xw{us:List (Int×Int)}{a:Array Nat}(h:Ly us.length a):(a.toList.map λi=>(us.map MD).getD i .non)=(a.toList.map (p0 us)).map MD:=by
 rw[Jj];refine Jt λi c=>?_
 let b:i<us.length:=by
  have:i∈a:=‹c›
  have:=h.perm.mem_iff.mp this
  simpa using this
 simp[p0,b]
def oh:IG "sorted"=KA (.builtin "sorted"):=by first|exact boot_sorted|rfl
end
def lQ(h:r_)(d:r4)(es:Array IQ)(ep:Nat):Prop:=∃o,h.get? d=KA o/\o.ExactDict/\o.data=.dict es ep
section
variable{prog:HL}{w:Il}{A:Ig}{E:Hn->Hq->Prop}{s:Hq}{d it:r4}{es:Array IQ}{ep i:Nat}
theorem lQ.ty(h:lQ s.heap d es ep):s.TypeIs (.ref d) "dict":=let⟨o,a,b,_⟩:=h;#[o,a,b.1]
theorem lQ.kept{h h':r_}(q:lQ h d es ep)(k:∀o,h.get? d=KA o->h'.get? d=KA o):lQ h' d es ep:=let⟨o,a,b⟩:=q;#[o,k o a,b]
theorem lQ.lt{h:r_}(q:lQ h d es ep):d<h.objs.size:=let⟨_,a,_⟩:=q;HE a
def yP{Q:Hn->Hq->Prop}(e:(d==Jz)=KG)(b:lQ s.heap d es ep)
 (q:Q (.ref s.z) { s with heap:=s.heap.push { cls:=.type "dict_keyiterator",data:=.fields (List.toArray [.ref d,.int 0 0,.int es.size 0,.int ep 0]) } }):Hy (HI prog w) A (pyIter (.ref d)) Q E s:=by
 let a:=b.ty
 let[o,g1,f,c]:=b
 refine wpAny_pyIter_slot a F.slot_dict_iter (JC F.slot_dict_iter a F.entry_dict_iter ?_ (F.args_dict_iter_1 _))
 unfold Kd.«dict.__iter__»
 refine Hl ?_
 unfold Builtin.Dict.dictSlotNone
 refine Hl (wpAny_notOrdered_dict a ?_)
 show Hy _ _ (pure (II d)) _ _ s
 refine Hs ?_
 show Hy _ _ (Builtin.Dict.showsAll d >>= _) _ _ s
 unfold Builtin.Dict.showsAll
 rw[KH (by rw[e];exact HF)]
 refine Hl (Hs (Hl (wpAny_dictEntries g1 c (Hl (wpAny_dictEpoch g1 c ?_)))))
 refine Hl (ID (Hs #[7,"dict_keyiterator",_,#[_,Hx _ rfl,rfl],Jx.lookup,?_]))
 simpa[Kr]using q
def xH{Q:Option Hn->Hq->Prop}(b:s.heap.IsKeyIter it d i es.size ep)(f:lQ s.heap d es ep)(g:i<es.size)
 (h:∀h':r_,h'.IsKeyIter it d (i+1) es.size ep->JD it s.heap h'->Q (KA es[i].key) { s with heap:=h' }):Hy (HI prog w) A (pyNext (.ref it)) Q E s:=by
 let[o,c,j,hd]:=id b
 let[od,g1,k,e]:=f
 let a:=b.typeIs
 unfold pyNext
 refine Hl (wpAny_attempt (JT (name:=IW "__next__") a Jx (JC Jx a F.entry_dict_keyiterator_next ?_ (F.args_dict_keyiterator_next_1 _))))
 refine Hl (Hs (Hl (Hl ?_)))
 first|refine Hl (JS a (Hs ?_))|refine Hl (wpAny_typeNameOf_keyiter a (Hs ?_))
 refine Hl (wpAny_fieldsOf c hd ?_)
 simp only[show Builtin.Dict_items.ownsTuple "dict_keyiterator"=KG by decide,IE,if_false]
 show Hy _ _ (if(II d==Value.none)=KD then _ else _) _ _ s
 rw[KH (show ¬((II d==Value.none)=KD)from HF)]
 refine Hl (Hs (Hl (wpAny_dictEntries g1 e ?_)))
 rw[KH (_)]
 refine Hl (Hs (Hl (wpAny_dictEpoch g1 e ?_)))
 rw[KH (_)]
 refine Hs ?_
 simp only[show ¬((i:Int)<0)from by omega,if_false,IJ,Array.getElem?_eq_getElem g]
 refine Hl ?_
 first|refine Hl (JS a (Hs ?_))|refine Hl (wpAny_typeNameOf_keyiter a (Hs ?_))
 refine Hl (wpAny_isOneOf_keyiter a ?_)
 show Hy _ _ (setField (.ref it) 1 (Kr ((i:Int)+1)) >>= _) _ _ s
 refine Hl (wpAny_setField c hd (_) ?_)
 let n1:(s.heap.update it (Obj.mapFields (·.setIfInBounds 1 (Kr ((i:Int)+1))))).IsKeyIter it d (i+1) es.size ep:=
  #[_,JM _ c (Obj.isFreed_of_fields (Obj.data_mapFields hd _)),(Obj.cls_mapFields ..).trans j,by rw[Obj.data_mapFields hd];simp[Kr]]
 refine Hl (IM (Hl (wpAny_isOneOf_keyiter (s:={ s with heap:=s.heap.update it (Obj.mapFields (·.setIfInBounds 1 (Kr ((i:Int)+1)))) }) n1.typeIs ?_)))
 show Hy _ _ (pure es[i].key) _ _ _
 exact Hs (Hs #[7,Hs (h _ n1 (IU ..))])
def Bi{Q:Option Hn->Hq->Prop}(h:A.handled=KC)(e:s.heap.IsKeyIter it d es.size es.size ep)(j:lQ s.heap d es ep)
 (k:∀h',Heap.ExtBut it s.heap h'->Q KC { s with heap:=h' }):Hy (HI prog w) A (pyNext (.ref it)) Q E s:=by
 let[o,f,l,hd]:=id e
 let[od,g1,n,g]:=j
 let c:=e.typeIs
 unfold pyNext
 refine Hl (wpAny_attempt (JT (name:=IW "__next__") c Jx (JC Jx c F.entry_dict_keyiterator_next ?_ (F.args_dict_keyiterator_next_1 _))))
 refine Hl (Hs (Hl (Hl ?_)))
 first|refine Hl (JS c (Hs ?_))|refine Hl (wpAny_typeNameOf_keyiter c (Hs ?_))
 refine Hl (wpAny_fieldsOf f hd ?_)
 simp only[show Builtin.Dict_items.ownsTuple "dict_keyiterator"=KG by decide,IE,if_false]
 show Hy _ _ (if(II d==Value.none)=KD then _ else _) _ _ s
 rw[KH (show ¬((II d==Value.none)=KD)from HF)]
 refine Hl (Hs (Hl (wpAny_dictEntries g1 g ?_)))
 rw[KH (_)]
 refine Hl (Hs (Hl (wpAny_dictEpoch g1 g ?_)))
 rw[KH (_)]
 refine Hs ?_
 simp only[show ¬((es.size:Int)<0)from by omega,if_false,IJ,Array.getElem?_eq_none (Hu es.size)]
 refine Hl ?_
 first|refine Hl (JS c (Hs ?_))|refine Hl (wpAny_typeNameOf_keyiter c (Hs ?_))
 show Hy _ _ (setField (.ref it) 0 .none >>= _) _ _ s
 refine Hl (wpAny_setField f hd (_) ?_)
 show Hy _ _ (newExc (.type "StopIteration") [] >>= _) _ _ _
 refine Hl ?_
 simp only[newExc,newTuple]
 refine Hl (ID ?_ (by size_fits))
 refine Hl (m:=firstArgMember _ _) (wpAny_of_eq (a:=Value.none) (by first|rfl|(simp only[firstArgMember];rfl)) ?_)
 refine ID ?_ (by size_fits)
 simp only[raiseNew]
 refine Hl (wpAny_handled ?_)
 rw[show A.in1.handled=KC from h]
 refine Hl (Hs (wpAny_throw ?_))
 refine Hl (wpAny_isInstance (T:="StopIteration") (b:=KD) #[_,Hx _ rfl,rfl] isSubtype_stop ?_)
 exact Hs (k _ (((IU ..).extBut.push _).push _))
theorem wj(m:A.handled=KC)(I d:r4)(f:d≠I)(es:Array IQ)(ep:Nat):Walks prog w A I [I,d] [I] es.size (λi v=>∃e,es[i]?=KA e/\v=e.key) (λi h=>h.IsKeyIter I d i es.size ep/\lQ h d es ep) where
 sub:=λb a=>by simp at a;simp[a]
 frame:=λ_ _ _ st j=>#[st.1.at λo e=>j I (_) o e,st.2.kept λo e=>j d (_) o e]
 item:=λi s Q E k st c=>xH st.1 st.2 k λg n1 l=>c _ g s.toks #[es[i],by simp[k],rfl] #[n1,st.2.kept λo e=>(l.2 d f).trans e] λb o a e=>l.extBut b o (λh=>a (by simp[h])) e
 done:=λs Q E st c=>Bi m st.1 st.2 λg n=>c g s.toks λb o a e=>n b o (λh=>a (by simp[h])) e
 self:=λ_ _ _ _ st c=>wpAny_pyIter_keyiter st.1 c
theorem Ax(c:(d==Jz)=KG):PySem.W.KdlSrc prog w "dict" d d es.size (λi v=>∃e,es[i]?=KA e/\v=e.key) (λh=>lQ h d es ep) where
 type:=λ_ a=>a.ty
 there:=λ_ a=>#[a.lt,a.lt]
 keep:=λ_ _ a f=>a.kept λo e=>f d (.inl rfl) o e
 notList:=⋯
 notTuple:=⋯
 hint:=λ_ _ _ _ a b=>PySem.W.kdl_hint_dict a.ty b
 iter:=λ_ _ g a=>#[_,_,(λ_ _ b=>yP c a b),wj g _ d (HX a.lt) es ep,#[#[_,Hx _ rfl,8,rfl],a.kept λo e=>Hr _ e]]
end
section
variable{X:Cx}
def yK{P:HL}{w:Il}{xs:List MB}{ys:List (Lc×r4×Hn)}(r:Kt Pm xs ys):(ys.map (entryOfKey (eR P w))).map (·.key)=xs.map λx=>II x.2.1:=by
 induction r with
 |nil=>rfl
 |cons h t a=>simp only[HG,a,h.2.1];rfl
theorem nO:∀xs:List MB,Vals (xs.map λx=>V.ref x.2.1) (xs.map λx=>II x.2.1)
 |[]=>.nil
 |x::xs=>.cons rfl (nO xs)
def qC(h:X.calm=KD):bY X (.type "list") (λvs H Q=>∃p xs,vs=[.ref p]/\H p=KA (.ext (b5 X.prog X.w p xs))/\∀l,H l=KC->Q (.ref l) (upd H l (.lst (xs.map λx=>V.ref x.2.1)))):=by
 intro KQ s σ H vs us Q I r j;let[p,xs,k,m,q]:=j;subst k;let[u,8,n]:=vals1 r;cases n;obtain⟨⟨h1,h2,D,E,f,o,es,ep,t,v,y,g⟩,_⟩:=I.hok p _ m;let z:es.size=xs.length:=by rw[<-J0,g,Ho,lT f]
 refine PySem.W.kdl_call (Ax (es:=es) (ep:=ep) h1) (I.ok.hd h) #[o,t,v,y] (by rw[z];exact h2) λA B a c kp C it=>?_
 let ea:a.toList=xs.map λx=>II x.2.1:=by
  rw[<-yK (P:=X.prog) (w:=X.w) f,<-g];apply List.ext_getElem?;intro i;by_cases d:i<es.size
  .have b:i<a.size:=by rw[it.1];exact d
   let[e,e1,e2]:=it.2 i a[i] (by simp[b]);simp[b,d]at e1 ⊢;rw[e2,<-e1]
  .have b:¬i<a.size:=by rw[it.1];exact d
   simp[d,b]
 refine #[.ref s.z,_,I.laid (t':=B) kp (Hu _) (show bO X.prog X.w _ A _ (.lst _)from #[by rw[Ho];exact h2,_,c,nO xs,?_]),8,q _ (I.hok.fresh (Hu _))];rw[<-ea,Array.toArray_toList];exact C
def CF:RC:=λa M Q=>x9 a M Q\/∃l kvs,a=[.ref l]/\M l=KA (ME kvs)/\∀p,M p=KC->Q (.ref p) (au M p (.lst (kvs.map λx=>Ny x.1)))
theorem oo{K:Hm}{H:Hp}:∀{kvs:Lw}{xs:List MB},xs.map (·.1)=kvs.map (·.1)->(∀x∈xs,dQ K H x.2.1 x.1)->aE K H (kvs.map λx=>Ny x.1) (xs.map λx=>V.ref x.2.1)
 |[],[],_,_=>by rw[JF,JF];exact aE.nil
 |y::kvs,x::xs,h,k=>by
  rw[HG,HG]at h
  injection h with e1 e2
  rw[HG,HG]
  exact aE.cons (by rw[<-e1];exact yE (k x (_))) (oo e2 λz a=>k z (by simp[a]))
 |[],_::_,h,_=>by cases h
 |_::_,[],h,_=>by cases h
def md(f:X.calm=KD):d9 X (.type "list") CF:=by
 intro KQ s σ H vs us Q I d g;let[h,M,R,e,a,q,b]:=g;rcases q with q|⟨l,kvs,i,j,q⟩
 .exact AA KQ s σ H vs us Q I d #[h,M,R,e,a,q,b]
 .subst i;let[v,8,r]:=bR e;rw[Rep]at r;subst r;let[xs,h1,h2,k,m]:=a.dsp j;exact qC f KQ s σ H _ us Q I d #[_,xs,8,h1 _ _,λz c=>b (.ref z) _ _ _ (.new c) (by rw[Rep]) (a.lK c (oo h2 k)) (q z (a.fresh c))]
end
def L6(t b X Y:Int)(u:Vc):D:=LH (Kw t b X 1 u.1) (Kw t b Y 1 u.2)
def gk(t b X Y:Int)(u:Vc):Lc:=((Kw t b X 1 u.1).num,((Kw t b X 1 u.1).den:Int),(Kw t b Y 1 u.2).num,((Kw t b Y 1 u.2).den:Int))
theorem rW(t b X Y:Int)(u:Vc):L6 t b X Y u=Ny (gk t b X Y u):=rfl
def sM{t b X Y:Int}(a:0<t)(c:0<b){p q:Vc}(h:gk t b X Y p=gk t b X Y q):p=q:=by unfold gk at h;injection h with h1 h;injection h with h2 h;injection h with d e;let e1:Kw t b X 1 p.1=Kw t b X 1 q.1:=Rat.ext h1 (by exact_mod_cast h2);let e2:Kw t b Y 1 p.2=Kw t b Y 1 q.2:=Rat.ext d (by exact_mod_cast e);let f:=(LF a c ⋯ ⋯).mp e1;let g:=(LF a c ⋯ ⋯).mp e2;exact Prod.ext () ()
def Lh(u:Vc):Prop:=(0<=u.1/\u.1<=20)/\(0<=u.2/\u.2<=20)
def ea(w:Wl):Vc:=(w.1,w.2.1)
def eb(w:Wl):Vc:=(w.2.2.1,w.2.2.2)
theorem L5.ea{w:Wl}(h:L5 w):Lh (ea w):=#[h.a,h.b]
theorem L5.eb{w:Wl}(h:L5 w):Lh (eb w):=#[h.c,h.d]
theorem L5.eab{w:Wl}(h:L5 w):SD.ea w≠SD.eb w:=λe=>by have:=h.lt;unfold SD.ea SD.eb at e;injection e with e1 e2;unfold l1 l2 la at this;omega
def dw(us:List Vc)(u:Vc):List Vc:=if u∈us then us else us++[u]
def qy{us:List Vc}{u v:Vc}:v∈dw us u↔v∈us\/v=u:=by
 unfold dw;split
 .constructor
  .exact .inl
  .rintro(h|rfl)
   .exact h
   .assumption
 .simp
def ur{us:List Vc}{u:Vc}(h:us.Nodup):(dw us u).Nodup:=by
 unfold dw;split
 .exact h
 .rename_i hn;rw[List.nodup_append];refine #[h,by simp,λa c b d e=>?_];have:b=u:=‹d›
  subst this;subst e;exact hn c
def mY(us:List Vc)(u:Vc):(dw us u).length<=us.length+1:=by
 unfold dw;split
 .omega
 .simp
def Lf(ws:vp):Nat->List Vc
 |0=>[]
 |i+1=>match ws[i]? with
  |some w=>dw (dw (Lf ws i) (ea w)) (eb w)
  |none=>Lf ws i
theorem ph(ws:vp):∀i,(Lf ws i).Nodup
 |0=>List.nodup_nil
 |i+1=>by
  unfold Lf
  split
  .exact ur (ur (ph ws i))
  .exact ph ws i
theorem iC(ws:vp):∀i,(Lf ws i).length<=2*i
 |0=>Hu _
 |i+1=>by
  let a:=iC ws i
  unfold Lf
  split
  .have h1:=mY (dw (Lf ws i) (ea (by assumption:_))) (eb (by assumption:_))
   let h2:=mY (Lf ws i) (ea (by assumption:_))
   omega
  .omega
theorem gI{ws:vp}{u:Vc}:∀i,u∈Lf ws i↔∃j w,j<i/\ws[j]?=KA w/\(u=ea w\/u=eb w)
 |0=>by simp[Lf]
 |i+1=>by
  let b:=gI (ws:=ws) (u:=u) i
  unfold Lf
  split
  .rename_i w hw
   rw[qy,qy,b]
   constructor
   .rintro((⟨j,v,h1,h2,a⟩|h)|h)
    .exact #[j,v,(),h2,a]
    .exact #[i,w,(),hw,.inl h]
    .exact #[i,w,(),hw,.inr h]
   .rintro⟨j,v,h1,h2,a⟩
    by_cases e:j=i
    .subst e
     rw[hw]at h2;cases h2
     rcases a with a|a
     .exact .inl (.inr a)
     .exact .inr a
    .exact .inl (.inl #[j,v,(),h2,a])
  .rename_i hw
   rw[b]
   constructor
   .rintro⟨j,v,h1,h2,a⟩
    exact #[j,v,(),h2,a]
   .rintro⟨j,v,h1,h2,a⟩
    by_cases e:j=i
    .subst e;rw[hw]at h2;cases h2
    .exact #[j,v,(),h2,a]
theorem ud{ws:vp}(a:∀w∈ws,L5 w){i:Nat}:∀u∈Lf ws i,Lh u:=λu b=>by
 let[j,w,_,h2,c]:=(gI i).mp b;have:=a w (Hz h2);rcases c with rfl|rfl
 .exact this.ea
 .exact this.eb
def OG(t b X Y:Int)(us:List Vc):Lw:=us.map λu=>(gk t b X Y u,D.bl KD)
def AH{t b X Y:Int}(a:0<t)(c:0<b)(us:List Vc)(u:Vc):putD (OG t b X Y us) (gk t b X Y u) (.bl KD)=OG t b X Y (dw us u):=by
 let ea:((OG t b X Y us).any λx=>decide (x.1=gk t b X Y u))=decide (u∈us):=by
  rw[JJ,List.any_eq_true,decide_eq_true_eq];constructor
  .rintro⟨x,hx,e⟩;let[v,hv,8]:=Iz.mp hx;have:gk t b X Y v=gk t b X Y u:=‹e›
   rw[<-sM a c this];exact hv
  .intro h;exact #[_,Iz.mpr #[u,h,rfl],by simp]
 unfold putD dw;rw[ea];by_cases h:u∈us
 .rw[KI ‹h›,KI h];unfold OG;rw[Jj];refine Jt λv hv=>?_;dsimp only[Function.comp];split
  .rfl
  .rfl
 .rw[KH ‹h›,KH h];unfold OG;rw[Ib];rfl
theorem tN(u:Vc):¬Lj u u:=λh=>by unfold Lj at h;omega
theorem yF{a c:List Vc}(b:a.Perm c)(d:a.Pairwise Lj)(e:c.Pairwise Lj):a=c:=List.Perm.eq_of_pairwise (le:=Lj) (λx y _ _ h1 h2=>by unfold Lj at h1 h2;omega) d e b
def BW{ps:List Vc}{u:Vc}{j:Nat}(h:ps.Pairwise Lj)(g:j<=ps.length)(h1:∀i,i<j->Lj (p0 ps i) u)(h2:∀i,j<=i->i<ps.length->Lj u (p0 ps i)):(ic ps j u).Pairwise Lj/\(ic ps j u).Perm (u::ps):=by
 constructor
 .unfold ic;rw[List.pairwise_append]
  let lt:∀x∈ps.take j,Lj x u:=λx hx=>by
   let[i,b,8]:=List.getElem_of_mem hx
   let a:i<j/\i<ps.length:=by rw[Iu]at b;omega
   have:=h1 i a.1
   unfold p0 at this
   simpa[a.2]using this
  let d:∀x∈ps.drop j,Lj u x:=λx hx=>by
   let[i,b,8]:=List.getElem_of_mem hx
   let a:j+i<ps.length:=by rw[Jd]at b;omega
   have:=h2 (j+i) () a
   unfold p0 at this
   simpa[a]using this
  refine #[h.sublist (List.take_sublist _ _),List.pairwise_cons.mpr #[d,h.sublist (List.drop_sublist _ _)],λx hx y c=>?_];rcases Iw.mp c with rfl|c
  .exact lt x hx
  .have e:=lt x hx;let f:=d y c;unfold Lj at e f ⊢;omega
 .unfold ic;have:(ps.take j++u::ps.drop j).Perm (u::(ps.take j++ps.drop j)):=List.perm_middle
  rwa [List.take_append_drop]at this
theorem CW{t b X Y:Int}(a:0<t)(c:0<b){u v:Vc}(d:Lh u)(hv:Lh v):Kz (Kw t b X 1 u.1) (Kw t b Y 1 u.2) (Kw t b X 1 v.1) (Kw t b Y 1 v.2)↔Lj u v:=pb a c d.2 hv.2
theorem Lh.bx{t b X Y:Int}(S:Lm t b X Y){u:Vc}(h:Lh u):Ky 200 (Kw t b X 1 u.1):=S.bx ⋯ (by have:=h.1;omega)
theorem Lh.by'{t b X Y:Int}(S:Lm t b X Y){u:Vc}(h:Lh u):Ky 200 (Kw t b Y 1 u.2):=S.by' ⋯ (by have:=h.2;omega)
def Bc{u v:Vc}(a:Lh u)(hv:Lh v)(ne:u≠v)(h:¬Lj u v):Lj v u:=by
 let h1:=a.2;let h2:=hv.2;unfold Lj at h ⊢;by_cases e:100*u.1+u.2=100*v.1+v.2
 .exact absurd (Prod.ext () ()) ne
 .omega
def Qv(u:Vc):Kj:=.tuple [.int u.1,.int u.2]
theorem tY{M:MH}:∀us:List Vc,Np M (us.map MD) (us.map Qv)
 |[]=>.nil
 |u::us=>.cons (Pd.of rfl) (tY us)
theorem uA:∀us:List Vc,Ji (us.map Qv)=KD
 |[]=>rfl
 |u::us=>by rw[HG,Ji,uA us];rfl
def zJ(u:Vc)(us:List Vc):(us.map Qv).any (λq=>Iy q (Qv u))=decide (u∈us):=by
 rw[List.any_map,JJ,List.any_eq_true,decide_eq_true_eq];constructor
 .rintro⟨v,hv,e⟩;let e:Iy (.tuple [.int v.1,.int v.2]) (.tuple [.int u.1,.int u.2])=KD:=e;rw[oO]at e;let e:=of_decide_eq_true e;rw[show u=v from Prod.ext e.1.symm e.2.symm];exact hv
 .intro h;exists u,h;show Iy (.tuple [.int u.1,.int u.2]) (.tuple [.int u.1,.int u.2])=KD;rw[oO];exact KL #[8,rfl]
def C5{M:MH}{l:r4}{us:List Vc}(u:Vc)(g:Bool->Bool)(Q:DK)(h:M l=KA (.lst (us.map MD)))(q:Q (.bl (g (decide (u∈us)))) M):EC g (MD u) (.ref l) M Q:=by exists _,_,Pd.of (p:=Qv u) rfl,.inl (.lst h (tY us)),8,uA us;rw[zJ];exact q
def zD(us:List Vc)(u v:Vc)(ne:u≠v):us.map MD++(HM 2).filterMap (λj=>if j=0 then(if u∈us then KC else KA (MD u))else(if v∈us then KC else KA (MD v)))=(dw (dw us u) v).map MD:=by unfold dw;by_cases h1:u∈us<;>by_cases h2:v∈us<;>simp[HM,HM.loop,h1,h2,ne.symm]
section
variable{X:Cx}{KQ:sm}{σ:L2.St}{H:Hp}{s:Hq}{a b:r4}{k:Lc}
def xo{A:Ig}{E:Hn->Hq->Prop}{Q:Unit->Hq->Prop}{xs:List MB}{v:V}{u:Hn}(D:A.units+8<IV)(I:L2.Inv X KQ σ H s)(e:H a=KA (.ext (b5 X.prog X.w a xs)))(i:∀x∈xs,dQ X.K H x.2.1 x.1)(j:dQ X.K H b k)(f:RelV v u)(F:xs.length<HK)
 (h:∀g,L2.Inv X KQ σ (upd H a (.ext (b5 X.prog X.w a (gf xs k b v)))) g->Q .unit g):Hy (HI X.prog X.w) A (dictSet a (.ref b) u) Q E s:=by
 let[hd,l,G,r,m]:=oS I e i
 refine wpAny_dictSet_heap (knd:=eR X.prog X.w) (hsz:=by rw[<-lT r];exact l) (():A.units+4<IV) (qD I j) m λJ c n=>h _ ?_
 let[q,o,p,d,t,z,B,_,C]:=c
 refine jP I (by rw[e];exact JA) n #[q,d] #[#[hd,?_,?_,_,iF r k b f,q,o,p,d,t,z,B],#[q,d],λh1 h2 x y=>lR h1 h2 x y]
 .have:=mD xs k b v;omega
 .rw[<-jN (iF r k b f)];exact C
end
def rK{prog:HL}{w:Il}{A:Ig}{R:Result->Hq->Prop}{s:Hq}{kx g a b:sg}{d:tr}{scope:JB}{pos:Pos}{it:Hn}{D:r4}{env:Env}(J:Nat->Hq->Prop)
 (step:∀n s,J n s->Hy (HI prog w) A (pyNext it) (λr i=>match r with
  |none=>R (.ok .next) i
  |some v=>Hy (HI prog w) A (JI a it v) (λ_ k=>Hy (HI prog w) A (Kk a env v) (λ_ l=>
   Hy (HI prog w) A (forIn d KD λc r=>if r=KD then do let ok <-isTrue c env (eval c env);pure (JW ok)else pure (JW r)) (λok j=>
    if ok=KD then Hy (HI prog w) A (eval kx env) (λo p=>Hy (HI prog w) A (eval g env) (λq t=>Hy (HI prog w) A (dictSet D o q) (λ_ u=>∃m,m<n/\J m u) Lr t) Lr p) Lr j
    else ∃m,m<n/\J m j) Lr l) Lr k) Lr i) Lr s)
 (n:Nat) (h:J n s):JE (HI prog w) A (.compLoop (.DictComp kx g [#[a,b,d,0]] scope pos) 0 it (.ref D) env) R s:=by
 let f:∀{E:Hn->Hq->Prop} e y,Lr e y->E e y:=λ_ _ z=>z.elim
 refine codeAny_loop rfl J (λn s C=>?_) n h
 show Hy _ _ (Sem.onRaise (compTurn (.DictComp kx g [#[a,b,d,0]] scope pos) 0 it (.ref D) env) (λx=>do noteFrame x env;theTreesLotGoes x)) _ _ s
 refine wpAny_noted ?_
 rw[compTurn_dict]
 refine Hl (Jw (Hl (HJ (step n s C) (λr i h1=>?_) f)))
 cases r with
 |none=>exact Hs h1
 |some v=>
  refine Hl (HJ h1 (λ_ k h2=>Hl (HJ h2 (λ_ l F=>Hl (HJ F (λok j B=>?_) f)) f)) f)
  cases ok with
  |false=>exact Hs #[8,B]
  |true=>exact Hl (Hl (HJ B (λo p G=>Hl (IM (HJ G (λq t H=>Hl (Jw (IM (HJ H (λ_ u I=>Hs #[8,I]) f)))) f))) f))
def zx(X:Cx)(js:sx)(own:Own)(tc:TT)(tk te:TE)(σ:L2.St)(J:It)(H1:Hp)(Q:VK):Prop:=∀D,H1 D=KC->∃W:Nat->Nat->Hp->Prop,(∃m,W 0 m (upd H1 D (.ext (b5 X.prog X.w D []))))/\∀i m H,W i m H->
 (J.stop i H/\Q (.ref D) H)\/(J.go i H/\∀y d,J.yld i H y d->∃os,own y d os/\tc (cσ os js σ) d λb e=>if b=KD then
  tk (cσ os js σ) e λf g=>te (cσ os js σ) g λv c=>∃b k xs,f=.ref b/\c D=KA (.ext (b5 X.prog X.w D xs))/\(∀x∈xs,dQ X.K c x.2.1 x.1)/\dQ X.K c b k/\xs.length<HK/\∃a,a<m/\W (i+1) a (upd c D (.ext (b5 X.prog X.w D (gf xs k b v))))else ∃a,a<m/\W (i+1) a e)
def oB(X:Cx)(js:sx)(own:Own)(a:TI)(tc:TT)(tk te:TE):TE:=λσ H Q=>a σ H λJ H1=>zx X js own tc tk te σ J H1 Q
section
variable{X:Cx}{xs:u_}{tg:sg}{pos:Pos}{js:sx}{scope:JB}{kx vx iter:sg}{ifs:tr}{tk te:TE}{tc:TT}{g:TG}{own:Own}{wi:TI}{KQ:sm}{σ:L2.St}{H:Hp}{s:Hq}{fp:t_}{it:r4}{tn:Nat->r_->Prop}{J:It}
def nW(c:LO X xs js scope)(hc:X.calm=KD)(hG:MW xs.length g own)(hg:∀C s H fp,PG (LX X xs js scope C s H fp) tg g)(ht:∀C s H fp,Py (LX X xs js scope C s H fp) ifs tc)(hk:∀C s H fp,PE (LX X xs js scope C s H fp) kx tk)(he:∀C s H fp,PE (LX X xs js scope C s H fp) vx te)(hu:X.A.units+8<IV)
 {R:Hn->r4->Result->Hq->Prop} {E:Hn->Hq->Prop} {Q:VK}
 (I:Inv X KQ σ H s) (T:Turn X.prog X.w X.K tg J fp it tn) (st:tn 0 s.heap) (hf:∀b∈fp,cJ X KQ H b) (wc:zx X js own tc tk te σ J H Q)
 (hR:∀D C h G,Inv X KQ σ h G->cJ X KQ h C->(∃m,G.heap.Ns C m)->Q (.ref D) h->R (.ref D) C (.ok .next) G) :
 Hy (HI X.prog X.w) X.A newDict (λd0 e0=>Hy (HI X.prog X.w) X.A (Km scope X.env.globals (fq scope.names X.env) [] X.env.qual KC .none (KA X.env)) (λN f0=>
  JE (HI X.prog X.w) X.A (.compStart (.DictComp kx vx [#[tg,iter,ifs,0]] scope pos) 0 (.ref it) d0 { N with scope:=relabel scope X.env }) (R d0 N.locals) f0) E e0) E s:=by
 let g0:∀b∈fp,b<s.z:=λb a=>let⟨o,e,_⟩:=T.obj 0 _ st b a;HE e
 let hD:H s.z=KC:=I.hok.fresh (Hu _)
 refine ID (oZ ?_)
 generalize hh:s.heap.push { cls:=.type "dict",data:=.dict #[] }=f
 generalize h0:pushCells (({ s with heap:=f }:Hq).heap.push { cls:=.type "dict",data:=.dict #[] }) scope.names=j
 let k3:∀b o,s.heap.get? b=KA o->f.get? b=KA o:=λb o e=>by rw[<-hh];exact Hr _ e
 let I3:Inv X KQ σ (upd H s.z (.ext (b5 X.prog X.w s.z []))) { s with heap:=f }:=by
  rw[<-hh];exact t8 I
 let l:∀b∈fp,cJ X KQ (upd H s.z (.ext (b5 X.prog X.w s.z []))) b:=λb a=>#[by rw[aG (HX (g0 b a))];exact(hf b a).1,(hf b a).2]
 let s0:f.objs.size=s.z+1:=by rw[<-hh,J6]
 let i0:∀b∈fp,b<f.objs.size:=λb a=>by rw[s0];exact Jh (g0 b a)
 let k4:∀b o,f.get? b=KA o->j.get? b=KA o:=λb o e=>by rw[<-h0];exact pushCells_keeps _ _ b o (Hr _ e)
 let I4:=mU c I3 l i0 (h':=j) h0.symm k4
 obtain⟨W,⟨m0,w0⟩,k0⟩:=wc _ hD
 let Nj:tn 0 j:=T.keep 0 _ _ st λb a o e=>k4 b o (k3 b o e)
 generalize hX:LX X xs js scope f.objs.size { s with heap:=f } (upd H s.z (.ext (b5 X.prog X.w s.z []))) fp=X' at I4
 let S:∀{pins':sm}{h:Hp}{L:L2.St}{G:Hq},Inv X' [] L h G->(∀b∈fp,h b=KC)->∀b∈fp,cJ X' [] h b:=λ{pins' h L G} J' hn b a=>by
  subst hX
  let[a1,a2]:=J'.ok.exf b a
  exact #[hn b a,a1,J'.ok.exfs b a,.inl a,a2,λp hp=>absurd (show p∈([]:sm)from hp) (_)]
 let O:JE (HI X.prog X.w) X.A (.compLoop (.DictComp kx vx [#[tg,iter,ifs,0]] scope pos) 0 (.ref it) (.ref s.z) (lF scope f.objs.size X.env)) (R (.ref s.z) f.objs.size)
  { s with heap:=j }:=by
  refine rK (λn G=>∃i os h,os.length=xs.length/\Inv X' [] (cσ os js σ) h G/\tn i G.heap/\(∀b∈fp,h b=KC)/\W i n h) ?_ m0 #[0,_,_,by simp,I4,Nj,λb a=>(l b a).1,w0]
  rintro n s5 ⟨i,os,H5,t0,I5,NK,n0,w5⟩
  rcases k0 i n H5 w5 with⟨stop,q⟩|⟨go,step⟩
  .subst hX
   refine HJ (T.done (LX X xs js scope f.objs.size { s with heap:=f } (upd H s.z (.ext (b5 X.prog X.w s.z []))) fp) rfl rfl rfl hc i [] s5 _ H5 Lr I5 (S (pins':=[]) I5 n0) NK stop) (λr s6 U=>?_) λ_ _ z=>z
   let[hr,I6]:=U
   subst hr
   refine hR _ _ H5 s6 (I3.xv I6.os I6.base I6.hok I6.bare λb a=>#[(l b a).2.2.2.1,(l b a).2.1,(l b a).2.2.2.2.1,(l b a).2.2.2.2.2]) (I3.pD (Hu _) I6.free) (let⟨m,hm,_⟩:=I6.loc;#[m,hm]) q
  .subst hX
   refine HJ (T.item (LX X xs js scope f.objs.size { s with heap:=f } (upd H s.z (.ext (b5 X.prog X.w s.z []))) fp) rfl rfl rfl hc i [] s5 _ H5 Lr I5 (S (pins':=[]) I5 n0) NK go) (λr s6 V=>?_) λ_ _ z=>z
   let[u,hr,h6]:=V
   subst hr
   refine HJ h6 (λ_ s7 Y=>?_) λ_ _ z=>z
   let[y,H7,I7,r7,y7,Mp,u0]:=Y
   let v0:=I7.pinned (S (pins':=[]) I7 u0) (T.obj _ _ Mp)
   let[M,o0,q8]:=step y H7 y7
   let l8:=hG.len _ _ _ o0
   refine HJ (hg _ _ _ _ _ s7 _ H7 y u (λL h=>L=cσ M js σ/\h=H7) v0 r7 (hG.run y H7 os _ M _ t0 o0 #[8,rfl])) (λ_ s8 Z=>?_) λ_ _ z=>z
   let[i1,H8,I8,e8,x0]:=Z
   subst e8 x0
   refine HJ (ht _ _ _ _ _ s8 _ _ _ I8 q8) (λok s9 a0=>?_) λ_ _ z=>z
   let[H9,I9,q9]:=a0
   let P:∀{m':Nat}{x:Hp}{t:Hq},Inv (LX X xs js scope f.objs.size { s with heap:=f } (upd H s.z (.ext (b5 X.prog X.w s.z []))) fp) ([]++gN fp s7.heap) (cσ M js σ) x t->m'<n->W (i+1) m' x->
    ∃m,m<n/\∃i os h,os.length=xs.length/\Inv (LX X xs js scope f.objs.size { s with heap:=f } (upd H s.z (.ext (b5 X.prog X.w s.z []))) fp) [] (cσ os js σ) h t/\tn i t.heap/\(∀b∈fp,h b=KC)/\W i m h:=λ{m' x t} B F y0=>by
    refine #[m',F,i+1,M,x,l8,B.eZ,T.keep _ _ _ Mp λb a o e=>(B.pin (b,o) (HP _ (HP _ (bN a e)))).1,λb a=>?_,y0]
    let[o',e,d]:=T.obj _ _ Mp b a
    exact(B.pin (b,o') (HP _ (HP _ (bN a e)))).2.1
   cases ok with
   |false=>
    rw[KH HF]at q9 ⊢
    let[m',F,w9]:=q9
    exact P I9 F w9
   |true=>
    rw[KI rfl]at q9 ⊢
    refine HJ (hk _ _ _ _ _ s9 _ _ _ I9 q9) (λkv t b0=>?_) λ_ _ z=>z
    let[kk,x,B,z0,b1]:=b0
    refine HJ (he _ _ _ _ _ t _ _ _ B b1) (λv j1 c0=>?_) λ_ _ z=>z
    let[vv,k1,c1,d1,b,k,ys,ek,q0,e1,f1,r0,m',F,g1]:=c0
    subst ek
    cases z0
    exact xo (X:=LX X xs js scope f.objs.size { s with heap:=f } (upd H s.z (.ext (b5 X.prog X.w s.z []))) fp) hu c1 q0 e1 f1 d1 r0 λm1 h1=>P h1 F g1
 exact codeAny_compStart_dict O (T.self X.A 0 _ _ _ Nj O)
def x8(c:LO X xs js scope)(k:X.calm=KD)(l:PI X tg iter wi)(n:MW xs.length g own)(p:∀C s H fp,PG (LX X xs js scope C s H fp) tg g)(r:∀C s H fp,Py (LX X xs js scope C s H fp) ifs tc)(t:∀C s H fp,PE (LX X xs js scope C s H fp) kx tk)(u:∀C s H fp,PE (LX X xs js scope C s H fp) vx te)(y:X.A.units+8<IV)(z:∀x,Ia iter X.env x=pure x:=by intro _;rfl) : PE X (.DictComp kx vx [#[tg,iter,ifs,0]] scope pos) (oB X js own wi tc tk te):=by intro KQ s σ H Q I h;rw[arm_eval_DictComp];refine JP (use:=KC) rfl z (c.xx I.ok) c.kind c.names (LS (l KQ s σ H _ I h) λv N h1=>LS h1 λB O a=>?_);let[it,fp,tn,J,P,e,E,T,st,F,w]:=a;subst e;refine nW (R:=λi C=>compPost (HI X.prog X.w) X.A X.xe KC (EP X KQ σ Q) i C) c k n p r t u y E T st F w λD C G K L f d q=>?_;let[m,M]:=d;exact #[m,M,λS j=>#[.ref D,G,L.turned (t':=K.toks) (λb o ne e=>j.extBut b o ne e) f.1 f.2.1 f.2.2.2.1 f.2.2.2.2.1 f.2.2.2.2.2,8,q]]
def yJ{i:Nat}{y:Str}{l j:Pos}(c:LO X xs js scope)(F:X.calm=KD)(G:X.N.Nodup)(K:PI X tg iter wi)(L:MW xs.length g own)(M:∀C s H fp,PG (LX X xs js scope C s H fp) tg g)(O:∀C s H fp,Py (LX X xs js scope C s H fp) ifs tc)(P:∀C s H fp,PE (LX X xs js scope C s H fp) kx tk)(S:∀C s H fp,PE (LX X xs js scope C s H fp) vx te)(U:X.A.units+8<IV)(V:X.N[i]?=KA y)(E:X.env.scope.names.lookup y=KA .local)
 (p:JH (.DictComp kx vx [#[tg,iter,ifs,0]] scope pos) (KA (.Name y l)) j.line X.env=pure KD) (W:∀x,Ia iter X.env x=pure x:=by intro _;rfl) :
 PS X (.Assign [.Name y l] (.DictComp kx vx [#[tg,iter,ifs,0]] scope pos) j) (A6 (oB X js own wi tc tk te) (dq i)):=by
 intro KQ s σ H B I h
 rw[exec_Assign_Name_used _ _ _ _ p]
 refine Hl (Jw (Hl ?_))
 show Hy _ X.A (do let _ <-comprehension (.DictComp kx vx [⟨tg,iter,ifs,0⟩] scope pos) scope X.env _ newDict KG (eval iter X.env) (KA (Kk (.Name y l) X.env))) _ _ s
 refine Hl (HJ (JP (use:=KA (Kk (.Name y l) X.env)) (Q:=λ_ n=>SP X KQ B .next n) rfl W (c.xx I.ok) c.kind c.names
  (LS (K KQ s σ H _ I h) λv s1 h1=>LS h1 λY s2 Z=>?_)) (λ_ n hq=>Hs (Hs hq)) λ_ _ e=>e)
 let[it,fp,tn,J,H2,e,I2,T,st,f2,w]:=Z
 subst e
 refine nW (R:=λr C=>compPost (HI X.prog X.w) X.A X.xe (KA (Kk (.Name y l) X.env)) (λ_ n=>SP X KQ B .next n) r C) c F L M O P S U I2 T st f2 w λD C H' n I' k d q=>?_
 let[m,hm]:=d
 show Hy _ X.A (Kk (.Name y l) X.env (.ref D)) _ _ _
 refine wpAny_assign_Name (j3 I' G V (.inl E) (v:=.ref D) rfl (λs9 I9 f=>?_) (.inr E))
 let[a,sb,ha]:=f
 let t:C≠a:=by
  rcases ha with z|z
  .rw[z];exact k.2.1
  .exact λe=>k.2.2.2.2.1 y a z e.symm
 refine #[m,hm.sameBut sb t,λh' u=>?_]
 exact #[_,H',I9.turned (t':=s9.toks) (λb o ne e=>u.extBut b o ne e) k.1 k.2.1 k.2.2.2.1 k.2.2.2.2.1 k.2.2.2.2.2,q]
end
def B3(I:OI)(tk:OA)(js:sx)(tc:Lg)(g te:TD)(δ:DS)(a:MH)(Q:DK):Prop:=I.n<=900000/\∀p,a p=KC->∃W:Nat->Lw->MH->Prop,W 0 [] (au a p (ME []))/\(∀i kvs M,i<=I.n->W i kvs M->I.C M)/\
 (∀i kvs d M,i<I.n->I.item i=KA d->W i kvs M->∃os,xR tk d os/\tc (cδ os js δ) M λb c=>if b=KD then g (cδ os js δ) c λy h=>te (cδ os js δ) h λe f=>∃k,y=Ny k/\f p=KA (ME kvs)/\kvs.length<=i/\W (i+1) (putD kvs k e) (au f p (ME (putD kvs k e)))else W (i+1) kvs c)/\∀kvs M,W I.n kvs M->Q (.ref p) M
def lW(a:MP)(tk:OA)(js:sx)(tc:Lg)(b te:TD):TD:=λδ M Q=>a δ M λI c=>B3 I tk js tc b te δ c Q
section
variable{X:Cx}
def mw{F:MP}{tk:OA}{js:sx}{tc:Lg}{G te:TD}{σ:L2.St}{H:Hp}{Q:VK}(h:lift X.K (lW F tk js tc G te) σ H Q):oB X js (p6 X.K tk) (lC X.K F) (liftT X.K tc) (lift X.K G) (lift X.K te) σ H Q:=by
 let[δ,M,R,L,hM,q,x]:=h;refine #[δ,M,_,L,hM,q,λI M1 H1 J g1 N z A p B=>?_];let[hn,z]:=z;let[W,w0,hC,l,done]:=z p (N.fresh B);refine #[λi m g=>m=I.n-i/\i<=I.n/\LP X.K H1 g/\∃kvs M,LV X.K g M/\W i kvs M,#[I.n,by simp,IB _,.new B,[],_,N.Bu _ _ B,w0],?_];rintro i m g ⟨rfl,C,f,kvs,j,r,o⟩;by_cases a:i<I.n
 .refine .inr #[A.go i g j a f r (hC _ _ _ C o),λv H3 hy=>?_];let[D,a3,d,ed,rd]:=A.yld i g j v H3 a f r (hC _ _ _ C o) hy;let[os,ow,q3]:=l i kvs d j a ed o;let[us,uv,su]:=qK rd ow;let E:=jJ (js:=js) (L.mono ((g1.trans f).trans D)) su;refine #[us,uv,cδ os js δ,j,_,E,a3,q3,λb O H4 s P t=>?_];cases b with
  |false=>
   rw[KH HF]at t ⊢
   exact #[I.n-(i+1),(),8,a,(f.trans D).trans s,kvs,O,P,t]
  |true=>
   rw[KI rfl]at t ⊢
   refine #[cδ os js δ,O,_,E.mono s,P,t,λy M5 u H5 S r5 a5 q5=>#[cδ os js δ,M5,_,(E.mono s).mono S,a5,q5,λe M6 u6 T U r6 V c=>?_]]
   let[k,ey,e6,a0,w6]:=c
   subst ey
   let[b,8,sp]:=pY (r5.mono U)
   let[xs,h1,h2,Y,h4]:=V.dsp e6
   let Z:xs.length=kvs.length:=by have:=congrArg List.length h2;simpa using this
   let sz:1000000<=HK:=LR rfl
   let g7:LP X.K T (upd T p (.ext (b5 X.prog X.w p (gf xs k b u6)))):=.ext (h1 X.prog X.w)
   exact #[b,k,xs,8,h1 _ _,Y,sp,(),I.n-(i+1),(),8,a,((((f.trans D).trans s).trans S).trans U).trans g7,putD kvs k e,_,V.wN _ _ h1 h2 h4 Y sp r6,w6]
 .obtain rfl:i=I.n:=()
  exact .inl #[A.stop g j f r (hC _ _ _ C o),x _ _ _ _ (g1.trans f) (by rw[Rep]) r (done kvs j o)]
variable{xs:u_}{tg:sg}{pos:Pos}{js:sx}{scope:JB}{kx vx iter:sg}{ifs:tr}{tx te:TD}{tc:Lg}{g:TG}{tk:OA}{wd:MP}
theorem yO(i:Nat){y:Str}{j e:Pos}(k:X.N.Nodup)(G:X.A.units+66<IV)(c:LO X xs js scope)(l:X.calm=KD)(m:DI X tg iter wd)(n:MW xs.length g (p6 X.K tk))(o:∀C s H fp,PG (LX X xs js scope C s H fp) tg g)(p:∀C s H fp,DTs (LX X xs js scope C s H fp) ifs tc)(r:∀C s H fp,DE (LX X xs js scope C s H fp) kx tx)(t:∀C s H fp,DE (LX X xs js scope C s H fp) vx te) (u:X.N[i]?=KA y:=by rfl) (w:X.env.scope.names.lookup y=KA .local:=by rfl) (h:JH (.DictComp kx vx [#[tg,iter,ifs,0]] scope pos) (KA (.Name y j)) e.line X.env=pure KD:=by rfl) (f:∀x,Ia iter X.env x=pure x:=by intro _;rfl) : DSt X (.Assign [.Name y j] (.DictComp kx vx [#[tg,iter,ifs,0]] scope pos) e) (cG (lW wd tk js tc tx te) (aK i)):=cy (yJ (tk:=lift X.K tx) (te:=lift X.K te) (tc:=liftT X.K tc) c l k m n o p r t () u w h f) λE σ H b=>by let[δ,M,f,a,B,ok,q]:=b;exact(mw #[δ,M,_,f,a,q,λd I v H1 g1 z D F=>ok.nx _ _ _ _ g1 ((f.mono g1).set z i) D F])
theorem ve(i:Nat){x v:Str}{b e a:Pos}(f:X.N.Nodup)(h:X.A.units+66<IV)(c:LO X [x] js scope)(j:X.calm=KD)(k:DI X (.Name x b) iter wd)(l:∀C s H fp,DTs (LX X [x] js scope C s H fp) ifs tc)(m:∀C s H fp,DE (LX X [x] js scope C s H fp) kx tx)(n:∀C s H fp,DE (LX X [x] js scope C s H fp) vx te) (o:X.N[i]?=KA v:=by rfl) (p:X.env.scope.names.lookup v=KA .local:=by rfl) (d:JH (.DictComp kx vx [#[.Name x b,iter,ifs,0]] scope pos) (KA (.Name v e)) a.line X.env=pure KD:=by rfl) (q:∀x,Ia iter X.env x=pure x:=by intro _;rfl) : DSt X (.Assign [.Name v e] (.DictComp kx vx [#[.Name x b,iter,ifs,0]] scope pos) a) (cG (lW wd .one js tc tx te) (aK i)):=yO i f h c j k sE (λ_ _ _ _=>fK c 0 rfl) l m n o p d q
end
section
variable{X:Cx}
def Bv:Lx:=λx y M Q=>match x,y with
 |.ref a,.int k=>∃d,M a=KA (.lst [d])/\0<=k/\k<=1000/\∀z,M z=KC->Q (.ref z) (au M z (.lst (Ic k.toNat d)))
 |_,_=>False
theorem qY{K:Hm}{H:Hp}{d:D}{v:V}(r:Rep K H d v):∀n,aE K H (Ic n d) (Ic n v)
 |0=>by rw[List.replicate_zero,List.replicate_zero];exact .nil
 |n+1=>by rw[Js,Js];exact .cons r (qY r n)
theorem qV{a:Type}(v:a):∀n,(Ic n [v]).flatten=Ic n v
 |0=>rfl
 |n+1=>by rw[Js,Kf,qV v n];rfl
theorem AL:MF X (JL .Mult) Bv:=ix C2 λv u H Q f=>by
 let[x,y,M,R,g,h,a,q,b]:=f;unfold Bv at q;split at q
 .obtain⟨d,hd,h0,h1,q⟩:=q;obtain rfl:v=.ref _:=g;obtain rfl:u=.int _:=h;let[xs,hx,i]:=a _ _ hd;let[w,8,c]:=bR i;let sz:1000000<=HK:=LR rfl;refine #[_,_,7,8,hx,(),(),by simp;omega,λz e=>?_];rw[qV];exact b _ _ _ _ (.new e) (by rw[Rep]) (a.lK e (qY c _)) (q z (a.fresh e))
 .exact q.elim
end
section
def l6(a u:Hn):checkTypeCall "enumerate" #[[a],[("start",u)]]=pure .unit:=by kernel_rfl
def nL(a u:Hn):checkBuiltinCall "enumerate.__new__" #[[.type "enumerate",a],[("start",u)]]=pure .unit:=by kernel_rfl
def se(a b u:Hn):argsOk "object.__init__" #[[a,b],[("start",u)]]:=by unfold argsOk;rw[PySem.signature?_of (id:="object.__init__") (n:=['_','_','t','i','n','i','_','_']) (o:=['t','c','e','j','b','o']) (by kernel_rfl) F.owner_object];kernel_rfl
def mI(l it:r4):Obj×Obj:=({ cls:=.type "list_iterator",data:=.fields (List.toArray [.ref l,.int 0 0]) },{ cls:=.type "enumerate",data:=.fields (List.toArray [.none,.bool KG,.ref it,Kr 1,.none,.none]) })
variable{prog:HL}{w:Il}{A:Ig}{E:Hn->Hq->Prop}{s:Hq}{l:r4}{items:Array Hn}{n:Nat}{t:Tok}{Q:Hn->Hq->Prop}
def uQ(a:s.heap.get? l=KA { cls:=.type "list",dict:=KC,data:=.seq items n,slots:=#[] })
 (h:Q (.ref (s.heap.push (mI l 0).1).objs.size) { s with heap:=(s.heap.push (mI l 0).1).push (mI l s.z).2 }) :
 Hy (HI prog w) A (Kd.«enumerate.__new__» #[[.type "enumerate",.ref l],[("start",.int 1 t)]]) (λfin b=>∃v,fin=.done (.ret v)/\Q v b) E s:=by
 let[e,g,d,f,os]:=s
 let e1:=sub_enumerate
 let e2:Heap.IsList (Shared.heap #[e,g,d,f,os]) l items:=#[_,a,8,n,rfl]
 wp_walk using AutoSeq1.wpAny_loadPart' a
 refine wpAny_stack_any λst=>Hs ?_
 split
 case h_1 c _ _ _ _ _=>cases (c==Kg "enumerate")<;>(wp_walk using AutoSeq1.wpAny_loadPart' a,wpAny_pyIter_list e2;exact #[7,h])
 all_goals (wp_walk using AutoSeq1.wpAny_loadPart' a,wpAny_pyIter_list e2;exact #[7,h])
theorem sj:Meets (Kd.«enumerate.__new__» #[[.type "enumerate",.ref l],[("start",.int 1 t)]]) (λ_ R s=>s.heap.get? l=KA { cls:=.type "list",dict:=KC,data:=.seq items n,slots:=#[] }/\R (.ok (.ret (.ref (s.heap.push (mI l 0).1).objs.size))) { s with heap:=(s.heap.push (mI l 0).1).push (mI l s.z).2 }):=.of_wp λprog w A R s z=>uQ (Q:=λv a=>R (.ok (.ret v)) a) z.1 z.2
theorem qB{e:Hn}{u:Hn}:Meets (Kd.«object.__init__» #[[e,.ref l],[("start",u)]]) (λ_ R s=>s.TypeIs e "enumerate"/\R (.ok (.ret .none)) s):=
 .of_wp λprog w A R s a=>by
  let[ty,r]:=a
  let e1:=F.called_enumerate.init.lookup
  let e2:=F.called_enumerate.made
  repeat (any_goals (first|assumption|wp_step))
  exact #[7,r]
def tj(m:s.heap.get? l=KA { cls:=.type "list",dict:=KC,data:=.seq items n,slots:=#[] })
 (h:∀h',IsEnum h' (s.z+1) s.z 1 .none->h'.IsListIter s.z l 0->(∀b o,s.heap.get? b=KA o->h'.get? b=KA o)->Q (.ref (s.z+1)) { s with heap:=h' }) :
 Hy (HI prog w) A (call (.type "enumerate") [.ref l] [("start",.int 1 t)]) Q E s:=by
 let C:=F.called_enumerate
 let[c,p,u]:=C.mro
 let x:=C.made
 let y:=C.sub
 let B:=C.notType
 let D:=C.canCreate
 let G:=l6 (.ref l) (.int 1 t)
 refine wpAny_call (codeAny_of_tree (Hs #[Code.quiet_builtin _ (by decide +kernel),codeAny_builtin F.entry_type_call ?_]))
 rw[Around.under_plain rfl rfl]
 repeat (any_goals (first|assumption|wp_step))
 let j:(s.heap.push (mI l 0).1).objs.size=s.z+1:=J6 ..
 let g1:IsEnum ((s.heap.push (mI l 0).1).push (mI l s.z).2) (s.z+1) s.z 1 .none:=by
  have:=Hx (s.heap.push (mI l 0).1) (o:=(mI l s.z).2) rfl
  rw[j]at this;exact this
 let q:=h _ g1 #[_,Hr _ (Hx _ rfl),8,rfl] λb o z=>Hr _ (Hr _ z)
 refine codeAny_mono (codeAny_call_builtin C.plain F.entry_enumerate_new (wpAny_of_eq (nL _ _) (sj prog w A.in1 (wants (λv k=>v=.ref (s.z+1)/\k.TypeIs v "enumerate"/\Q v k) E) s #[m,by rw[j];exact #[8,#[_,g1,rfl],q]]))) λr f i=>?_
 match r,i with
 |.error e,i=>exact i
 |.ok (.ret v),⟨ev,ty,qv⟩=>
  let H:=C.init.lookup
  let I:=C.init.bind v
  repeat (any_goals (first|assumption|wp_step))
  refine codeAny_mono (codeAny_call_builtin C.init.plain F.entry_object_init (C.init.check _ _ _ _ _ _ _ _ ty (se _ _ _) (qB prog w A.in1 (wants (λr d=>r=.none/\Q v d) E) f #[ty,8,qv]))) λg d a=>?_
  match g,a with
  |.error e,a=>exact a
  |.ok (.ret r),⟨er,q2⟩=>
   subst er
   repeat (any_goals (first|assumption|wp_step))
end
section
variable{X:Cx}{elts:tr}{kt:Nat}{pt:Pos}
def mi{pos kp:Pos}{T:String}{e k:sg}{name:Str}{env:Env}{M:Model}{A:Ig}{E:Hn->Hq->Prop}{s:Hq}{Q:Hn->Hq->Prop}
 (h:Hy M A (spliced (IY pos (HC [e] env))) (λvs b=>Hy M A (eval k env) (λu c=>Hy M A (call (.type T) vs [(name,u)]) Q E c) E b) E s)
 (i:IY pos (HC [e] env)=(KG,eval e env)::IY pos (HC [] env):=by rfl) (g:(IY pos (HC [e] env)).any (·.1)=KG:=by rfl) :
 Hy M A (callWith pos (.type T) [] (IY pos (HC [e] env)) (Ks pos (JK [#[KA name,k,kp]] env))) Q E s:=by
 let j:Hy M A (evalArgs (.type T) KD (IY pos (HC [e] env)) (Ks pos (JK [#[KA name,k,kp]] env))) (λa b=>Hy M A (call (.type T) a.pos a.kw) Q E b) E s:=by
  rw[i]at h ⊢
  refine evalArgs_kwB rfl (HJ h (λvs b d=>?_) λ_ _ z=>z)
  exact kws_cons (HJ d (λu c f=>kws_nil f) λ_ _ z=>z)
 unfold callWith
 refine Hl (IM (HJ j (λa b d=>Hl (Jw ?_)) λ_ _ z=>z))
 let l:(Ks pos (JK [#[KA name,k,kp]] env)).any (·.1.isNone)=KG:=rfl
 simp only[g,l,Bool.or_false]
 exact Hl (Hs (Hl (HJ d (λr c m=>Hl (IM (wpAny_point (Hs m)))) λ_ _ z=>z)))
def C1(K:Hm)(b:TA):TI:=λσ H R=>b σ H λvs H1=>∃a xs,vs=[.ref a]/\H1 a=KA (.lst xs)/\R (W8 K 1 a) H1
def wC{a k:sg}{j:TA}{p pos kp:Pos}(y:Gl X "enumerate")(B:X.mg "enumerate"=KC)(C:PA X [a] j)(g:∀KQ s σ H (Q:VK),Inv X KQ σ H s->Q (.int 1) H->Hy (HI X.prog X.w) X.A (eval k X.env) (EP X KQ σ Q) X.xe s)
 (m:HC [a] X.env=[(KG,eval a X.env)]:=by rfl):PI X (.Tuple elts kt pt) (.Call (.Name "enumerate" p) [a] [#[KA "start",k,kp]] pos) (C1 X.K j):=by
 intro KQ s σ H R I h
 refine JN (fL I y B gG (mi (LS (C pos KQ s σ H _ I h) λus D ⟨vs,H1,E,F,G⟩=>?_) (by rw[m];rfl) (by rw[m];rfl)))
 let[l,xs,J,L,q]:=G
 subst J
 let[u,8,M]:=F.one
 cases M
 refine LS (g KQ D σ H1 (λv N=>v=.int 1/\N=H1) E #[8,rfl]) λu c ⟨v,o,f,O,e1,e2⟩=>?_
 subst e1 e2
 let[t,8]:=O
 let[z,P,n,r,T,e]:=f.pS L
 refine tj e λU x i g=>wpAny_pyIter_enum x ?_
 let fp:∀b∈[c.z+1,c.z],cJ X KQ o b:=λb S=>by
  let d:c.z<=b:=by
   rcases(show b=c.z+1\/b=c.z by simpa using S)with rfl|rfl
   .exact Kq _
   .exact Hu _
  exact f.pD d (f.hok.fresh d)
 exact #[_,[c.z+1,c.z],_,_,o,8,f.kept (t':=c.toks) g,nZ 1 l _ _ (Nat.succ_ne_self _),#[#[_,x],i],fp,q]
def DM(c:Ld):MP:=λδ M R=>c δ M λe b=>∃l a,e=[.ref l]/\b l=KA (.lst a)/\R #[a.length,λi=>(a[i]?).map λd=>.tup [.int ((i+1:Nat):Int),d],λM=>M l=KA (.lst a)] b
theorem yV{a:sg}{d:Ld}{p pos kp g:Pos}{kc}(h:Gl X "enumerate")(i:X.mg "enumerate"=KC)(j:DA X [a] d)(b:HC [a] X.env=[(KG,eval a X.env)]:=by rfl):DI X (.Tuple elts kt pt) (.Call (.Name "enumerate" p) [a] [#[KA "start",.Constant (.int 1) kc g,kp]] pos) (DM d):=
 km (wC h i j (λKQ s σ H Q I q=>xY KQ s σ H Q I q) b) λσ H R k=>by
  let[δ,M,w,b,m,q,c]:=k
  exact #[δ,M,_,b,m,q,λx n vs H1 g1 o f ⟨l,y,e,t,u⟩=>by
   subst e
   let[v,8,r]:=bR o
   rw[Rep]at r;subst r
   let[xs,hx,z]:=f _ _ t
   exact #[l,xs,8,hx,c _ n H1 _ g1 f u (uf 1)]]
end
section
variable{X:Cx}{KQ:sm}{σ:L2.St}{H:Hp}{s:Hq}
def k6{h':r_}{t':Nat}{ch:t_}(I:Inv X KQ σ H s)(k:∀b o,b∉ch->s.heap.get? b=KA o->h'.get? b=KA o)(f:∀b∈ch,cJ X KQ H b):Inv X KQ σ H { s with heap:=h',toks:=t' }:=by
 let ne:∀b u,H b=KA u->b∉ch:=λb u q d=>by rw[(f b d).1]at q;cases q
 refine I.step (g':=s.gens) (d':=s.drawn) (ch:=ch) (λb d=>?_) (λb o _ _ a q _=>k b o a q) (λb o _ _ a q _=>#[o.slots,k b o a q]) (λ_ _ _ _ n=>n) (λb o a q=>#[o,k b o a q]) (λ_ _ q=>q) (λ_ _ _ q=>q) (λb ps q=>#[#[],by rw[q];simp]) (λm e=>?_) (λb u q=>?_) I.bare
 .obtain⟨l,e1,_,e3,e4,g⟩:=f b d;exact #[e3,e1,e4,g]
 .obtain⟨o,h,i,j,r⟩:=e;exact #[o,h,i,k _ o (λd=>(f _ d).2.1 rfl) j,r]
 .refine(I.hok b u q).fW (λc v a z=>?_) (λ_ z=>z) λ_ _ z=>z;rcases a with y|y
  .subst y;exact k _ v (ne _ u q) z
  .exact k c v (ne c _ y) z
end
def Yk(K:Hm)(a b:r4):It:=
 #[λi H=>∃xs c x y,L8 K H a xs/\L8 K H b c/\xs[i]?=KA x/\c[i]?=KA y,λi H x d=>∃T y z,x=.ref T/\H T=KC/\d=upd H T (.tup [y,z])/\(∀xs,L8 K H a xs->xs[i]?=KA y)/\∀c,L8 K H b c->c[i]?=KA z,λi H=>∃xs c,L8 K H a xs/\L8 K H b c/\(xs.length<=i\/c.length<=i)]
def wZ{P:HL}{w:Il}{K:Hm}{L:tr}{kt}{pt:Pos}(a b z TI TO j l:r4)(D:ZipApart z TI TO j l a b):Turn P w K (.Tuple L kt pt) (Yk K a b) [z,TI,TO,j,l] z (λi h=>IsZip h z TI TO .none/\IsPair h TI (.ref j) (.ref l)/\(∃p q,IsPair h TO p q)/\h.IsListIter j a i/\h.IsListIter l b i) where
 mem:=by simp
 obj:=λi h st c f=>by
  obtain⟨h1,h2,⟨p,q,t⟩,u,A⟩:=st
  rcases(show c=z\/c=TI\/c=TO\/c=j\/c=l by simpa using f)with rfl|rfl|rfl|rfl|rfl
  .exact #[_,h1,λv y=>by cases (show Data.fields _=Data.cell v from y)]
  .exact #[_,h2,λv y=>by cases (show Data.seq _ _=Data.cell v from y)]
  .exact #[_,t,λv y=>by cases (show Data.seq _ _=Data.cell v from y)]
  .obtain⟨o,B,_,d⟩:=u
   exact #[o,B,λv y=>by rw[d]at y;cases y]
  .obtain⟨o,B,_,d⟩:=A
   exact #[o,B,λv y=>by rw[d]at y;cases y]
 keep:=λi h M st k=>by
  obtain⟨h1,h2,⟨p,q,t⟩,u,A⟩:=st
  exact #[k z (_) _ h1,k TI (_) _ h2,#[p,q,k TO (_) _ t],u.at λo y=>k j (_) o y,A.at λo y=>k l (_) o y]
 item:=by
  intro X V W Y f i KQ s σ H E I S st Z
  subst V W Y
  let[xs,ys,x,y,m,r,hx,hy]:=Z
  obtain⟨h1,h2,⟨p,q,t⟩,u,A⟩:=st
  let[N,C,p1,a0]:=I.list m
  let[O,F,p2,b0]:=I.list r
  let[Q,c0,d0]:=C.get hx
  let[R,e0,f0]:=F.get hy
  refine wpAny_pyNext_zip_item D h1 h2 t u A p1.isList p2.isList (x:=Q) (y:=R) ‹c0› ‹e0› λM a1 a2 a3 a4 a5 a6 a7=>#[7,wpAny_letOwnedTupleGo_zip (s:={ s with heap:=M }) a1 λG b1 T=>?_]
  let T:JD z M G:=T
  let fr:=I.fresh
  let lt:∀c∈[z,TI,TO,j,l],c<s.z:=λc f=>by
   rcases(show c=z\/c=TI\/c=TO\/c=j\/c=l by simpa using f)with rfl|rfl|rfl|rfl|rfl
   .exact HE h1
   .exact HE h2
   .exact HE t
   .obtain⟨o,B,_⟩:=u;exact HE B
   .obtain⟨o,B,_⟩:=A;exact HE B
  let I1:Inv X KQ σ (upd H s.z (.tup [x,y])) { s with heap:=s.heap.push { cls:=.type "tuple",data:=.seq (List.toArray [Q,R]) },toks:=s.toks }:=
   I.laid (λb v q=>Hr _ q) (Hu _) #[LR rfl,[Q,R],.cons d0 (.cons f0 .nil),#[_,Hx _ rfl,8,7],#[_,Hx _ rfl,rfl]]
  let fk:∀c∈[z,TI,TO,j,l],cJ X KQ (upd H s.z (.tup [x,y])) c:=λc f=>#[by rw[aG (HX (lt c f))];exact(S c f).1,(S c f).2]
  let I2:Inv X KQ σ (upd H s.z (.tup [x,y])) { s with heap:=G,toks:=s.toks }:=by
   refine k6 (ch:=[z,TO,j,l]) (s:={ s with heap:=s.heap.push { cls:=.type "tuple",data:=.seq (List.toArray [Q,R]) },toks:=s.toks }) I1 (λc o g q=>?_) λc f=>fk c (by simp at f ⊢;rcases f with rfl|rfl|rfl|rfl<;>simp)
   let q:(s.heap.push { cls:=.type "tuple",data:=.seq (List.toArray [Q,R]) }).get? c=KA o:=q
   simp at g
   refine(T.2 c g.1).trans ?_
   rcases Heap.get?_push_cases q with⟨rfl,rfl⟩|q
   .exact a5
   .exact a7 c o g.1 g.2.1 g.2.2.1 g.2.2.2 q
  let U:∀c o,c≠z->M.get? c=KA o->G.get? c=KA o:=λc o n e=>(T.2 c n).trans e
  refine #[.ref s.z,_,I2,8,#[_,x,y,8,fr,8,λzs J=>by rw[I.jQ J m];exact hx,λzs J=>by rw[I.jQ J r];exact hy],#[b1,U _ _ D.TIz (a7 _ _ D.TIz D.TITO D.TIi1 D.TIi2 h2),#[_,_,U _ _ D.TOz a2],a3.at λo e=>U _ o D.i1z e,a4.at λo e=>U _ o D.i2z e],λc f=>(fk c f).1]
 done:=by
  intro X V W Y f i KQ s σ H E I S st Z
  subst V W Y
  let[xs,ys,m,r,he]:=Z
  obtain⟨h1,h2,⟨p,q,t⟩,u,A⟩:=st
  let[N,C,p1,a0]:=I.list m
  let[O,F,p2,b0]:=I.list r
  let l1:=C.length
  let l2:=F.length
  refine wpAny_pyNext_zip_end (I.ok.hd f) D h1 h2 t u A p1.isList p2.isList (he.imp (λe=>by simp;omega) λe=>by simp;omega) λM k=>#[8,?_]
  exact k6 (t':=s.toks) (ch:=[z,TO,j,l]) I (λc o g q=>by simp at g;exact k c o g.1 g.2.1 g.2.2.1 g.2.2.2 q) λc f=>S c (by simp at f ⊢;rcases f with rfl|rfl|rfl|rfl<;>simp)
 self:=λ_ _ _ _ _ st h=>wpAny_pyIter_zip st.1 h
def Du{n l1 l2:Nat}(a:l1<n)(b:l2<n):ZipApart (n+4) (n+2) (n+3) n (n+1) l1 l2:=by constructor<;>exact λe=>absurd (id e:@Eq Nat _ _) ()
def CC:IG "zip"=KA (.type "zip"):=by decide +kernel
section
variable{X:Cx}{elts:tr}{kt:Nat}{pt:Pos}
def EN(K:Hm)(c:TA):TI:=λσ H R=>c σ H λvs H1=>∃a b xs d,vs=[.ref a,.ref b]/\H1 a=KA (.lst xs)/\H1 b=KA (.lst d)/\R (Yk K a b) H1
def CA{a b:sg}{x:TA}{p pos:Pos}(A:Gl X "zip")(B:X.mg "zip"=KC)(C:PA X [a,b] x)(E:HC [a,b] X.env=(KG,eval a X.env)::HC [b] X.env:=by rfl)(j:(IY pos (HC [b] X.env)).any (·.1)=KG:=by rfl):PI X (.Tuple elts kt pt) (.Call (.Name "zip" p) [a,b] [] pos) (EN X.K x):=by
 intro KQ s σ H R I h;refine Call_ (fL I A B CC (Jg (LS (C pos KQ s σ H _ I h) λus c d=>?_) E j));let[vs,H1,e,F,G]:=d;let[l1,l2,xs,T,J,k,l,q]:=G;subst J;let[U,V,8,m,n]:=vals2 F;cases m;cases n;let[W,f,n1,L,M,e1]:=e.pS k;let[Y,g,n2,N,O,e2]:=e.pS l;let P:c.heap.IsList l1 f.toArray:=#[_,e1,8,n1,rfl];let L2:c.heap.IsList l2 g.toArray:=#[_,e2,8,n2,rfl];let o:=HE e1;let r:=HE e2;refine call_zip_2 P L2 λZ y t u v w Q S=>wpAny_pyIter_zip y ?_
 let fp:∀b∈[c.z+4,c.z+2,c.z+3,c.z,c.z+1],cJ X KQ H1 b:=λb z=>by
  let i:c.z<=b:=by simp at z;rcases z with rfl|rfl|rfl|rfl|rfl<;>first|exact Nat.le_add_right _ _|exact Hu _
  exact e.pD i (e.hok.fresh i)
 let D:ZipApart (c.z+4) (c.z+2) (c.z+3) c.z (c.z+1) l1 l2:=by exact Du o r
 exact #[_,_,_,_,H1,8,e.kept (t':=c.toks) S,wZ l1 l2 _ _ _ _ _ D,#[y,t,#[_,_,u],v,w],fp,q]
def F1(g:Ld):MP:=λδ M R=>g δ M λh f=>∃a b c fs,h=[.ref a,.ref b]/\f a=KA (.lst c)/\f b=KA (.lst fs)/\R #[min c.length fs.length,λi=>(c[i]?).bind λd=>(fs[i]?).map λe=>.tup [d,e],λM=>M a=KA (.lst c)/\M b=KA (.lst fs)] f
theorem yR{K:Hm}{D:Ld}:∀(σ:L2.St)(H:Hp) R,lC K (F1 D) σ H R->EN K (wX K D) σ H R:=
 λσ H R N=>by
  let[δ,M,Z,O,P,q,s]:=N
  exact #[δ,M,_,O,P,q,λds Q vs H1 g1 S t U=>by
   let[l1,l2,c,fs,e,u,w,V]:=U
   subst e
   let[v1,v2,8,r,E]:=gc S
   rw[Rep]at r E;subst r E
   let[xs,hx,rs]:=t _ _ u
   let[W,A,rt]:=t _ _ w
   refine #[l1,l2,xs,W,8,hx,A,s _ Q H1 _ g1 t V #[λF k G j l=>?_,λi F k m G j l=>?_,?_]]
   .obtain⟨n,o⟩:=(show k l1=KA (.lst c)/\k l2=KA (.lst fs)from l)
    let[a,d,f]:=j _ _ n
    let[b,g,h]:=j _ _ o
    exists a,b,L8.of d,L8.of g
    show a.length<=min c.length fs.length\/b.length<=min c.length fs.length
    rw[<-f.length,<-h.length];omega
   .obtain⟨n,o⟩:=(show k l1=KA (.lst c)/\k l2=KA (.lst fs)from l)
    let[a,d,f]:=j _ _ n
    let[b,g,h]:=j _ _ o
    let m:i<min c.length fs.length:=m
    let h1:i<a.length:=by rw[<-f.length];omega
    let h2:i<b.length:=by rw[<-h.length];omega
    exact #[a,b,a[i],b[i],L8.of d,L8.of g,by simp[h1],by simp[h2]]
   .rintro i F k v H3 m G j l ⟨T,y,z,rfl,p,rfl,A,Y⟩
    let[n,o]:=(show k l1=KA (.lst c)/\k l2=KA (.lst fs)from l)
    let m:i<min c.length fs.length:=m
    let I:i<c.length:=()
    let J:i<fs.length:=()
    let[a,d,f]:=j _ _ n
    let[b,g,h]:=j _ _ o
    let[x,e1,e2]:=f.get (show c[i]?=KA c[i] by simp[I])
    let[x',B,C]:=h.get (show fs[i]?=KA fs[i] by simp[J])
    let t1:=A a (L8.of d)
    let L:=Y b (L8.of g)
    rw[e1]at t1;cases t1
    rw[B]at L;cases L
    exact #[.new p,j.new p,.tup [c[i],fs[i]],by simp[I,J],by rw[Rep];exact #[T,7,L7.of aH,.cons (e2.mono (.new p)) (.cons (C.mono (.new p)) .nil)]]]
theorem D5{a b:sg}{d:Ld}{p pos:Pos}(e:Gl X "zip")(f:X.mg "zip"=KC)(g:DA X [a,b] d)(h:HC [a,b] X.env=(KG,eval a X.env)::HC [b] X.env:=by rfl)(c:(IY pos (HC [b] X.env)).any (·.1)=KG:=by rfl):DI X (.Tuple elts kt pt) (.Call (.Name "zip" p) [a,b] [] pos) (F1 d):=km (CA e f g h c) yR
end
structure Gs(g h:Int):Prop where
 g0:0<g
 g1:g<=12
 h0:0<=h
 h1:h<=24
def gp(g h:Int)(u:Vc):D:=.tup [.int (g*u.1-h),.int (g*u.2-h)]
def L4(g h:Int)(w:Wl):D:=.tup [gp g h (ea w),gp g h (eb w)]
def vB{g h a c:Int}(b:0<g):g*a-h<g*c-h↔a<c:=by
 constructor
 .intro e;exact Int.lt_of_mul_lt_mul_left (():g*a<g*c) ()
 .intro e;have:=Int.mul_lt_mul_of_pos_left e b;omega
def sJ{g h a c:Int}(b:0<g):g*a-h=g*c-h↔a=c:=by let h1:=vB (h:=h) (a:=a) (c:=c) b;let h2:=vB (h:=h) (a:=c) (c:=a) b;omega
def Gp{g h a c:Int}(b:0<g):g*a-h<=g*c-h↔a<=c:=by let h2:=vB (h:=h) (a:=c) (c:=a) b;omega
def Ai{g h a b c d:Int}(e:0<g):HT.lexLt [g*a-h,g*b-h] [g*c-h,g*d-h]=HT.lexLt [a,b] [c,d]:=by simp only[HT.lexLt,vB e,sJ e]
def Bl{g h a b c d:Int}(e:0<g):HT.cF [g*a-h,g*b-h] [g*c-h,g*d-h]=HT.cF [a,b] [c,d]:=by simp only[HT.cF,vB e,sJ e,gt_iff_lt]
def ub{g h a b c d:Int}(e:0<g):HT.lexLe [g*a-h,g*b-h] [g*c-h,g*d-h]=HT.lexLe [a,b] [c,d]:=by simp only[HT.lexLe,vB e,sJ e,Gp e]
def F9(g h a b c d e f:Int):NX (g*c-h-(g*a-h)) (g*d-h-(g*b-h)) (g*e-h-(g*a-h)) (g*f-h-(g*b-h))=(g*g)*NX (c-a) (d-b) (e-a) (f-b):=by unfold NX;grind
def FR{g:Int}(a:0<g)(z:Int):HW (g*g*z)=HW z:=by let b:=IZ a a;rw[Int.sign_mul,Jb b,Int.one_mul]
def A2{g h x:Int}(G:Gs g h)(hx:0<=x/\x<=20):Bd 12 (g*x-h):=by let h1:=G.g0;let h2:=G.g1;let c:=G.h0;let d:=G.h1;let a:g*x<=12*20:=K8 h2 hx.2 hx.1 ⋯;let b:0<=g*x:=Ko () hx.1;show(g*x-h).natAbs<2^12;omega
def sR{g h:Int}(a:0<g)(u v:Vc):Iy (.tuple [.int (g*u.1-h),.int (g*u.2-h)]) (.tuple [.int (g*v.1-h),.int (g*v.2-h)])=decide (u=v):=by rw[oO,KN,sJ a,sJ a];exact #[λe=>Prod.ext e.1 e.2,λe=>by rw[e];exact #[8,rfl]]
def LY(M:MH)(r:r4)(n:Nat):Prop:=∃a b c:Int,M r=KA (.lst [.int a,.int b,.int c])/\0<=a/\0<=b/\b<2147483647/\0<=c/\c<=n
theorem LY.le{M:MH}{r:r4}{n m:Nat}(h:LY M r n)(l:n<=m):LY M r m:=let⟨a,b,c,h1,h2,d,e,f,g⟩:=h;#[a,b,c,h1,h2,d,e,f,()]
theorem LY.ne{M:MH}{r p:r4}{n:Nat}(h:LY M r n)(a:M p=KC):r≠p:=let⟨_,_,_,h1,_⟩:=h;az h1 a
theorem LY.new{M:MH}{r p:r4}{n:Nat}{o:MO}(h:LY M r n)(d:M p=KC):LY (au M p o) r n:=let⟨a,b,c,h1,h2⟩:=h;#[a,b,c,by rw[ak (az h1 d)];exact h1,h2]
theorem LY.upd{M:MH}{r p:r4}{n:Nat}{o:MO}(h:LY M r n)(ne:r≠p):LY (au M p o) r n:=let⟨a,b,c,h1,h2⟩:=h;#[a,b,c,by rw[ak ne];exact h1,h2]
def Kx(xs:t_)(M b:MH):Prop:=∀a o,a∉xs->M a=KA o->b a=KA o
theorem Kx.refl{xs:t_}{M:MH}:Kx xs M M:=λ_ _ _ h=>h
theorem Kx.trans{xs:t_}{M c M2:MH}(a:Kx xs M c)(b:Kx xs c M2):Kx xs M M2:=λx o n h=>b x o n (a x o n h)
theorem Kx.upd{xs:t_}{M b:MH}{p:r4}{o:MO}(a:Kx xs M b)(c:p∈xs):Kx xs M (au b p o):=λx u n h=>by let ne:x≠p:=λe=>n (by rw[e];exact c);rw[ak ne];exact a x u n h
theorem Kx.new{xs:t_}{M b:MH}{p:r4}{o:MO}(a:Kx xs M b)(c:b p=KC):Kx xs M (au b p o):=λx u n h=>by rw[ak (az (a x u n h) c)];exact a x u n h
theorem Kx.sub{xs:t_}{M c M2:MH}(a:Kx xs M c)(b:Sub c M2):Kx xs M M2:=λx o n h=>b x o (a x o n h)
def Vy(g h:Int)(w:Wl):Kj:=.tuple [.tuple [.int (g*w.1-h),.int (g*w.2.1-h)],.tuple [.int (g*w.2.2.1-h),.int (g*w.2.2.2-h)]]
theorem je{M:MH}(g h:Int):∀ws:vp,Np M (ws.map (L4 g h)) (ws.map (Vy g h))
 |[]=>.nil
 |w::ws=>.cons (Pd.of rfl) (je g h ws)
theorem yS(g h:Int):∀ws:vp,Ji (ws.map (Vy g h))=KD
 |[]=>rfl
 |w::ws=>by rw[HG,Ji,yS g h ws];rfl
theorem xk(g h:Int):∀ws:vp,PyData.depthAll (ws.map (Vy g h))<=10
 |[]=>LR rfl
 |w::ws=>by
  rw[HG,PyData.depthAll]
  exact Nat.max_le.mpr #[LR rfl,xk g h ws]
def eO(g h:Int)(ws:vp):JY (.list (ws.map (Vy g h)))=KD:=by unfold JY;let h1:=yS g h ws;let h2:=xk g h ws;rw[Je];refine #[by rw[PyData.canLay0];exact h1,KL ?_];rw[PyData.depth];omega
theorem dH(g h:Int):∀ws:vp,Iy (.list (ws.map (Vy g h))) (.list [])=ws.isEmpty
 |[]=>by simp[Iy,IT]
 |w::ws=>by simp[Iy,IT]
def lZ{g h:Int}{ws:vp}{v:Int}(h0:0<=v)(h1:v<ws.length):∃w,w∈ws/\atI (ws.map (L4 g h)) v=KA (L4 g h w):=by
 obtain⟨j,rfl⟩:∃j:Nat,v=(j:Int):=#[v.toNat,()];let a:j<ws.length:=()
 exact #[ws[j],Iq a,aW (by simp[a])]
def uH{g h:Int}{w:Wl}(W:L5 w){v:Int}(h0:0<=v)(h1:v<2):∃p,Lh p/\atI [gp g h (ea w),gp g h (eb w)] v=KA (gp g h p):=by
 rcases(():v=0\/v=1)with rfl|rfl
 .exact #[_,W.ea,rfl]
 .exact #[_,W.eb,rfl]
def yG{ws:vp}:PF ws↔ws.Pairwise Mq:=by
 rw[Ja];constructor
 .intro h i j b c a;exact h i j _ _ () (Ht b) (Ht c)
 .intro h i j U V a d e;let[b,8]:=Hw.mp d;let[c,8]:=Hw.mp e;rcases Nat.lt_or_gt_of_ne a with z|z
  .exact h i j b c z
  .exact(h j i c b z).swap
theorem uh{a b:vp}(p:b.Perm a)(h:PF a):PF b:=yG.mpr ((p.pairwise_iff λ{x y} z=>Mq.swap z).mpr (yG.mp h))
theorem C9{ws:vp}{w:Wl}{j:Nat}(h:PF ws)(hw:∀(t:Nat)(v:Wl),ws[t]?=KA v->Mq w v):PF (ic ws j w):=uh (kQ ws j w) (uh (List.perm_append_singleton w ws).symm (vA h hw))
def Al{g h:Int}(d:0<g){u v:Vc}(i:Lh u)(hv:Lh v)(ne:u≠v):∃w:Wl,L5 w/\(if HT.lexLt [g*v.1-h,g*v.2-h] [g*u.1-h,g*u.2-h]=KD then[g*v.1-h,g*v.2-h]else[g*u.1-h,g*u.2-h])=[g*w.1-h,g*w.2.1-h]/\
 (if HT.cF [g*v.1-h,g*v.2-h] [g*u.1-h,g*u.2-h]=KD then[g*v.1-h,g*v.2-h]else[g*u.1-h,g*u.2-h])=[g*w.2.2.1-h,g*w.2.2.2-h]:=by
 let[w,e1,e2,W]:=vT (p:=u.1) (q:=u.2) (e:=v.1) (f:=v.2) i.1 i.2 hv.1 hv.2 (λz=>ne (Prod.ext z.1 z.2))
 exists w,W,?_
 .rw[Ai d]
  by_cases c:HT.lexLt [v.1,v.2] [u.1,u.2]=KD
  .rw[KI c]at e1 ⊢
   injection e1 with b a;injection a with a _
   rw[b,a]
  .rw[KH c]at e1 ⊢
   injection e1 with b a;injection a with a _
   rw[b,a]
 .rw[Bl d]
  by_cases c:HT.cF [v.1,v.2] [u.1,u.2]=KD
  .rw[KI c]at e2 ⊢
   injection e2 with b a;injection a with a _
   rw[b,a]
  .rw[KH c]at e2 ⊢
   injection e2 with b a;injection a with a _
   rw[b,a]
def vR{b:Type}(f:b->D)(l:List b):cutD (l.map f) (KA 1) KC=(l.drop 1).map f:=by
 unfold cutD;rw[show(KA 1:ti)=KA ((1:Nat):Int)from rfl,HT.jv,HT.mX];cases l with
 |nil=>rfl
 |cons a l=>
  have:min 1 ((a::l).map f).length=1:=by simp
  rw[this]
  simp
  exact Jo (_)
theorem xV{M:MH}:∀bs:List Bool,Np M (bs.map D.bl) (bs.map PyData.bool)
 |[]=>.nil
 |b::bs=>.cons (.bl b) (xV bs)
theorem xa:∀bs:List Bool,Ji (bs.map PyData.bool)=KD
 |[]=>rfl
 |b::bs=>by rw[HG,Ji,xa bs];rfl
def Cn(c:Bool)(bs:List Bool):(bs.map PyData.bool).any (λq=>Iy q (.bool c))=bs.any (λb=>b==c):=by
 rw[List.any_map]
 congr 1
def raw(g h:Int)(w:Wl):Wl:=(g*w.1-h,g*w.2.1-h,g*w.2.2.1-h,g*w.2.2.2-h)
theorem ym(g h:Int):∀ws:vp,(ws.map (raw g h)).map uw=ws.map (L4 g h)
 |[]=>rfl
 |w::ws=>by rw[HG,HG,HG,ym g h ws];rfl
def Ef{g h:Int}(G:Gs g h){w:Wl}(W:L5 w):Y2 (10^3) (raw g h w):=by
 let k:∀{x:Int},(0<=x/\x<=20)->-(10^3)<=g*x-h/\g*x-h<=10^3:=λ{x} hx=>by
  let h1:=G.g0
  let h2:=G.g1
  let e:=G.h0
  let f:=G.h1
  let a:g*x<=12*20:=K8 h2 hx.2 hx.1 ⋯
  let b:0<=g*x:=Ko () hx.1
  omega
 exact #[k W.a,k W.b,k W.c,k W.d]
theorem uI{ws:vp}:∀{i:Nat}{a:sq},WQ ws i a->a.length<=i
 |0,a,h=>by rw[show a=[]from h];simp
 |i+1,a,⟨qs,h1,h2⟩=>by
  have:=uI h1
  rcases h2 with⟨_,rfl⟩|⟨_,r,_,rfl⟩
  .omega
  .simp;omega
structure W5(ws:vp)(r:sx):Prop where
 rng:Zj ws r
 len:r.length<=2*ws.length
 lt:∀g∈r,g<2*ws.length
 pos:0<r.length
theorem oI{ws:vp}(b:∀w∈ws,L5 w)(hF:PF ws):∀{i:Nat}{a:sq},i<=2*ws.length->WQ ws i a->∀r∈a,W5 ws r
 |0,a,_,h,r,hr=>by rw[show a=[]from h]at hr;cases hr
 |i+1,a,hi,⟨qs,h1,h2⟩,r,hr=>by
  rcases h2 with⟨_,rfl⟩|⟨_,k,⟨c,n,e,rfl⟩,rfl⟩
  .exact oI b hF () h1 r hr
  .rcases HQ.mp hr with z|z
   .exact oI b hF () h1 r z
   .have:r=rn ws i c:=‹z›
    subst this
    let f:=tM b hF (():i<2*ws.length) n
    refine #[#[i,c,(),f,8,e],by rw[kn];omega,λg d=>?_,by rw[kn];omega]
    unfold rn at d
    let[j,_,8]:=Iz.mp d
    exact j8 b hF () j
def RL.get{M:MH}{ps:t_}{b:sq}(h:RL M ps b){i:Nat}(c:i<ps.length):∃r,b[i]?=KA r/\M ps[i]=KA (.lst (r.map v_)):=by
 unfold RL at h
 induction h generalizing i with
 |nil=>simp at c
 |@cons p r ps b a _ ih=>
  cases i with
  |zero=>exact #[r,8,a]
  |succ i=>simpa using ih ‹c›
def yu{ws:vp}(e:∀w∈ws,L5 w){g:Nat}(i:g<2*ws.length):Lh (fa ws g):=by
 let[_,_,f]:=eG (ws:=ws) (k:=((g/2:Nat):Int)) () ();let W:=e _ f;unfold fa fw;by_cases h:g%2=0
 .rw[KI h];exact #[W.a,W.b]
 .rw[KH h];exact #[W.c,W.d]
def tJ{n j:Nat}(h:j<n):L2.ixN n (j:Int)=KA j:=by unfold L2.ixN;rw[KI (),KI ()];rfl
theorem jF(k:Lc)(d:D)(c:Lc):∀kvs:Lw,((kvs.map λx=>if x.1=k then(x.1,d)else x).find? λx=>decide (x.1=c)).map (·.2)=if c=k/\(kvs.any λx=>decide (x.1=k))=KD then KA d else(kvs.find? λx=>decide (x.1=c)).map (·.2)
 |[]=>by simp
 |x::kvs=>by
  let f:=jF k d c kvs
  rw[HG,Ie,Ie,K1]
  by_cases a:x.1=k
  .rw[KI a]
   by_cases b:x.1=c
   .have e:c=k:=b.symm.trans a
    simp[a,e]
   .have ne:¬c=k:=λz=>b (a.trans z.symm)
    rw[KH (λz=>ne z.1)]
    rw[KH (λz=>ne z.1)]at f
    simp only[KJ b]
    exact f
  .rw[KH a]
   by_cases b:x.1=c
   .have ne:¬c=k:=λz=>a (b.trans z)
    rw[KH (λz=>ne z.1)]
    simp[b]
   .simp only[KJ b,KJ a,Bool.false_or]
    exact f
def qr(kvs:Lw)(k:Lc)(d:D)(a:Lc):dS (putD kvs k d) a=if a=k then KA d else dS kvs a:=by
 unfold putD dS;by_cases h:(kvs.any λx=>decide (x.1=k))=KD
 .rw[KI h,jF];by_cases e:a=k
  .rw[KI #[e,h],KI e]
  .rw[KH (λz=>e z.1),KH e]
 .rw[KH h,List.find?_append];by_cases e:a=k
  .subst e;have:(kvs.find? λx=>decide (x.1=a))=KC:=by rw[List.find?_eq_none];intro x hx b;exact h (List.any_eq_true.mpr #[x,hx,b])
   rw[this,KI rfl];simp
  .rw[KH e];have:([(k,d)]:Lw).find? (λx=>decide (x.1=a))=KC:=by simp;exact λz=>e z.symm
   rw[this];simp
def qh(kvs:Lw)(k:Lc)(d:D):(putD kvs k d).map (·.1)=if k∈kvs.map (·.1)then kvs.map (·.1)else kvs.map (·.1)++[k]:=by
 unfold putD;let e:((kvs.any λx=>decide (x.1=k))=KD)↔k∈kvs.map (·.1):=by rw[List.any_eq_true,Iz];exact #[λc=>by let[x,a,b]:=c;exact(#[x,a,‹b›]),λf=>by let[x,a,b]:=f;exact(#[x,a,‹b›])]
 by_cases h:k∈kvs.map (·.1)
 .rw[KI (e.mpr h),KI h,Jj];apply Jt;intro x _;show(if x.1=k then(x.1,d)else x).1=x.1;split<;>rfl
 .rw[KH (λz=>h (e.mp z)),KH h,Ib];rfl
def yW(K:Hm):Own:=λy H os=>∃a b u v w,y=.ref a/\L7 K H a [u,.ref b]/\L7 K H b [v,w]/\os=[KA u,KA v,KA w]
def FJ(d:D)(os:DS):Prop:=∃p q r,d=.tup [p,.tup [q,r]]/\os=[KA p,KA q,KA r]
def vq{K:Hm}{H:Hp}{d:D}{v:V}{os:DS}(r:Rep K H d v)(h:FJ d os):∃us,yW K v H us/\Slots K H os us:=by let[p,q,t,8,8]:=h;rw[Rep]at r;let[a,xs,8,i,e]:=r;rw[aE]at e;let[u,n,8,j,e]:=e;rw[aE]at e;let[y,o,8,g,e]:=e;rw[aE]at e;subst e;rw[Rep]at g;let[b,s,8,k,c]:=g;let l:=c;rw[aE]at c;let[v,x,8,m,c]:=c;rw[aE]at c;let[w,z,8,f,c]:=c;rw[aE]at c;subst c;exact #[_,#[a,b,u,v,w,8,i,k,rfl],iG (ds:=[p,q,t]) (xs:=[u,v,w]) (.cons j (.cons m (.cons f .nil)))]
theorem Bm{K:Hm}:MW 3 (sv K 2 (fV (dq 0) (fV (sv K 2 (fV (dq 1) (fV (dq 2) tF))) tF))) (yW K):=#[λ_ _ os c=>by let[a,b,u,v,w,_,_,_,e]:=c;rw[e];rfl,λy H f g os Q h d q=>by
 let[a,b,u,v,w,e,h1,h2,i]:=d
 match f,h with
 |[o,o',o''],_=>rw[i]at q;exact #[a,_,e,h1,8,u,7,_,7,#[b,7,h2,8,v,7,w,7,8,8,q]]]
def Dz(I:OI)(js:sx)(tc:Lg)(te:TD)(δ:DS)(f:MH)(Q:DK):Prop:=I.n<=1000000/\∀p,f p=KC->∃W:Nat->vu->MH->Prop,W 0 [] (au f p (.lst []))/\(∀i a M,i<=I.n->W i a M->I.C M)/\
 (∀i a d M,i<I.n->I.item i=KA d->W i a M->∃os,FJ d os/\tc (cδ os js δ) M λb g=>if b=KD then te (cδ os js δ) g λe h=>∃c,Sub c h/\c p=KA (.lst a)/\W (i+1) (a++[e]) (au c p (.lst (a++[e])))else ∃c,Sub c g/\W (i+1) a c)/\∀a M,W I.n a M->Q (.ref p) M
def wz(a:MP)(js:sx)(tc:Lg)(te:TD):TD:=λδ M Q=>a δ M λI b=>Dz I js tc te δ b Q
section
variable{X:Cx}{K:Hm}
def rX{C:MP}{js:sx}{tc:Lg}{te:TD}{σ:L2.St}{H:Hp}{Q:VK}(h:lift K (wz C js tc te) σ H Q):oT js (yW K) (lC K C) (liftT K tc) (lift K te) σ H Q:=by
 let[δ,M,R,D,P,q,t]:=h;refine #[δ,M,_,D,P,q,λI M1 H1 J g1 E w x p y=>?_];let[S,w]:=w;let[W,T,hC,l,done]:=w p (E.fresh y);refine #[λi m j=>m=I.n-i/\i<=I.n/\LP K H1 j/\∃c M,c.length<=i/\LV K j M/\W i c M,#[I.n,by simp,IB _,.new y,[],_,Hu _,E.lK y .nil,T],?_];rintro i m j ⟨rfl,z,f,c,k,U,r,o⟩;by_cases a:i<I.n
 .refine .inr #[x.go i j k a f r (hC _ _ _ z o),λv V Y=>?_];let[A,Z,d,ed,rd]:=x.yld i j k v V a f r (hC _ _ _ z o) Y;let[os,ow,q3]:=l i c d k a ed o;let[us,uv,su]:=vq rd ow;let F:=jJ (js:=js) (D.mono ((g1.trans f).trans A)) su;refine #[us,uv,cδ os js δ,k,_,F,Z,q3,λb M4 H4 B G s=>?_];cases b with
  |false=>
   rw[KH HF]at s ⊢
   let[M5,s5,w5]:=s
   exact #[I.n-(i+1),(),8,a,(f.trans A).trans B,c,M5,(),G.sub s5,w5]
  |true=>
   rw[KI rfl]at s ⊢
   refine #[cδ os js δ,M4,_,F.mono B,G,s,λe M' u H5 g5 r5 L g=>?_]
   let[M6,N,e6,w6]:=g
   let[zs,hx,O]:=(L.sub N) _ _ e6
   refine #[zs,hx,?_,I.n-(i+1),(),8,a,(((f.trans A).trans B).trans g5).trans (.lst hx),c++[e],_,by simp;omega,(L.sub N).u7 hx (O.append (.cons r5 .nil)),w6]
   rw[<-O.length]
   exact Nat.lt_of_le_of_lt U (HY a (Iv S ⋯))
 .obtain rfl:i=I.n:=()
  exact .inl #[x.stop j k f r (hC _ _ _ z o),t _ _ _ _ (g1.trans f) (by rw[Rep]) r (done c k o)]
end
section
variable{X:Cx}{x y z:Str}{px py pz pt pu pos:Pos}{kt ku:Nat}{js:sx}{scope:JB}{elt iter:sg}{ifs:tr}{te:TD}{tc:Lg}{wd:MP}
theorem Aj(c:LO X [x,y,z] js scope)(a:X.calm=KD){C:r4}{s:Hq}{H:Hp}{fp:t_}:PG (LX X [x,y,z] js scope C s H fp) (.Tuple [.Name x px,.Tuple [.Name y py,.Name z pz] ku pu] kt pt) (sv X.K 2 (fV (dq 0) (fV (sv X.K 2 (fV (dq 1) (fV (dq 2) tF))) tF))):=pE (X:=LX X [x,y,z] js scope C s H fp) a (eP (fK c 0 rfl) (eP (pE (X:=LX X [x,y,z] js scope C s H fp) a (eP (fK c 1 rfl) (eP (fK c 2 rfl) lV)) rfl rfl) lV)) rfl rfl
end
section
variable{X:Cx}{x y z:Str}{px py pz pt pu pos:Pos}{kt ku:Nat}{js:sx}{scope:JB}{elt iter:sg}{ifs:tr}{te:TD}{tc:Lg}{wd:MP}
theorem xG(i:Nat){v:Str}{h b:Pos}(k:X.N.Nodup)(c:LO X [x,y,z] js scope)(j:X.calm=KD)(l:DI X (.Tuple [.Name x px,.Tuple [.Name y py,.Name z pz] ku pu] kt pt) iter wd)(m:∀C s H fp,DTs (LX X [x,y,z] js scope C s H fp) ifs tc)(n:∀C s H fp,DE (LX X [x,y,z] js scope C s H fp) elt te) (o:X.N[i]?=KA v:=by rfl) (p:X.env.scope.names.lookup v=KA .local:=by rfl) (g:JH (.ListComp elt [#[.Tuple [.Name x px,.Tuple [.Name y py,.Name z pz] ku pu] kt pt,iter,ifs,0]] scope pos) (KA (.Name v h)) b.line X.env=pure KD:=by rfl) (f:∀x,Ia iter X.env x=pure x:=by intro _;rfl) : DSt X (.Assign [.Name v h] (.ListComp elt [#[.Tuple [.Name x px,.Tuple [.Name y py,.Name z pz] ku pu] kt pt,iter,ifs,0]] scope pos) b) (cG (wz wd js tc te) (aK i)):=cy (tZ (te:=lift X.K te) (tc:=liftT X.K tc) c j k l Bm (λ_ _ _ _=>Aj c j) m n o p g f) λE σ H e=>by let[δ,M,f,a,B,ok,q]:=e;exact(rX #[δ,M,_,f,a,q,λd w v H1 g1 r t u=>ok.nx _ _ _ _ g1 ((f.mono g1).set r i) t u])
end
section
variable{X:Cx}{x y:Str}{px py pt pos:Pos}{kt:Nat}{js:sx}{scope:JB}{kx vx iter:sg}{ifs:tr}{tx te:TD}{tc:Lg}{wd:MP}
theorem uP(i:X.A.units+66<IV)(c:LO X [x,y] js scope)(a:X.calm=KD)(b:DI X (.Tuple [.Name x px,.Name y py] kt pt) iter wd)(d:∀C s H fp,DTs (LX X [x,y] js scope C s H fp) ifs tc)(e:∀C s H fp,DE (LX X [x,y] js scope C s H fp) kx tx)(f:∀C s H fp,DE (LX X [x,y] js scope C s H fp) vx te) (g:∀x,Ia iter X.env x=pure x:=by intro _;rfl):DE X (.DictComp kx vx [#[.Tuple [.Name x px,.Name y py] kt pt,iter,ifs,0]] scope pos) (lW wd (.many 2) js tc tx te):=bf (x8 (tk:=lift X.K tx) (te:=lift X.K te) (tc:=liftT X.K tc) c a b zh (λ_ _ _ _=>ug c a) d e f () g) λ_ _ _ h=>mw h
end
section
variable{X:Cx}
def wY{a b:Str}:decide (V.str a=V.str b)=decide (a=b):=by by_cases h:a=b<;>simp[h]
def Fu:Lx:=λx y M Q=>match x,y with
 |.str a,.str b=>Q (.bl (decide (a=b))) M
 |x,y=>DF x y M Q
theorem kJ(e:X.A.units+64<IV):MF X (Ik .Eq) Fu:=ix (F4.or (bj e)) λv u H Q f=>by
 let[x,y,M,R,c,d,a,q,b]:=f;unfold Fu at q;split at q
 .obtain rfl:v=.str _:=by rw[Rep]at c;exact c
  obtain rfl:u=.str _:=by rw[Rep]at d;exact d
  exact .inl #[8,by rw[wY];exact b _ _ _ _ .refl (by rw[Rep]) a q]
 .exact .inr #[x,y,M,R,c,d,a,q,b]
end
def QT(f:Str)(d:D):List (Str×D)->List (Str×D)
 |[]=>[(f,d)]
 |(g,x)::r=>if g=f then(g,d)::r else(g,x)::QT f d r
def gO(K:Hm)(H:Hp):List (Str×D)->List (Str×V)->Prop
 |[],[]=>True
 |p::ps,q::qs=>p.1=q.1/\Rep K H p.2 q.2/\gO K H ps qs
 |_,_=>False
section
variable{K:Hm}{H H':Hp}
theorem gO.mono(g:LP K H H'):∀{fs:List (Str×D)} {vs:List (Str×V)},gO K H fs vs->gO K H' fs vs
 |[],[],_=>trivial
 |_::_,_::_,h=>#[h.1,h.2.1.mono g,gO.mono g h.2.2]
 |[],_::_,h=>h.elim
 |_::_,[],h=>h.elim
theorem gO.len:∀{fs:List (Str×D)} {vs:List (Str×V)},gO K H fs vs->vs.length=fs.length
 |[],[],_=>rfl
 |_::_,_::_,h=>by rw[Ih,Ih,gO.len h.2.2]
 |[],_::_,h=>h.elim
 |_::_,[],h=>h.elim
theorem gO.get{f:Str}:∀{fs:List (Str×D)} {vs:List (Str×V)},gO K H fs vs->(∀d,fs.lookup f=KA d->∃v,vs.lookup f=KA v/\Rep K H d v)/\(fs.lookup f=KC->vs.lookup f=KC)
 |[],[],_=>#[λ_ e=>(by cases e),λ_=>rfl]
 |(g,x)::r,(g',y)::r',h=>by
  let[e,h1,h2]:=h
  let e:g=g':=e
  subst e
  let a:=gO.get (f:=f) h2
  simp only[List.lookup]
  cases f==g with
  |true=>exact #[λd e=>(by cases e;exact #[y,8,h1]),λe=>(by cases e)]
  |false=>exact a
 |[],_::_,h=>h.elim
 |_::_,[],h=>h.elim
theorem gO.put{f:Str}{d:D}{v:V}(r:Rep K H d v):∀{fs:List (Str×D)} {vs:List (Str×V)},gO K H fs vs->gO K H (QT f d fs) (gC f v vs)
 |[],[],_=>#[8,r,trivial]
 |(g,x)::q,(g',y)::q',h=>by
  let[e,h1,h2]:=h
  let e:g=g':=e
  subst e
  unfold QT gC
  by_cases z:g=f
  .rw[KI z,KI z];exact #[8,r,h2]
  .rw[KH z,KH z];exact #[8,h1,gO.put r h2]
 |[],_::_,h=>h.elim
 |_::_,[],h=>h.elim
end
def dn(C:r4)(fs:List (Str×D)):MO:=.gen λK H a=>∃b vs,H a=KA (.ins C b vs)/\gO K H fs vs
theorem BV{K:Hm}{H:Hp}{a C b:r4}{fs:List (Str×D)}{vs:List (Str×V)}(h:H a=KA (.ins C b vs))(r:gO K H fs vs):nD K H a (dn C fs):=#[#[b,vs,h,r],by rw[h];simp,λc g e=>#[b,vs,e.trans h,r.mono g]]
theorem LV.Hd{K:Hm}{H:Hp}{M:MH}{p:r4}{o:HO}{m:MO}(h:LV K H M)(g:LP K H (upd H p o))(q:nD K (upd H p o) p m):LV K (upd H p o) (au M p m):=λa u e=>by
 by_cases ne:a=p
 .subst ne;rw[ai]at e;cases e;exact q
 .rw[ak ne]at e;exact(h a u e).fW g (aG ne)
def E4(K:Hm)(c:TD)(f:Str):TD:=λδ M Q=>c δ M λx b=>∃a C fs d,x=.ref a/\b a=KA (dn C fs)/\Cls K C/\bV K C f/\fs.lookup f=KA d/\Q d b
def FK(K:Hm)(c d:TD)(f:Str):Lv:=λB δ M=>d δ M λy e=>c δ e λx b=>∃a C fs,x=.ref a/\b a=KA (dn C fs)/\Cls K C/\bV K C f/\fs.length<1000/\B.nx δ (au b a (dn C (QT f y fs)))
def tm(P:HL)(w:Il)(K:Hm)(mg:Str->Option Hn)(base:r_)(k:Nat)(C:r4)(m:Str)(sp:Lo):Prop:=
 ∃f fd ps,Ll P w K mg base MY k f fd ps (d3 K sp)/\Meth K C m f/\Binds K fd ps []
def uS(P:HL)(w:Il)(K:Hm)(mg:Str->Option Hn)(base:r_)(k:Nat)(c:Str)(C:r4)(sp:Lo):Prop:=
 ∃f fd ps,Ll P w K mg base MY k f fd ps (d3 K sp)/\L2.Mk K C f/\Binds K fd ps []/\mg c=KA (.ref C)
def vP(P:HL)(w:Il)(K:Hm)(mg:Str->Option Hn)(base:r_)(k:Nat)(c m:Str)(sp:Lo):Prop:=
 ∃S f fd ps,Ll P w K mg base MY k f fd ps (d3 K sp)/\J5 K (.ref f)=KD/\Binds K fd ps []/\mg c=KA (.ref S)/\
  PySem.W.specialIn K (.ref S) "__getattribute__"=KA (KA (.builtin "type.__getattribute__"))/\PySem.W.readsIn K S (.type "type")=KD/\PySem.W.findCls K (.ref S) (.type "type") m=KA (.val (.ref f))
section
variable{P:HL}{w:Il}{K:Hm}{mg:Str->Option Hn}{base:r_}{j k:Nat}{C:r4}{c m:Str}{sp:Lo}
theorem tm.mono(h:tm P w K mg base j C m sp)(l:j<=k):tm P w K mg base k C m sp:=let⟨f,fd,ps,F,r⟩:=h;#[f,fd,ps,F.mono l,r]
theorem uS.mono(h:uS P w K mg base j c C sp)(l:j<=k):uS P w K mg base k c C sp:=let⟨f,fd,ps,F,r⟩:=h;#[f,fd,ps,F.mono l,r]
theorem vP.mono(h:vP P w K mg base j c m sp)(l:j<=k):vP P w K mg base k c m sp:=let⟨S,f,fd,ps,F,r⟩:=h;#[S,f,fd,ps,F.mono l,r]
end
def B5(C:r4)(m:Str)(sp:Lo)(c:TD)(t:Ld):TD:=λδ M Q=>c δ M λx b=>∃a fs,x=.ref a/\b a=KA (dn C fs)/\fs.lookup m=KC/\t δ b λd e=>sp (x::d) e Q
def Ei(C:r4)(sp:Lo)(t:Ld):TD:=λδ M Q=>t δ M λb a=>∀x,a x=KC->sp (.ref x::b) (au a x (dn C [])) λv c=>v=.non/\Q (.ref x) c
section
variable{X:Cx}{k:Nat}{C:r4}{x c m f:Str}{sp:Lo}{p np pos pos' apos:Pos}{o e value:sg}{es:tr}{ta tv:TD}{t:Ld}
theorem dN(j:DE X o ta)(r:JO o f X.env (eval o X.env)=eval o X.env:=by rfl):DE X (.Attribute o f pos) (E4 X.K ta f):=
 bf (Co j r) λσ H Q b=>by let[δ,M,R,s,w,q,g]:=b;exact(#[δ,M,_,s,w,q,λx G v H1 g1 h i z=>by
  let[a,C,fs,d,ex,h1,c,n,l,y]:=z
  subst ex
  rw[Rep]at h;subst h
  obtain⟨⟨A,vs,B,D⟩,_⟩:=i _ _ h1
  let[u,E,F]:=D.get.1 d l
  exact #[a,C,A,vs,u,8,B,c,n,E,g _ _ _ _ g1 F i y]])
theorem gn(hv:DE X value tv)(D:DE X o ta)(d:JH value (KA (.Attribute o f pos')) pos.line X.env=pure KG:=by rfl):DSt X (.Assign [.Attribute o f pos'] value pos) (FK X.K ta tv f):=
 cy (Cw D hv d) λE σ H b=>by let[δ,M,d,F,B,ok,q]:=b;exact(#[δ,M,_,d,F,q,λy G v H1 g1 I J L=>#[δ,G,_,d.mono g1,J,L,λx O u j h r s z=>by
  let[a,C,fs,ex,h1,c,n,l,N]:=z
  subst ex
  rw[Rep]at r;subst r
  obtain⟨⟨w,vs,i,A⟩,_⟩:=s _ _ h1
  let g:LP X.K j (upd j a (.ins C w (gC f v vs))):=.put (λxs z=>by rw[i]at z;cases z) (λu xs z=>by rw[i]at z;cases z)
  exact #[a,C,w,vs,8,i,c,n,by rw[A.len];exact l,ok.nx _ _ _ _ ((g1.trans h).trans g) (d.mono ((g1.trans h).trans g)) (s.Hd g (BV aH ((A.mono g).put (I.mono (h.trans g))))) N]]])
def ue{pl:Sem Bool}(cl:Cls X.K C)(F:tm X.prog X.w X.K X.mg X.base k C m sp)(n:LU k X.A)(r:DE X o ta)(s:DA X (e::es) t)
 (b:HC (e::es) X.env=(KG,eval e X.env)::HC es X.env:=by rfl) (d:(IY pos (HC es X.env)).any (·.1)=KG:=by rfl)
 (u:eval (.Call (.Attribute o m apos) (e::es) [] pos) X.env=(do
  let ov <-eval o X.env
  standAt apos.atName
  let(f,first) <-holding [ov] (getMethod ov m pl)
  callWith pos f first (IY pos (HC (e::es) X.env)) (Ks pos (JK [] X.env))):=by rfl):DE X (.Call (.Attribute o m apos) (e::es) [] pos) (B5 C m sp ta t):=by
 let[f,fd,ps,F,y,B]:=F
 refine bf (A0 r cl y F n B .nil ux s b d u) λσ H Q ⟨δ,M,R,h,D,q,g⟩=>#[δ,M,_,h,D,q,λx E v H1 g1 i j z=>?_]
 let[a,fs,ex,h1,l,G]:=z
 subst ex
 rw[Rep]at i;subst i
 obtain⟨⟨I,vs,J,L⟩,_⟩:=j _ _ h1
 refine #[a,I,vs,8,J,L.get.2 l,δ,E,_,h.mono g1,j,G,λV N us O P S T U=>?_]
 show d3 X.K sp (.ref a::(us++[])) O Q E0
 rw[Jm]
 exact #[_,N,R,.cons (by rw[Rep]) S,T,U,g.go (g1.trans P)]
def AO(F:uS X.prog X.w X.K X.mg X.base k x C sp)(B:LU (k+1) X.A)(D:DA X (e::es) t)(E:Gl X x:=by rfl)(h:(x==("__debug__":Str))=KG:=by decide)
 (G:HC (e::es) X.env=(KG,eval e X.env)::HC es X.env:=by rfl) (i:(IY pos (HC es X.env)).any (·.1)=KG:=by rfl):DE X (.Call (.Name x p) (e::es) [] pos) (Ei C sp t):=by
 let[f,fd,ps,F,I,J,L]:=F
 refine bf (As I F B E L J .nil ux D h G i) λσ H Q ⟨δ,M,R,N,O,q,j⟩=>#[δ,M,_,N,O,q,λds P us H1 g1 S l z=>λy a r hd ne=>?_]
 let g:LP X.K H1 (upd (upd H1 a (.own y)) y (.ins C a [])):=(LP.new hd).trans (.new (by rw[aG ne.symm];exact r))
 let T:LV X.K (upd (upd H1 a (.own y)) y (.ins C a [])) (au P y (dn C [])):=λb u e=>by
  by_cases n:b=y
  .subst n
   rw[ai]at e;cases e
   exact BV aH trivial
  .rw[ak n]at e
   let nd:b≠a:=λz=>by
    subst z
    have:=l.fresh hd
    rw[e]at this;cases this
   exact(l b u e).fW g (by rw[aG n,aG nd])
 show d3 X.K sp (.ref y::(us++[])) _ _ E0
 rw[Jm]
 exact #[_,_,_,.cons (by rw[Rep]) (S.mono g),T,z y (l.fresh r),λd M' v H' U s V W=>by
  let[Y,Z]:=W
  subst Y
  rw[Rep]at s
  exact #[s,j _ _ _ _ ((g1.trans g).trans U) (by rw[Rep]) V Z]]
def Ae{pl:Sem Bool}(F:vP X.prog X.w X.K X.mg X.base k c m sp)(v:LU k X.A)(y:DA X (e::es) t)(B:Gl X c:=by rfl)(d:(c==("__debug__":Str))=KG:=by decide)
 (g:HC (e::es) X.env=(KG,eval e X.env)::HC es X.env:=by rfl) (i:(IY pos (HC es X.env)).any (·.1)=KG:=by rfl)
 (D:eval (.Call (.Attribute (.Name c np) m apos) (e::es) [] pos) X.env=(do
  let ov <-eval (.Name c np) X.env
  standAt apos.atName
  let(f,first) <-holding [ov] (getMethod ov m pl)
  callWith pos f first (IY pos (HC (e::es) X.env)) (Ks pos (JK [] X.env))):=by rfl):DE X (.Call (.Attribute (.Name c np) m apos) (e::es) [] pos) (sY sp t):=by
 let[S,f,fd,ps,F,E,G,J,L,N,O]:=F
 intro KQ s σ H Q I h
 let[δ,M,R,P,T,q,j]:=h
 refine PySem.W.methodCall_KW (pl:=pl) (pj I B J ?_ d) D
 refine PySem.W.method_cls I.kIn L (PySem.W.cls_value I.kIn N O rfl ?_)
 let U:=I.tok (s.toks+1)
 refine PySem.W.callWith_K (h₀:=X.base) I.ok.mod.kin E (LS (y pos KQ _ σ H _ U #[δ,M,_,P,T,q,λa b vs H1 g1 l n z=>(show ∃a b,LP X.K H H1/\aE X.K H1 a vs/\LV X.K H1 b/\sp a b R from #[a,b,g1,l,n,z])]) λus V ⟨vs,H1,u,r,z⟩=>#[u.kIn,?_]) g i
 let[a,b,g1,l,n,z]:=z
 refine rL F v G .nil ux u r ?_
 rw[Jm]
 exact #[a,b,R,l,n,z,j.go g1]
end
def pH(K:Hm)(C:r4)(x qual:Str)(st:r8):Prop:=∃f fd,Pn K x qual st f fd/\Meth K C x f
def wb(K:Hm)(mg:Str->Option Hn)(c x qual:Str)(st:r8):Prop:=∃S f fd,Pn K x qual st f fd/\mg c=KA (.ref S)/\
 PySem.W.specialIn K (.ref S) "__getattribute__"=KA (KA (.builtin "type.__getattribute__"))/\PySem.W.readsIn K S (.type "type")=KD/\PySem.W.findCls K (.ref S) (.type "type") x=KA (.val (.ref f))
def oA(K:Hm)(mg:Str->Option Hn)(c:Str)(C:r4)(qual:Str)(st:r8):Prop:=∃f fd,Pn K "__init__" qual st f fd/\L2.Mk K C f/\mg c=KA (.ref C)
section
variable{P:HL}{w:Il}{K:Hm}{mg:Str->Option Hn}{base:r_}{C:r4}{c x qual:Str}{st:r8}{N ps:u_}{k:Nat}{sp:Lo}
def Ff(T:pH K C x qual st)(S:LN N ps (ar st))
 (b:∀(kV a d:Hn)(an:Option r4)(cdv ct:Hn)(us:List Hn),us.length=ps.length->Kc (IH x qual (aY st) (aN st) (ar st) .none kV a d an cdv ct) #[us,[]]=pure (ps.zip us))
 (len:∀ds M Q,sp ds M Q->ds.length=ps.length)
 (body:∀(f:r4)(cdv:Hn)(A:Ig)(outer:List Env)(s:Hq)(H:Hp)(E:XK),LU k (A.deeper (Kl qual (ar st) s.z f cdv))->
  ∃t,DSs (hW MY P w K mg base N qual (ar st) f cdv A outer s H E).nox (aN st) t/\∀ds M Q,sp ds M Q->t (kY Q) (dr N ds) M):tm P w K mg base (k+1) C x sp:=by
 let[f,fd,F,e]:=T
 exact #[f,fd,ps,Vz F S len (λ_ _=>trivial) (body f),e,F.binds b]
def Gy(T:wb K mg c x qual st)(S:LN N ps (ar st))
 (b:∀(kV a d:Hn)(an:Option r4)(cdv ct:Hn)(us:List Hn),us.length=ps.length->Kc (IH x qual (aY st) (aN st) (ar st) .none kV a d an cdv ct) #[us,[]]=pure (ps.zip us))
 (len:∀ds M Q,sp ds M Q->ds.length=ps.length)
 (body:∀(f:r4)(cdv:Hn)(A:Ig)(outer:List Env)(s:Hq)(H:Hp)(E:XK),LU k (A.deeper (Kl qual (ar st) s.z f cdv))->
  ∃t,DSs (hW MY P w K mg base N qual (ar st) f cdv A outer s H E).nox (aN st) t/\∀ds M Q,sp ds M Q->t (kY Q) (dr N ds) M):vP P w K mg base (k+1) c x sp:=by
 let[e,f,fd,F,r]:=T
 exact #[e,f,fd,ps,Vz F S len (λ_ _=>trivial) (body f),F.kp,F.binds b,r]
def FY(T:oA K mg c C qual st)(S:LN N ps (ar st))
 (b:∀(kV a d:Hn)(an:Option r4)(cdv ct:Hn)(us:List Hn),us.length=ps.length->Kc (IH "__init__" qual (aY st) (aN st) (ar st) .none kV a d an cdv ct) #[us,[]]=pure (ps.zip us))
 (len:∀ds M Q,sp ds M Q->ds.length=ps.length)
 (body:∀(f:r4)(cdv:Hn)(A:Ig)(outer:List Env)(s:Hq)(H:Hp)(E:XK),LU k (A.deeper (Kl qual (ar st) s.z f cdv))->
  ∃t,DSs (hW MY P w K mg base N qual (ar st) f cdv A outer s H E).nox (aN st) t/\∀ds M Q,sp ds M Q->t (kY Q) (dr N ds) M):uS P w K mg base (k+1) c C sp:=by
 let[f,fd,F,e,g]:=T
 exact #[f,fd,ps,Vz F S len (λ_ _=>trivial) (body f),e,F.binds b,g]
end
section
variable{K:Hm}{mg:Str->Option Hn}{c x qual:Str}{st:r8}{C f:r4}{oc:Hn}{od an:Option r4}{osl:Array (Option Hn)}{kV doc pm cdv ct:Hn}
def pH.mk(a:JZ K IA c=KA (KA (.ref C)))(b:Jc K (.ref C) x=KA (KA (.ref f)))(e:PySem.W.isFn K (.ref f)=KD) (l:K.lookup f=KA #[oc,od,.func (IH x qual (aY st) (aN st) (ar st) .none kV doc pm an cdv ct),osl]) (d:JR K cdv qual=KD) (k:J5 K (.ref f)=KD):pH K (cl K c) x qual st:=by rw[uo a];exact #[f,_,pR l d k,b,e,k]
theorem wb.mk{h:r_}(X:K.In h)(G:h.Ns IA mg)(a:JZ K IA c=KA (KA (.ref C)))(b:PySem.W.findCls K (.ref C) (.type "type") x=KA (.val (.ref f)))(e:PySem.W.specialIn K (.ref C) "__getattribute__"=KA (KA (.builtin "type.__getattribute__")))(r:PySem.W.readsIn K C (.type "type")=KD) (l:K.lookup f=KA #[oc,od,.func (IH x qual (aY st) (aN st) (ar st) .none kV doc pm an cdv ct),osl]) (d:JR K cdv qual=KD) (k:J5 K (.ref f)=KD):wb K mg c x qual st:=#[C,f,_,pR l d k,PySem.W.mg_of X G a,e,r,b]
def oA.mk{h:r_}(X:K.In h)(G:h.Ns IA mg)(a:JZ K IA c=KA (KA (.ref C)))(m:PySem.W.makesIn K C=KD)(b:Jc K (.ref C) "__init__"=KA (KA (.ref f)))(e:PySem.W.isFn K (.ref f)=KD)(kc:J5 K (.ref C)=KD) (l:K.lookup f=KA #[oc,od,.func (IH "__init__" qual (aY st) (aN st) (ar st) .none kV doc pm an cdv ct),osl]) (d:JR K cdv qual=KD) (k:J5 K (.ref f)=KD):oA K mg c (cl K c) qual st:=by rw[uo a];exact #[f,_,pR l d k,#[m,b,e,kc],PySem.W.mg_of X G a]
def D0(a:JZ K IA c=KA (KA (.ref C)))(pg:PySem.W.plainGet K C Str.empty=KD)(hd:PySem.W.hasDictIn K C=KD)(po:PySem.W.plainOver K C=KD)(sa:Jc K (.ref C) "__setattr__"=KA (KA (.builtin "object.__setattr__"))):Cls K (cl K c):=by rw[uo a];exact #[pg,hd,po,sa]
def qk(a:JZ K IA c=KA (KA (.ref C)))(h:Jc K (.ref C) x=KA KC):bV K (cl K c) x:=by rw[uo a];exact h
end
structure Y5(P:HL)(w:Il)(K:Hm)(mg:Str->Option Hn)(base:r_)(k:Nat)(g:r4)(sp:Lo)(Mc:MH->Prop):Prop where
 ex:∃Pg:r_->Prop,(∀(M:Model) h,Pg h->∃k,(k=Keeper.frame\/k=Keeper.machine\/k=Keeper.boundFrame)/\PySem.W.Looks M h (keeperOf (.ref g)) k)/\
  ∀(A:Ig)(outer:List Env)(s:Hq)(H:Hp)(M:MH),LU k A->Mf P w K mg base A outer s H->LV K H M->Mc M->Pg s.heap/\
   ∀(us:List Hn)(vs:vo)(Q:VK),Vals vs us->d3 K sp vs H Q E0->JE (HI P w) A (.call (.ref g) #[us,[]]) (CR MY outer P w H s Q E0) s
abbrev kg(scope:JB)(L:r4)(cl:List (Str×r4))(qual:Str)(g:r4)(cd:Hn):Env:=newEnv scope L IA cl (qual++".<locals>.") (KA g) cd KC builtinsNs
def qG(P:HL)(w:Il)(K:Hm)(mg:Str->Option Hn)(base:r_)(N:u_)(qual:Str)(scope:JB)(cl:List (Str×r4))(g:r4)(cd:Hn)(A:Ig)(outer:List Env)(s:Hq)(H:Hp):Cx where
 prog:=P
 w:=w
 K:=K
 mg:=mg
 base:=base
 A:=A.deeper (kg scope s.z cl qual g cd)
 N:=N
 s₀:=s
 H₀:=H
 env:=kg scope s.z cl qual g cd
 outer:=outer
 stack:=kg scope s.z cl qual g cd::outer
 ex:=[]
 calm:=KD
 fn:=λ_=>KG
 pn:=[]
 xe:=λ_ _=>False
def cY(a:r4)(o:Obj):r_->Prop:=λh=>h.get? a=KA o
def pN(a:r4)(q:Str):r_->Prop:=λh=>h.CodeRec (.ref a) q
def zB(q:Str):MO:=.gen λ_ H a=>H a=KA (.ext (pN a q))
def uX(ps:Array Hn):MO:=.gen λ_ H a=>H a=KA (.tbl ps)
theorem nT{h base a:r_}:∀{l:List Env},h.FunFrames base l->(∀b∈NW l,a.get? b=KC)->h.FunFrames a l
 |[],_,_=>trivial
 |env::r,z,n=>by
  obtain⟨d,⟨L,o,c,j,f,hd⟩,g⟩:=z
  let e:NW (env::r)=L::NW r:=by unfold NW;rw[JG,c]
  rw[e]at n
  exact #[d,#[L,o,c,n L K6,f,hd],nT g λb i=>n b (IL _ i)]
structure Mk(K:Hm)(mg:Str->Option Hn)(c0 Pt:r4):Prop where
 hd:PySem.W.codeHdIn K c0 Pt=KD
 bm:∃bm o,mg "__builtins__"=KA (.ref bm)/\bm≠builtinsNs/\bm≠IA/\K.lookup bm=KA o/\o.cls=.type "module"/\o.dict=KA builtinsNs/\o.data=.plain
def Bb(pos:Pos)(a:r4):Array Hn:=(List.toArray [Kr pos.line,Kr pos.col,.ref a])
def dg(q:Str)(Pt:r4)(pos:Pos)(M:MH):Prop:=M Pt=KA (uX #[])\/∃a,M Pt=KA (uX (Bb pos a))/\M a=KA (zB q)/\a≠Pt
def lD(Pt:r4)(M b:MH):Prop:=∀a o,a≠Pt->M a=KA o->b a=KA o
section
variable{X:Cx}{KQ:sm}{σ:L2.St}{H:Hp}{s:Hq}{c0 Pt:r4}
def wt(I:Inv X KQ σ H s)(m:Mk X.K X.mg c0 Pt)(b:H Pt≠KC):s.heap.BuiltinsAt X.mg Pt:=by let[bm,o,h1,h2,c,a,d]:=m.bm;refine #[bm,o,h1,h2,c,λz=>?_,I.kIn _ _ a,d];subst z;exact b (I.bs _ _ (I.mod.kin _ _ a)).2
theorem Fn(I:Inv X KQ σ H s)(a:H Pt≠KC):IA≠Pt:=λz=>by let[o,b,c,e,_]:=I.mod.glob;rw[z]at e;exact a (I.bs _ _ e).2
theorem jS{P:HL}{w:Il}{b:Hp}{h:r_}{a:r4}{o:Obj}(e:h.get? a=KA o):bO P w b h a (.ext (cY a o)):=#[e,#[o,e],λh1 h2 z k=>k o z]
def D7{P:HL}{w:Il}{g:Hp}{h:r_}{a:r4}{q:Str}(e:h.CodeRec (.ref a) q):bO P w g h a (.ext (pN a q)):=by
 refine #[e,?_,λh1 h2 z k=>?_]
 .obtain⟨c,oc,vs,f,b,d,_⟩:=e;cases b;exact #[oc,d]
 .obtain⟨c,oc,vs,f,b,d,r⟩:=z;cases b;exact #[a,oc,vs,f,8,k oc d,r]
def Ac{h':r_}{tk:Nat}{o:Obj}(a:o.isFreed=KG)(I:Inv X KQ σ H s)(k:∀b u,s.heap.get? b=KA u->h'.get? b=KA u)(hsz:s.z<=h'.objs.size):H h'.objs.size=KC/\Inv X KQ σ (upd H h'.objs.size (.ext (cY h'.objs.size o))) { s with heap:=h'.push o,toks:=tk }:=by let c:H h'.objs.size=KC:=I.hok.fresh hsz;exact #[c,I.laid (t':=tk) (h':=h'.push o) (λb u e=>Hr _ (k b u e)) hsz (jS (Hx _ a))]
def xy{h':r_}{tk:Nat}{o:Obj}{q:Str}{a:r4}{ps more:Array Hn}(m:o.isFreed=KG)(I:Inv X KQ σ H s)(f:H Pt=KA (.tbl ps))(hx:Heap.ExtBut Pt s.heap h')(h1:s.z<=a)(h2:a<h'.objs.size)(A:h'.CodeRec (.ref a) q)
 (w:h'.get? Pt=KA (PySem.W.tabObj (ps++more))):H a=KC/\H h'.objs.size=KC/\Inv X KQ σ (upd (upd (upd H Pt (.tbl (ps++more))) a (.ext (pN a q))) h'.objs.size (.ext (cY h'.objs.size o))) { s with heap:=h'.push o,toks:=tk }:=by
 let B:Pt<s.z:=(I.hok _ _ f).lt
 let j:H a=KC:=I.hok.fresh h1
 let k:H h'.objs.size=KC:=I.hok.fresh (Iv h1 (JX h2))
 let n1:a≠Pt:=λz=>by rw[z,f]at j;cases j
 let n2:h'.objs.size≠Pt:=λz=>by rw[z,f]at k;cases k
 let n3:a≠h'.objs.size:=HX h2
 let h:∀{b:r4}{u:HO},H b=KA u->b≠Pt->upd (upd (upd H Pt (.tbl (ps++more))) a (.ext (pN a q))) h'.objs.size (.ext (cY h'.objs.size o)) b=KA u:=λ{b u} e n=>by
  rw[aG (λz=>by rw[z,k]at e;cases e),aG (λz=>by rw[z,j]at e;cases e),aG n];exact e
 let i:∀{b:r4},H b=KC->b<s.z->upd (upd (upd H Pt (.tbl (ps++more))) a (.ext (pN a q))) h'.objs.size (.ext (cY h'.objs.size o)) b=KC:=λ{b} e l=>by
  let y1:b≠h'.objs.size:=λz=>by rw[z]at l;exact absurd l (Nat.not_lt.mpr (Iv h1 (JX h2)))
  let C:b≠a:=λz=>by rw[z]at l;exact absurd l (Nat.not_lt.mpr h1)
  let D:b≠Pt:=λz=>by rw[z,f]at e;cases e
  rw[aG y1,aG C,aG D];exact e
 refine #[j,k,I.un (t':=tk) #[λb u e n _ _=>?_,λb u e n _ _=>#[u.slots,?_],λb u e n _=>i n (HE e),λb u e _=>?_,λb xs e=>h e (λz=>by rw[z,f]at e;cases e),λb u xs e=>h e (λz=>by rw[z,f]at e;cases e),λb qs e=>?_] λb u e=>?_]
 .exact Hr _ (hx b u (λz=>by rw[z,f]at n;cases n) e)
 .exact Hr _ (hx b u (λz=>by rw[z,f]at n;cases n) e)
 .by_cases z:b=Pt
  .subst z;exact #[_,Hr _ w]
  .exact #[u,Hr _ (hx b u z e)]
 .by_cases z:b=Pt
  .subst z
   rw[f]at e;cases e
   exact #[more,by rw[aG n2.symm,aG n1.symm,aH]]
  .exact #[#[],by rw[h e z];simp]
 .by_cases x:b=h'.objs.size
  .subst x
   rw[aH]at e;cases e
   exact jS (Hx _ m)
  .rw[aG x]at e
   by_cases y:b=a
   .subst y
    rw[aH]at e;cases e
    let[c,oc,vs,E,p,F,r]:=A
    cases p
    exact D7 #[b,oc,vs,E,8,Hr _ F,r]
   .rw[aG y]at e
    by_cases t:b=Pt
    .subst t
     rw[aH]at e;cases e
     exact Hr _ w
    .rw[aG t]at e
     refine(I.hok b u e).fW (λd v hd g=>Hr _ (hx d v ?_ g)) (λd g=>h g (λz=>by rw[z,f]at g;cases g)) λd xs g=>h g (λz=>by rw[z,f]at g;cases g)
     rcases hd with hd|hd
     .rw[hd];exact t
     .intro z;rw[z,f]at hd;cases hd
end
theorem LV.rR{K:Hm}{H:Hp}{M:MH}{a:r4}{o:HO}{A:Hm->Hp->r4->Prop}(h:LV K H M)(g:LP K H (upd H a o))(z:A K (upd H a o) a)(st:∀c,LP K (upd H a o) c->c a=KA o->A K c a):LV K (upd H a o) (au M a (.gen A)):=λb u e=>by
 by_cases ne:b=a
 .subst ne;rw[ai]at e;cases e;exact #[z,by rw[aH];simp,λc d f=>st c d (by rw[f,aH])]
 .rw[ak ne]at e;exact(h b u e).fW g (aG ne)
def BO(Pt:r4)(H:Hp):Prop:=∀b,b≠Pt->H b=KC\/∃o xs,H b=KA (.frz o (.lst xs))
def vH{P:HL}{w:Il}{K:Hm}{mg N:Str->Option Hn}{k:Nat}{fa a Pt c0:r4}{fd:FuncData}{x:Str}{sp:Sp}{c:Hq}{vs:List Hn}{ns:sy}
 (O:K.In c.heap) (Q:c.heap.Ns IA mg) (f:c.heap.Ns builtinsNs N) (R:∀x:Str,x≠"__name__"->N x=IG x) (D:c.heap.NoLimit) (hg:c.gens=#[])
 (y:c.heap.get? a=KA { cls:=.type "list",data:=.seq vs.toArray }) (hi:Jk vs ns) (hl:ns.length<=HK) (hr:LU k callerA) (E:c.heap.get? Pt=KA (PySem.W.tabObj #[])) (S:K.lookup Pt=KC) (hC:PySem.W.codeHdIn K c0 Pt=KD)
 (F:∀base:r_,Ll P w K mg base MY k fa fd [x] sp) (p:∀(s:Hq)(u:Hn),BindsTo s fd #[[u],[]] [(x,u)])
 (T:∀H:Hp,BO Pt H->H Pt=KA (.tbl #[])->L8 K H a (ns.map V.int)->sp [.ref a] H (λv _=>v=.bl KD) λ_ _ _=>False) :
 JE (HI P w) callerA (.call (.ref fa) #[[.ref a],[]]) (λr j=>r=.ok (.ret (.bool KD))/\OldK c.heap j.heap/\j.os=c.os/\AllBare j.gens) c:=by
 let rv:=iA hi
 let G:=hi.length
 let I:a≠Pt:=λz=>by
  rw[z,E]at y
  cases y
 let l:∀H:Hp,BO Pt H->H Pt=KA (.tbl #[])->L8 K H a (ns.map V.int)->MC P w H c.heap->(∀b,H b≠KC->b=a\/b=Pt)->(H a≠KC->K.lookup a=KC)->
  JE (HI P w) callerA (.call (.ref fa) #[[.ref a],[]]) (λr j=>r=.ok (.ret (.bool KD))/\OldK c.heap j.heap/\j.os=c.os/\AllBare j.gens) c:=by
  intro H hO hP hS hok hA hK
  let U:∀{b:r4}{o:Obj}{A:Array IQ}{B:Nat},c.heap.get? b=KA o->o.data=.dict A B->H b=KC:=λ{b o A B} e d=>by
   cases q:H b with
   |none=>rfl
   |some u=>
    rcases hA b (by rw[q];simp)with z|z
    .rw[z,y]at e;cases e
     let X:Data.seq vs.toArray _=Data.dict A B:=d
     cases X
    .rw[z,E]at e;cases e
     let X:Data.fields #[]=Data.dict A B:=d
     cases X
  let t:∀{b:r4}{m:Str->Option Hn},c.heap.Ns b m->(kq c.heap H).Ns b m:=λ{b m} z=>by
   let[o,A,B,e,d,r]:=z
   exact #[o,A,B,gY e (U e d),d,r]
  let Y:K.In (kq c.heap H):=λb o e=>gY (O b o e) (by
   cases q:H b with
   |none=>rfl
   |some u=>
    rcases hA b (by rw[q];simp)with z|z
    .subst z
     rw[hK (by rw[q];simp)]at e;cases e
    .rw[z,S]at e;cases e)
  let[mc,l1,l2]:=D
  let hM:Mod K mg (kq c.heap H):=#[Y,t Q,#[N,t f,R],#[mc,t l1,l2]]
  let e0:Mf P w K mg (kq c.heap H) callerA [] c H:=#[8,hM,λb o e=>oY e,Nat.le_of_eq (og _ _),trivial,λb f=>absurd (show b∈([]:t_)from f) (_),hok,.of_eq hg]
  refine codeAny_mono ((F _).run callerA [] c H #[[.ref a],[]] [.ref a] [.ref a] _ _ hr e0 (p c (.ref a)) (.cons rfl .nil) (T H hO hP hS)) λr j h=>?_
  cases r with
  |error e=>exact HS h
  |ok fl=>
   cases fl with
   |next=>exact HS h
   |brk=>exact HS h
   |cont=>exact HS h
   |ret u=>
    let[v,H',os,bare,un,n,r',q]:=h
    let q':v=.bl KD:=q
    subst q'
    obtain rfl:u=JU KD:=r'
    let[more,Z]:=un.tbls _ _ hP
    let J:j.heap.get? Pt=KA (PySem.W.tabObj (#[]++more)):=n _ _ Z
    let keep:∀b o,b≠Pt->c.heap.get? b=KA o->j.heap.get? b=KA o:=λb o i e=>by
     cases q:H b with
     |none=>exact un.keep b o e q (by intro z;exact absurd (show b∈([]:t_)from z) (_)) (_)
     |some u=>
      rcases hO b i with z|⟨ob,xs,z⟩
      .rw[q]at z;cases z
      .have z2:=un.frzs b ob _ z
       let[e1,_]:=hok b _ z
       let[e2,_]:=n b _ z2
       rw[e]at e1;cases e1
       exact e2
    let C:=PySem.W.codeHd_of_K O hC
    refine #[8,#[λb o e=>?_,λb o e=>?_],os,bare]
    .by_cases i:b=Pt
     .subst i
      rw[E]at e;cases e
      exact .inr (.inl #[(C.tab E).isCodeTable,8,#[],more,8,J])
     .exact .inl (keep b o i e)
    .by_cases i:b=Pt
     .subst i;exact #[_,J]
     .exact #[o,keep b o i e]
 let L:∀{H:Hp}{b:r4}{u:HO},b=Pt->H b=KA (.tbl #[])->H b=KA u->bO P w H c.heap b u:=λ{H b u} z e1 e2=>by
  rw[e1]at e2;cases e2
  rw[z];exact E
 cases hk:K.lookup a with
 |some o=>
  let e:=O a o hk
  rw[y]at e
  cases e
  refine l (λb=>if b=Pt then KA (.tbl #[])else KC) (λb i=>.inl (KH i)) (KI rfl) (.inr #[_,vs.toArray,_,hk,8,8,8,by rw[HD,G];exact hl,‹rv›]) (λb u z=>?_) (λb z=>?_) λz=>absurd (KH I) z
  .by_cases f:b=Pt
   .exact L f (KI f) z
   .have M:=(KH f).symm.trans z
    cases M
  .by_cases f:b=Pt
   .exact .inr f
   .exact absurd (KH f) z
 |none=>
  refine l (λb=>if b=Pt then KA (.tbl #[])else if b=a then KA (.frz { cls:=.type "list",data:=.seq vs.toArray } (.lst (ns.map V.int)))else KC) (λb i=>?_) (KI rfl) (.inl (.inr #[{ cls:=.type "list",data:=.seq vs.toArray },by show(if a=Pt then _ else _)=_;rw[KH I,KI rfl]])) (λb u z=>?_) (λb z=>?_) λ_=>hk
  .by_cases f:b=a
   .exact .inr #[_,_,by show(if b=Pt then _ else _)=_;rw[KH i,KI f]]
   .exact .inl (by show(if b=Pt then _ else _)=_;rw[KH i,KH f])
  .by_cases f:b=Pt
   .exact L f (KI f) z
   .have z1:=(KH f).symm.trans z
    by_cases g:b=a
    .have M:=(KI g).symm.trans z1
     cases M
     subst g
     exact #[y,by rw[Ho];exact hl,vs,_,rv,y]
    .have M:=(KH g).symm.trans z1
     cases M
  .by_cases f:b=Pt
   .exact .inr f
   .by_cases g:b=a
    .exact .inl g
    .exact absurd (by show(if b=Pt then _ else _)=_;rw[KH f,KH g]) z
def vf{l:PySem.W.OpenLaw}{k:Nat}{q:HL}{i:u_}{O:(Str->Option Hn)->r_->Prop}{t:Il->r_->Prop}{d:DefRec}{K:HN->Hm}{sp:Lo}{x:Str}{Pt c0:r4}
 (P:l.most=KA 63) (A:d.params.defaults=[]) (Q:LU k callerA)
 (R:∀(w:Il)(h:r_),t w h->(K w.params).In h) (S:∀(w:Il)(h:r_),t w h->h.get? Pt=KA (PySem.W.tabObj #[])) (B:∀w:Il,(K w.params).lookup Pt=KC) (hC:∀w:Il,PySem.W.codeHdIn (K w.params) c0 Pt=KD)
 (F:∀(w:Il)(mg:Str->Option Hn)(fa:r4)(h:r_),(K w.params).In h->h.Ns IA mg->mg d.name=KA (.ref fa)->
  ∃fd:FuncData,(∀(s:Hq)(u:Hn),BindsTo s fd #[[u],[]] [(x,u)])/\
   ∀base:r_,Ll l.prog w (K w.params) mg base MY k fa fd [x] (d3 (K w.params) sp))
 (C:∀(ns:sy)(M:MH),ns.length<=63->M Pt=KA (uX #[])->sp [.rol (ns.map D.int)] M (λd _=>d=.bl KD)) :
 PySem.W.WalkO q i O t l.row.toRowW d [] (λf vs=>PySem.call f vs):=by
 refine Att.qf P A λw s₀ J mg mb fa o pm cd U a vs ns G Y ho hd X E m j c Z=>?_
 let L:=R w _ Y
 let[fd,n,hF]:=F w mg fa _ L G.T.g E
 refine vH L G.T.g G.T.b G.T.builtins G.T.nolimit Z m j (Iv c ⋯) Q (S w _ Y) (B w) (hC w) hF n λH hO p hS=>?_
 let hF:Qc (K w.params) H a (ns.map V.int):=by
  rcases hS with(z|z)|z
  .exfalso
   by_cases N:a=Pt
   .rw[N,p]at z;cases z
   .rcases hO a N with y|⟨o,xs,y⟩
    .rw[z]at y;cases y
    .rw[z]at y;cases y
  .exact .inl z
  .exact .inr z
 refine #[[.rol (ns.map D.int)],λb=>if b=Pt then KA (uX #[])else KC,_,.cons (by rw[Rep];exact #[a,7,hF,iH ns]) .nil,λb u e=>?_,C ns _ c (KI rfl),λd M' v H' g r a' e=>?_]
 .by_cases n:b=Pt
  .have I:=(KI n).symm.trans e
   cases I
   rw[n]
   exact #[p,by rw[p];simp,λH' _ e=>e.trans p]
  .have I:=(KH n).symm.trans e
   cases I
 .subst e
  rw[Rep]at r
  exact r
def vF(K:Hm)(mg:Str->Option Hn)(x:Str)(st:r8)(c0:r4):Prop:=
 ∃(f:r4) (oc:Hn) (od:Option r4) (kV a b:Hn) (an:Option r4) (ct:Hn) (osl:Array (Option Hn)),K.lookup f=KA #[oc,od,.func (IH x x (aY st) (aN st) (ar st) .none kV a b an (.ref c0) ct),osl]/\JR K (.ref c0) x=KD/\J5 K (.ref f)=KD/\mg x=KA (.ref f)
section
variable{P:HL}{w:Il}{K:Hm}{mg:Str->Option Hn}{base:r_}
theorem vF.mk{h:r_}{x:Str}{st:r8}{f c0:r4}{oc:Hn}{od an:Option r4}{osl:Array (Option Hn)}{kV b d ct:Hn}(X:K.In h)(G:h.Ns IA mg)(a:JZ K IA x=KA (KA (.ref f))) (l:K.lookup f=KA #[oc,od,.func (IH x x (aY st) (aN st) (ar st) .none kV b d an (.ref c0) ct),osl]) (c:JR K (.ref c0) x=KD) (k:J5 K (.ref f)=KD):vF K mg x st c0:=#[f,oc,od,kV,b,d,an,ct,osl,l,c,k,PySem.W.mg_of X G a]
def Hc{x:Str}{st:r8}{N ps:u_}{k:Nat}{sp:Lo}{c0:r4}(T:vF K mg x st c0)(S:LN N ps (ar st))
 (u:∀(kV b i:Hn)(an:Option r4)(cdv ct:Hn)(us:List Hn),us.length=ps.length->Kc (IH x x (aY st) (aN st) (ar st) .none kV b i an cdv ct) #[us,[]]=pure (ps.zip us))
 (len:∀ds M Q,sp ds M Q->ds.length=ps.length)
 (body:∀(f:r4)(A:Ig)(outer:List Env)(s:Hq)(H:Hp)(E:XK),LU k (A.deeper (Kl x (ar st) s.z f (.ref c0)))->
  ∃t,DSs (hW MY P w K mg base N x (ar st) f (.ref c0) A outer s H E).nox (aN st) t/\∀ds M Q,sp ds M Q->t (kY Q) (dr N ds) M):Cal P w K mg base (k+1) x sp:=by
 let[f,oc,od,kV,b,i,an,ct,osl,y,j,kp,B]:=T
 refine #[f,_,ps,Bn y j S (λvs H Q E z=>?_) (λA outer s H vs Q E C z=>?_),B,kp,.all λus D=>u kV b i an (.ref c0) ct us D]
 .obtain⟨ds,M,R,l,_,q,_⟩:=z
  rw[<-l.length];exact len _ _ _ q
 .obtain⟨ds,M,R,l,a,q,e⟩:=z
  let[t,h,F]:=body f A outer s H E C
  refine #[_,h.nox,dr N ds,M,lj l,a,(kY R),#[λG I J o g L m c=>?_,λd I v o g r m c=>?_,λ_ _ _ _ _ _ _ z=>z,λ_ _ _ _ _ _ _ z=>z],F ds M R q]
  .obtain⟨p,n,c⟩:=c
   exact e .non p .non o g (by rw[Rep]) (m.sub n) c
  .obtain⟨p,n,c⟩:=c
   exact e _ _ _ _ g r (m.sub n) c
theorem EH{h:r_}{c0 Pt bm:r4}{o:Obj}(X:K.In h)(G:h.Ns IA mg)(hd:PySem.W.codeHdIn K c0 Pt=KD)(a:JZ K IA "__builtins__"=KA (KA (.ref bm)))(l:K.lookup bm=KA o)(h1:bm≠builtinsNs)(h2:bm≠IA)(b:o.cls=.type "module")(c:o.dict=KA builtinsNs)(d:o.data=.plain):Mk K mg c0 Pt:=#[hd,bm,o,PySem.W.mg_of X G a,h1,h2,l,b,c,d]
end
def dg.new{q:Str}{Pt:r4}{pos:Pos}{M:MH}{p:r4}{o:MO}(h:dg q Pt pos M)(a:M p=KC):dg q Pt pos (au M p o):=by
 rcases h with h|⟨c,h1,h2,b⟩
 .exact .inl (by rw[ak (λz=>by rw[z,a]at h;cases h)];exact h)
 .exact .inr #[c,by rw[ak (λz=>by rw[z,a]at h1;cases h1)];exact h1,by rw[ak (λz=>by rw[z,a]at h2;cases h2)];exact h2,b]
def dg.kx{q:Str}{Pt:r4}{pos:Pos}{M b:MH}{xs:t_}(h:dg q Pt pos M)(k:∀a o,a∉xs->M a=KA o->b a=KA o)(hx:∀a∈xs,∀A,M a≠KA (.gen A)):dg q Pt pos b:=by
 rcases h with h|⟨c,h1,h2,d⟩
 .exact .inl (k _ _ (λz=>hx _ z _ h) h)
 .exact .inr #[c,k _ _ (λz=>hx _ z _ h1) h1,k _ _ (λz=>hx _ z _ h2) h2,d]
theorem dg.sub{q:Str}{Pt:r4}{pos:Pos}{M b:MH}(h:dg q Pt pos M)(k:Sub M b):dg q Pt pos b:=h.kx (xs:=[]) (λa o _ e=>k a o e) (λ_ z=>nomatch z)
theorem dg.upd{q:Str}{Pt:r4}{pos:Pos}{M:MH}{p:r4}{o:MO}{ds:vu}(h:dg q Pt pos M)(b:M p=KA (.lst ds)):dg q Pt pos (au M p o):=h.kx (xs:=[p]) (λa u n e=>by rw[ak ‹n›];exact e) (λa c A e=>by rw[show a=p by simpa using c,b]at e;cases e)
def Q9(us:List (Int×Int))(i:Nat):Int:=1000*(p0 us i).1+(p0 us i).2
def WR(us:List (Int×Int)):Prop:=us.length<64/\us.Nodup/\∀u∈us,-500<=u.2/\u.2<500
theorem WR.inj{us:List (Int×Int)}(h:WR us):Inj us.length (Q9 us):=λi j a b e=>by
 let b1:=h.2.2 _ (jo a);let d:=h.2.2 _ (jo b);unfold Q9 at e;let e1:p0 us i=p0 us j:=Prod.ext () ();unfold p0 at e1;rw[List.getD_eq_getElem?_getD,List.getD_eq_getElem?_getD,Ht a,Ht b]at e1;let c:=Ja.mp h.2.1;rcases Nat.lt_trichotomy i j with q|q|q
 .exact absurd e1 (c i j _ _ q)
 .exact q
 .exact absurd e1.symm (c j i _ _ q)
section
variable{prog:HL}{w:Il}{A:Ig}{E:Hn->Hq->Prop}{s:Hq}
def xD{x y:r4}{a b c d:Int}{t1 f g i:Tok}{C:Bool->Hq->Prop}(hx:IsTup s.heap x (List.toArray [.int a t1,.int b f]))(j:IsTup s.heap y (List.toArray [.int c g,.int d i]))(q:-500<=b/\b<500)(hd:-500<=d/\d<500) (h:C (decide (1000*a+b<1000*c+d)) s):Hy (HI prog w) A (keyLt' (tuples' KD) (.ref x) (.ref y)) C E s:=by
 let[r,k,_,n,l]:=hx;let[t,o,_,m,p]:=j;refine PySem.W.kat_lt k l o p ?_;refine PySem.W.kat_cons (wpAny_eqBool_int ?_);by_cases e:a=c
 .subst e;rw[show(a==a)=KD by simp];refine PySem.W.kat_yes (PySem.W.kat_cons (wpAny_eqBool_int ?_));by_cases e2:b=d
  .subst e2;rw[show(b==b)=KD by simp];refine PySem.W.kat_yes (PySem.W.kat_nil ?_);rw[show decide (1000*a+b<1000*a+b)=KG by simp]at h;exact h
  .rw[show(b==d)=KG by simpa using e2];refine PySem.W.kat_no ?_;rw[show(KD&&(0+1==0))=KG by rfl];refine PySem.W.kat_one _ _ ?_;rw[show decide (1000*a+b<1000*a+d)=decide (b<d) by exact decide_eq_decide.mpr ()]at h;exact lt_int h
 .rw[show(a==c)=KG by simpa using e];refine PySem.W.kat_no ?_;show Hy _ _ (oneLt' KD _ _) _ _ _;rw[show decide (1000*a+b<1000*c+d)=decide (a<c) by exact decide_eq_decide.mpr ()]at h;exact oneLt_int h
end
def yr(u v:Int×Int):Prop:=1000*u.1+u.2<1000*v.1+v.2
def wV{us:List (Int×Int)}{a:Array Nat}(h:Ly us.length a)(u:Up (Q9 us) a us.length):(a.toList.map (p0 us)).Pairwise yr:=by
 rw[Ja];intro i j g d b;let c:j<us.length:=by rw[Ho,J0,h.size]at d;exact d
 have:=u i j b c;let e:i<a.size:=by rw[h.size];omega
 let f:j<a.size:=by rw[h.size];omega
 simpa[yr,ky,Q9,Array.getD,e,f]using this
section
variable{X:Cx}
def qj:bY X (.builtin "sorted") (λvs H Q=>∃p xs us,vs=[.ref p]/\L8 X.K H p xs/\QX X.K H xs us/\WR us/\∀l d,H l=KC->Ly us.length d->Up (Q9 us) d us.length->Q (.ref l) (upd H l (.lst (d.toList.map λi=>xs.getD i .non)))):=by
 intro KQ s σ H vs F Q I r G;let[l,xs,us,J,L,y,m,q]:=G;subst J;let[u,8,M]:=vals1 r;cases M;let[f,z,N,O]:=I.list L;let c:f.length=us.length:=by rw[<-z.length,y.len]
 let A:=ya I y z;refine va (k:=Q9 us) (κ:=tuples' KD) N.isList (by rw[c];exact m.1) (by rw[c];exact m.inj) (λx kp h2 R Z P=>?_) (λx kp i j C D hj hC=>?_) λd g E=>?_
 .obtain⟨fs,S,k2,U⟩:=qJ (h:=x) c λi D=>(A i D).kept kp;refine PySem.W.kat_kind (s:={ s with heap:=x }) (T:=.type "int") S () (λv hv=>?_) ⋯ P;let[n,t,8]:=U v hv;exact PySem.W.Looks.now
 .obtain⟨a,t1,t2,ea,V⟩:=(A i ()).kept kp;let[b,t3,t4,eb,B]:=(A j ()).kept kp;unfold PySem.W.kas_ask;rw[ea,eb];exact xD (s:={ s with heap:=x }) V B (m.2.2 _ (jo ())) (m.2.2 _ (jo ())) hC
 .rw[c]at g E;let[e,Y]:=sortedAll_at s.heap f (gz f d);refine #[.ref (s.z+1),_,I.laid (t':=s.toks) (λb o q=>sortedAll_old q) (Kq _) (show bO X.prog X.w _ _ _ (.lst _)from #[?_,_,e,oj z d.toList,Y]),8,q _ d (I.hok.fresh (Kq _)) g E];rw[Ho,J0,g.size,<-y.len];exact O
def Be:RC:=λb M Q=>match b with
 |[.ref l]=>∃us:List (Int×Int),M l=KA (.lst (us.map MD))/\WR us/\∀(z:r4)(a:List (Int×Int)),M z=KC->a.Perm us->a.Pairwise yr->Q (.ref z) (au M z (.lst (a.map MD)))
 |_=>False
theorem vM:d9 X (.builtin "sorted") Be:=bZ qj λvs H Q ⟨c,M,R,k,a,q,f⟩=>by
 rcases c with _|⟨d,c⟩
 .exact HS q
 cases d<;>rcases c with _|⟨e,c⟩<;>try exact HS q
 .obtain⟨us,e,l,q⟩:=q;let[v,8,r]:=bR k;rw[Rep]at r;subst r;let[xs,hx,h]:=a _ _ e;refine #[_,xs,us,8,L8.of hx,zd h,l,λz j g b m=>f (.ref z) _ _ _ (.new g) (by rw[Rep]) (a.lK g (n8 h j.toList λi n=>?_)) ?_]
  .have:i∈j:=‹n›
   have:=b.perm.mem_iff.mp this;simpa using this
  .rw[xw b];exact q z _ (a.fresh g) (vI b) (wV b m)
end
def pP(o:Obj):MO:=.gen λ_ H a=>H a=KA (.ext (cY a o))
def Q3(ns ws a:sy):Prop:=∃ps:List (Int×Int),ps.Perm (ns.zip ws)/\a=ps.map (·.2)/\ps.Pairwise λp q=>p.1<=q.1
theorem qU:∀{vs:List Hn},(∀v∈vs,∃n t,v=.int n t)->Jk vs (vs.map numOf)
 |[],_=>.nil
 |v::vs,h=>by
  let[n,t,8]:=h v (_)
  exact .cons n t (qU (vs:=vs) λy a=>h y (by simp[a]))
def B4{ns ws:sy}{its out:List Hn}(c:Jk its ws)(h:KskOut KG ns its out):∃b,Q3 ns ws b/\Jk out b/\b.length=out.length:=by
 let[ps,h1,h2,d]:=h;let hv:∀v∈out,∃n t,v=.int n t:=λv m=>by rw[h2]at m;let[p,f,8]:=Iz.mp m;let[x,y]:=p;exact c.all _ (List.of_mem_zip (h1.subset f)).2
 refine #[out.map numOf,#[ps.map λp=>(p.1,numOf p.2),?_,?_,?_],qU hv,by rw[Ho]]
 .have e:(ns.zip its).map (λp:Int×Hn=>(p.1,numOf p.2))=ns.zip ws:=by rw[<-c.nums,List.zip_map_right];exact Jt λa _=>by let[x,y]:=a;exact(rfl)
  rw[<-e];exact h1.map _
 .rw[h2,Jj,Jj];rfl
 .rw[List.pairwise_map];exact d
section
variable{X:Cx}{KQ:sm}{σ:L2.St}{s:Hq}
def Yj(X:Cx)(KQ:sm)(σ:L2.St)(H0:Hp)(M2:MH)(a f:r4)(e1:Nat)(ns:sy)(i:Nat)(g:Hq):Prop:=
 ∃c b d e,Inv X KQ σ c g/\LP X.K H0 c/\LV X.K c b/\Sub M2 b/\b a=KA (pP (IC "list" #[] e1))/\b f=KA (pP (IC "list" d e))/\Jk d.toList (ns.take i)
def wW{H0:Hp}{M2:MH}{a c g:r4}{e1:Nat}{ns ws:sy}{its:List Hn}{Q:PySem.Fin->Hq->Prop}{E:Hn->Hq->Prop}{A:Ig}(T:c≠a)(ha:M2 a=KC)(hk:M2 c=KC)(W:Jk its ws)(hn:ns.length=ws.length)(a0:ns.length<64)
 (turn:∀(i:Nat)(w n:Int) N f l k,Inv X KQ σ l k->LV X.K l f->Sub M2 f->ws[i]?=KA w->ns[i]?=KA n->RelV (.int w) N->
  Hy (HI X.prog X.w) A (call (.ref g) [N]) (EP X KQ σ (λv C=>∃D,LP X.K l C/\v=.int n/\LV X.K C D/\Sub f D)) (λ_ _=>False) k)
 (h0:Yj X KQ σ H0 M2 a c e1 ns 0 s)
 (h:∀l f d e k,Inv X KQ σ l k->LP X.K H0 l->LV X.K l f->Sub M2 f->f a=KA (pP (IC "list" #[] e1))->f c=KA (pP (IC "list" d e))->Jk d.toList ns->
  Hy (HI X.prog X.w) A (ksk_end a KG its.toArray e1 (.ref c) d) Q E k) :
 Hy (HI X.prog X.w) A (ksk_rest a (.ref g) KG its.toArray e1 (.ref c)) Q E s:=by
 let hl:its.length=ns.length:=by rw[W.length,hn]
 unfold ksk_rest
 refine Hl (wpAny_rule ?_)
 first
  |rw[List.forIn_toArray]
  |(rw[<-Array.forIn_toList];simp only[List.toList_toArray])
  |rw[<-Array.forIn_toList]
 refine Hl (ksk_fold (λi k=>Yj X KQ σ H0 M2 a c e1 ns i k) its 0 s h0 ?step ?done)
 case step=>
  rintro j N k hx ⟨l,f,d,e,I,g0,O,P,u,m,pk⟩
  simp only[Nat.zero_add]at pk ⊢
  let hj:j<its.length:=(Hw.mp hx).1
  let F:j<ns.length:=()
  let G:j<ws.length:=()
  let[u',H,ru]:=(iA W).get (show(ws.map V.int)[j]?=KA (.int ws[j]) by rw[Hv,Ht G];rfl)
  rw[hx]at H;cases H
  refine Hl (wpAny_attempt (HJ (turn j ws[j] ns[j] N f l k I O P (Ht G) (Ht F) ru) (λr y z=>?_) λ_ _ hF=>hF.elim))
  let[v2,R,Y,rr,M3,g2,J,U,p]:=z
  try dsimp only
  let S:y.heap.get? c=KA (IC "list" d e):=(Y.hok _ _ (U _ _ (p _ _ m)).1).1
  let b0:d.size<=ns.length:=by
   let h1:=pk.length
   rw[J0,Iu]at h1
   omega
  obtain⟨B,L⟩:∃B,(y.heap.update c (IK (·.push r))).get? c=KA (IC "list" (d.push r) B):=#[_,get?_update_seq S (·.push r)]
  let s1:=IU y.heap c (IK (·.push r))
  refine Hl (listUpdate_at S rfl ?_ (by rw[J7];omega) (Iv (Nat.le_of_eq (Array.size_push ..)) (by rw[J7];omega)))
  let M:R c=KA (.ext (cY c (IC "list" d e))):=(U _ _ (p _ _ m)).1
  let Z:LP X.K R (upd R c (.ext (cY c (IC "list" (d.push r) B)))):=.ext M
  let I3:Inv X KQ σ (upd R c (.ext (cY c (IC "list" (d.push r) B)))) { y with heap:=y.heap.update c (IK (·.push r)) }:=Y.write (t':=y.toks) (x:=c) (e:=c) (by rw[M];exact JA) (.inl rfl) (λb q hb z=>(s1.2 b hb).trans z) #[_,L] (jS L)
  subst J
  let[t,8]:=(show ∃t,r=Value.int ns[j] t from rr)
  refine Hs #[8,_,au M3 c (pP (IC "list" (d.push (.int ns[j] t)) B)),d.push (.int ns[j] t),B,I3,(g0.trans g2).trans Z,U.rR Z aH (λH9 _ e9=>e9),λb o z=>by rw[ak (az z hk)];exact p _ _ (P b o z),by rw[ak T.symm];exact p _ _ u,ai,?_]
  let et:ns.take (j+1)=ns.take j++[ns[j]]:=by
   rw[List.take_add_one,Ht F];rfl
  rw[et,Array.toList_push]
  exact ksk_snoc pk
 case done=>
  rintro k ⟨l,f,d,e,I,g0,O,P,u,m,pk⟩
  let e3:ns.take (0+its.length)=ns:=Jo ()
  rw[e3]at pk
  let S:k.heap.get? c=KA (IC "list" d e):=(I.hok _ _ (O _ _ m).1).1
  try dsimp only
  exact Hl (listItems_at S rfl (h l f d e k I g0 O P u m pk))
def wo{k:Hp}{B:MH}{a c:r4}{e1 e:Nat}{f:Array Hn}{ns ws:sy}{its:List Hn}{Q:PySem.Fin->Hq->Prop}{E:Hn->Hq->Prop}{A:Ig}(C:c≠a)(I:Inv X KQ σ k s)(D:LV X.K k B)(F:B a=KA (pP (IC "list" #[] e1)))(G:B c=KA (pP (IC "list" f e)))
 (O:Jk f.toList ns) (rv:Jk its ws) (hn:ns.length=its.length) (b0:ns.length<64)
 (h:∀n P M2 R,Inv X KQ σ P R->LP X.K k P->(∀b,b≠a->b≠c->M2 b=B b)->M2 a=KC->M2 c=KC->LV X.K P M2->P a=KA (.lst (n.map V.int))->Q3 ns ws n->Q (.done (.ret .none)) R) :
 Hy (HI X.prog X.w) A (ksk_end a KG its.toArray e1 (.ref c) f) Q E s:=by
 let ok:s.heap.get? c=KA (IC "list" f e):=(I.hok _ _ (D _ _ G).1).1
 let oa:s.heap.get? a=KA (IC "list" #[] e1):=(I.hok _ _ (D _ _ F).1).1
 let H:k c=KA (.ext (cY c (IC "list" f e))):=(D _ _ G).1
 let S:k a=KA (.ext (cY a (IC "list" #[] e1))):=(D _ _ F).1
 let t:f.size=its.length:=by
  let h1:=O.length
  rw[J0]at h1
  omega
 let l:(f.zip its.toArray).size=its.length:=by rw[Array.size_zip,t,HD,Nat.min_self]
 let p:∀st:SortSt,(arrOf st).Perm (f.zip its.toArray)->SortedTo (arrOf st) (arrOf st).size->failedOf st=KC->Hy (HI X.prog X.w) A (ksk_tail a KG e1 (.ref c) st) Q E s:=λst J T U=>by
  let[n,bk,L,il]:=B4 rv (ksk_out (b:=KG) O J T)
  let L:Jk ((arrOf st).map (·.2)).toList n:=L
  let W:((arrOf st).map (·.2)).size=its.length:=by rw[Array.size_map,J.size_eq,l]
  generalize eo:(arrOf st).map (·.2)=d at L W
  let s1:=IU s.heap c (IK λ_=>(#[]:Array Hn))
  let u:(s.heap.update c (IK λ_=>(#[]:Array Hn))).get? a=KA (IC "list" #[] e1):=(s1.2 a C.symm).trans oa
  let R:=IU (s.heap.update c (IK λ_=>(#[]:Array Hn))) a (IK λ_=>d)
  obtain⟨Y,M⟩:∃Y,((s.heap.update c (IK λ_=>(#[]:Array Hn))).update a (IK λ_=>d)).get? a=KA (IC "list" d Y):=#[_,get?_update_seq u λ_=>d]
  obtain⟨v,N⟩:∃v,(s.heap.update c (IK λ_=>(#[]:Array Hn))).get? c=KA (IC "list" #[] v):=#[_,get?_update_seq ok λ_=>#[]]
  unfold ksk_tail
  try dsimp only
  simp only[IE,if_false]
  rw[eo]
  refine Hl (listUpdate_at ok rfl ?_ (by rw[t,J7];omega) (IB _))
  refine Hl (wpAny_letGo ?_)
  refine Hl (seqEpoch_at u rfl ?_)
  refine Hl (listUpdate_at u rfl ?_ (IB _) (by show d.size<=_;rw[W,J7];omega))
  rw[U]
  simp only[bne_self_eq_false,IE,if_false]
  let I1:=I.write (t':=s.toks) (o:=.ext (cY c (IC "list" #[] v))) (x:=c) (e:=c) (h':=s.heap.update c (IK λ_=>(#[]:Array Hn))) (by rw[H];exact JA) (.inl rfl) (λb q Z z=>(s1.2 b Z).trans z) #[_,N] (jS N)
  let r:(upd k c (.ext (cY c (IC "list" #[] v)))) a=KA (.ext (cY a (IC "list" #[] e1))):=by rw[aG C.symm];exact S
  let ll:n.length=its.length:=by rw[<-L.length,J0,W]
  let I2:=I1.write (t':=s.toks) (o:=.lst (n.map V.int)) (x:=a) (e:=a) (h':=(s.heap.update c (IK λ_=>(#[]:Array Hn))).update a (IK λ_=>d)) (by rw[r];exact JA) (.inl rfl) (λb q Z z=>(R.2 b Z).trans z) #[_,M]
   (show bO X.prog X.w _ _ _ (.lst _)from #[by rw[Ho,ll,J7];omega,d.toList,Y,iA L,by rw[Array.toArray_toList];exact M])
  let g1:LP X.K k (upd k c (.ext (cY c (IC "list" #[] v)))):=.ext H
  let g2:LP X.K (upd k c (.ext (cY c (IC "list" #[] v)))) (upd (upd k c (.ext (cY c (IC "list" #[] v)))) a (.lst (n.map V.int))):=.ext r
  refine Hs (h n _ (λb=>if b=a\/b=c then KC else B b) _ I2 (g1.trans g2) (λb n1 n2=>KH (by simp[n1,n2])) (KI (.inl rfl)) (KI (.inr rfl)) (λb o z=>?_) aH bk)
  let z:(if b=a\/b=c then KC else B b)=KA o:=z
  by_cases m:b=a\/b=c
  .rw[KI m]at z;cases z
  .rw[KH m]at z
   let n1:b≠a:=λy=>m (.inl y)
   let n2:b≠c:=λy=>m (.inr y)
   exact(D b o z).fW (g1.trans g2) (by rw[aG n1,aG n2])
 unfold ksk_end
 try dsimp only
 simp only[IE,if_false]
 by_cases h2:its.toArray.size<2
 .rw[KI h2,KI h2]
  rw[HD]at h2
  refine Hl (Hs ?_)
  rw[StateT.run_pure]
  refine Hl (Hs ?_)
  try dsimp only
  refine p _ (Array.Perm.refl _) (λi j c0 hj=>?_) rfl
  let a0:j<(f.zip its.toArray).size:=hj
  rw[l]at a0
  have:i=j:=()
  subst this
  exact Int.le_refl _
 .rw[KH h2,KH h2]
  rw[HD]at h2
  rw[ksk_kind O (by rw[t];omega)]
  refine Hl (Hs ?_)
  refine Hl (HJ (wpS_sortRuns (a₀:=f.zip its.toArray) (st:=SortSt.mk' oneType' (f.zip its.toArray) #[] 7 KC)
   (Q:=λ_ g=>(arrOf g).Perm (f.zip its.toArray)/\failedOf g=KC/\SortedTo (arrOf g) (f.zip its.toArray).size)
   (ksk_intKeys O) #[Array.Perm.refl _,8,8,rfl] (by rw[l];omega) (by rw[l];omega) λg a1 a2 a3=>#[a1,a2,a3]) ?_ λ_ _ e=>e)
  rintro⟨⟨⟩,g⟩ s' ⟨rfl,J,U,T⟩
  try dsimp only
  exact p g J (by rw[J.size_eq];exact T) U
end
section
variable{X:Cx}{KQ:sm}{σ:L2.St}{s:Hq}{H:Hp}
def Cz{Q:Hn->Hq->Prop}{E:Hn->Hq->Prop}{l g:r4}{M2:MH}{ns ws:sy}(I:Inv X KQ σ H s)(J:LV X.K H M2)(hl:M2 l=KA (.lst (ws.map D.int)))(hn:ns.length=ws.length)(t:ns.length<64)
 (turn:∀(i:Nat)(w n:Int) u1 h j r,Inv X KQ σ j r->LV X.K j h->Sub M2 h->ws[i]?=KA w->ns[i]?=KA n->RelV (.int w) u1->
  Hy (HI X.prog X.w) X.A.in1.in1 (call (.ref g) [u1]) (EP X KQ σ (λv x=>∃y,LP X.K j x/\v=.int n/\LV X.K x y/\Sub h y)) (λ_ _=>False) r)
 (done:∀p L j h r,Inv X KQ σ j r->LP X.K H j->LV X.K j h->Sub M2 h->M2 p=KC->h p=KA (.lst (L.map D.int))->Q3 ns ws L->Q (.ref p) r) :
 Hy (HI X.prog X.w) X.A (call (.builtin "sorted") [.ref l] [(IW "key",.ref g)]) Q E s:=by
 let[xs,hx,L]:=J _ _ hl
 rw[eN L]at hx
 let[c,N,p1,hz]:=I.list (L8.of hx)
 let O:=intsAre_of N
 let P:c.length=ns.length:=by rw[O.length,hn]
 refine call_function_entry_kw kind_sorted plain_sorted entry_sorted (ksk_s1 _ _) ?_
 unfold Kd.«sorted»
 refine Hl (m:=checkCount "sorted" 1 1 _) (Hs ?_)
 refine Hl (collect_list p1.isList ?_ (by rw[J7];omega))
 refine Hl (wpAny_newList ?_ (by rw[J7];omega))
 generalize e1:((s.heap.push (IC "list" #[] 0)).update s.z (IK (·++c.toArray)))=h1
 let R:h1.objs.size=s.z+1:=by rw[<-e1,Heap.size_update,size_push']
 let o1:∀b o,s.heap.get? b=KA o->h1.get? b=KA o:=λb o q=>by
  rw[<-e1,Heap.get?_update_ne _ _ _ _ (HX (HE q)),Heap.get?_push_ne _ _ _ (HX (HE q))]
  exact q
 show Hy _ _ _ _ _ { s with heap:=h1.push (IC "list" c.toArray 0) }
 rw[R]
 let d:(h1.push (IC "list" c.toArray 0)).get? (s.z+1)=KA (IC "list" c.toArray 0):=by rw[<-R];exact Hx _ rfl
 refine Hl (IM (wpAny_call_entry_kw slot_list_sort #[_,d,rfl] entry_list_sort ?body (ksk_l1 _ _)))
 show Hy (HI X.prog X.w) X.A.in1.in1 (Kd.«list.sort» #[[.ref (s.z+1)],[(IW "key",.ref g)]]) _ _ _
 rw[ksk_t1]
 obtain⟨f,B⟩:∃f,((h1.push (IC "list" c.toArray 0)).update (s.z+1) (IK λ_=>#[])).get? (s.z+1)=KA (IC "list" #[] f):=#[_,get?_update_seq d λ_=>#[]]
 unfold ksk_tree
 refine Hl (listItems_at d rfl ?_)
 refine Hl (listUpdate_at d rfl ?_ (by rw[HD,J7];omega) (IB _))
 refine Hl (seqEpoch_at B rfl ?_)
 refine Hl (wpAny_newTuple ?_ (by show c.length<=_;rw[J7];omega))
 refine Hl (wpAny_newList (IM ?_) (IB _))
 generalize e2:(((h1.push (IC "list" c.toArray 0)).update (s.z+1) (IK λ_=>#[])).push (IC "tuple" c.toArray 0))=h2
 let S:h2.get? (s.z+1)=KA (IC "list" #[] f):=by rw[<-e2];exact Hr _ B
 let z2:h2.objs.size=s.z+3:=by rw[<-e2,size_push',Heap.size_update,size_push',R]
 let o2:∀b o,s.heap.get? b=KA o->h2.get? b=KA o:=λb o q=>by
  rw[<-e2]
  refine Hr _ ?_
  rw[Heap.get?_update_ne _ _ _ _ (HX (Jh (HE q)))]
  exact Hr _ (o1 b o q)
 let I2:Inv X KQ σ (upd H (s.z+1) (.ext (cY (s.z+1) (IC "list" #[] f)))) { s with heap:=h2 }:=I.laid (t':=s.toks) (h':=h2) o2 (Kq _) (jS S)
 let I3:=I2.laid (t':=s.toks) (a:=h2.objs.size) (o:=.ext (cY h2.objs.size (IC "list" #[] 0))) (h':=h2.push (IC "list" #[] 0)) (λb u q=>Hr _ q) (Hu _) (jS (Hx _ rfl))
 let fa:H (s.z+1)=KC:=I.hok.fresh (Kq _)
 let g2:=LP.new (K:=X.K) (o:=.ext (cY (s.z+1) (IC "list" #[] f))) fa
 let T:(upd H (s.z+1) (.ext (cY (s.z+1) (IC "list" #[] f)))) h2.objs.size=KC:=I2.hok.fresh (Hu _)
 let g3:=LP.new (K:=X.K) (o:=.ext (cY h2.objs.size (IC "list" #[] 0))) T
 let ne:h2.objs.size≠s.z+1:=by rw[z2];exact λe=>absurd (id e:@Eq Nat _ _) ()
 let U:H h2.objs.size=KC:=by rw[aG ne]at T;exact T
 let a2:=(J.rR (A:=λ_ H a=>H a=KA (.ext (cY a (IC "list" #[] f)))) g2 aH (λH9 _ V=>V)).rR (A:=λ_ H a=>H a=KA (.ext (cY a (IC "list" #[] 0)))) g3 aH (λH9 _ V=>V)
 let M:=J.fresh fa
 let mk:=J.fresh U
 let W:Sub M2 (au (au M2 (s.z+1) (pP (IC "list" #[] f))) h2.objs.size (pP (IC "list" #[] 0))):=λb o z=>by
  rw[ak (az z mk),ak (az z M)];exact z
 show Hy (HI X.prog X.w) X.A.in1.in1 (ksk_rest (s.z+1) (.ref g) KG c.toArray f (.ref h2.objs.size)) _ _ { s with heap:=h2.push (IC "list" #[] 0) }
 refine wW (X:=X) (H0:=H) (M2:=M2) ne M mk O hn t turn #[_,_,#[],0,I3,g2.trans g3,a2,W,by rw[ak ne.symm,ai];rfl,by rw[ai];rfl,by rw[List.take_zero];exact .nil] λj h kA e r I' g' Y Z a0 b0 pk=>?_
 refine wo ne I' Y a0 b0 pk O P.symm t λk H4 M4 s4 I4 g4 C n1 n2 c0 d0 bk=>#[7,Hs #[7,?_]]
 refine done _ k H4 (au M4 (s.z+1) (.lst (k.map D.int))) s4 I4 (g'.trans g4) (λb o z=>?_) (λb o z=>?_) M ai bk
 .by_cases F:b=s.z+1
  .subst F
   rw[ai]at z;cases z
   exact #[_,d0,iH k]
  .rw[ak F]at z;exact c0 b o z
 .have G:=az z M
  let f0:=az z mk
  rw[ak G,C b G f0];exact Z b o z
end
end SD
namespace SE
open SD PySem PySem.Spec PyProof.Rows L2
end SE
namespace SD
open PySem PySem.Spec PyProof.Rows L2
def kh(t b X g h u:Int):Kw t b X 1 (g*u-h)=Kw (g*t) b (X-h*t) 1 u:=by unfold Kw;rw[show(g*u-h)*t+X*1=u*(g*t)+(X-h*t)*1 by grind]
def Au(t b X Y g h:Int)(w:Wl):LQ t b X Y (raw g h w)=LQ (g*t) b (X-h*t) (Y-h*t) w:=by unfold LQ raw;dsimp only;rw[kh,kh,kh,kh]
def qm(t b X Y g h:Int)(ws:vp):(ws.map (raw g h)).map (LQ t b X Y)=ws.map (LQ (g*t) b (X-h*t) (Y-h*t)):=by rw[Jj];exact Jt λw _=>Au t b X Y g h w
def AQ{t b X Y g h:Int}(S:Lm t b X Y)(G:Gs g h)(a:t<=10^20)(d:b<=10^25)(hx:-(10^27)<=X/\X<=10^27)(e:-(10^27)<=Y/\Y<=10^27):Lm (g*t) b (X-h*t) (Y-h*t):=by let t0:=S.t0;let b0:=S.b0;let g0:=G.g0;let g1:=G.g1;let h0:=G.h0;let h1:=G.h1;let c:0<g*t:=IZ g0 t0;let f:g*t<=12*10^20:=K8 g1 a () ⋯;let i:0<=h*t:=Ko h0 ();let j:h*t<=24*10^20:=K8 h1 a () ⋯;exact #[c,(),b0,(),(),(),(),()]
def qT{a c:List (Int×Int)}(b:a.Pairwise Lj)(d:c.Pairwise Lj)(h:∀u,u∈a↔u∈c):a=c:=by
 let nd:∀{l:List (Int×Int)},l.Pairwise Lj->l.Nodup:=λ{l} f=>f.imp λ{x y} z e=>by subst e;exact tN _ z
 exact yF ((List.perm_ext_iff_of_nodup (nd b) (nd d)).mpr h) b d
inductive Gd(c w:Nat):Nat->D->Prop
 |told {n:Nat} (a:D):Gd c w n (.tup [.str "told",a])
 |look {n:Nat} {b p:D} (x:Str) (k:Nat) (hk:x="corner"/\k<c\/x="wall"/\k<w) (hb:Gd c w n b) (hp:Gd c w n p):Gd c w (n+1) (.tup [.str "look",.str x,.int (k:Int),b,p])
def Gd.mono{c w n:Nat}{d:D}(h:Gd c w n d):∀{m:Nat},n<=m->Gd c w m d:=by
 induction h with
 |told a=>exact λ_=>.told a
 |look x k e _ _ f g=>
  intro m i
  obtain⟨b,rfl⟩:∃b,m=b+1:=#[m-1,()]
  exact .look x k e (f ()) (g ())
def Ye(c w:Nat)(d:D):Prop:=∃(x:Str) (k:Nat),d=.tup [.str x,.int (k:Int)]/\(x="corner"/\k<c\/x="wall"/\k<w)
def Y8(u:D)(cs:vu)(g m:D):List (Str×D):=[("plot",u),("corners",.tup cs),("guide",g),("most_looks",m)]
def qQ(n:Nat)(h:0<n):hv n=hv (n/2)+1:=by
 let key:∀f,f<hv n↔f<hv (n/2)+1:=λf=>by
  rw[<-ou];cases f with
  |zero=>simp;omega
  |succ f=>
   rw[Nat.add_lt_add_iff_right,<-ou,Nat.pow_succ]
   omega
 let a:=key (hv n);let b:=key (hv (n/2)+1);let c:=key (hv (n/2));omega
def lU{m n:Nat}(h:m<=n):hv m<=hv n:=by
 cases e:hv m with
 |zero=>exact IB _
 |succ f=>exact(ou f n).mp (Iv ((ou f m).mpr ()) h)
structure Q0(t b X Y:Int)(ps:List Vc)(i:Nat)(kvs:Lw):Prop where
 len:kvs.length<=i
 vs:∀j v,j<i->ps[j]?=KA v->dS kvs (gk t b X Y v)=KA (.int (j:Int))
theorem Q0.nil(t b X Y:Int)(ps:List Vc):Q0 t b X Y ps 0 []:=#[Hu _,λj v h=>absurd h (Nat.not_lt_zero _)]
def Q0.put{t b X Y:Int}{ps:List Vc}{i:Nat}{kvs:Lw}{v:Vc}(c:0<t)(d:0<b)(h:Q0 t b X Y ps i kvs)(nd:ps.Nodup)(e:ps[i]?=KA v):Q0 t b X Y ps (i+1) (putD kvs (gk t b X Y v) (.int (i:Int))):=by
 refine #[?_,λj u f a=>?_]
 .have:=h.len;unfold putD;split<;>simp<;>omega
 .rw[qr];by_cases z:j=i
  .subst z;rw[e]at a;cases a;rw[KI rfl]
  .rw[KH,h.vs j u () a];intro q;have:=sM c d q;subst this;let[l1,e1]:=Hw.mp a;let[l2,e2]:=Hw.mp e;exact z ((List.getElem_inj nd).mp (e1.trans e2.symm))
def Pa(ps:List Vc)(c:Vc):Nat:=ps.idxOf c
def xg{ps:List Vc}{c:Vc}(h:c∈ps):ps[Pa ps c]?=KA c/\Pa ps c<ps.length:=by let l:=List.idxOf_lt_length_iff.mpr h;exact #[by unfold Pa;rw[Ht l,List.getElem_idxOf],l]
def Pj(ps:List Vc)(w:Wl):D:=.tup [.int (Pa ps (ea w):Int),.int (Pa ps (eb w):Int)]
def Q3.perm{ns ws a:sy}(h:Q3 ns ws a)(e:ns.length=ws.length):a.Perm ws:=by let[ps,h1,8,_]:=h;have:=h1.map (·.2);rw[List.map_snd_zip ()]at this;exact this
def Pc(M:MH)(b:t_)(c:List (sy)):Prop:=b.length=c.length/\∀(i:Nat) a r,b[i]?=KA a->c[i]?=KA r->M a=KA (.lst (r.map D.int))
theorem Pc.nil{M:MH}:Pc M [] []:=#[8,λi a r h=>by simp at h]
theorem Pc.to{M c:MH}{b:t_}{d:List (sy)}(h:Pc M b d)(k:∀a l,a∈b->M a=KA (.lst l)->c a=KA (.lst l)):Pc c b d:=#[h.1,λi a r e f=>k a _ (Hz e) (h.2 i a r e f)]
def Pc.more{M:MH}{d:t_}{f:List (sy)}{q:r4}{r:sy}(h:Pc M d f)(g:M q=KA (.lst (r.map D.int))):Pc M (d++[q]) (f++[r]):=by
 refine #[by rw[Io,Io,h.1];rfl,λi a j b c=>?_];rcases Nat.lt_or_ge i d.length with l|l
 .rw[Im l]at b;rw[Im (by rw[<-h.1];exact l)]at c;exact h.2 i a j b c
 .rw[Ij l]at b;rw[Ij (by rw[<-h.1];exact l),<-h.1]at c;cases e:i-d.length with
  |zero=>rw[e]at b c;cases b;cases c;exact g
  |succ m=>rw[e]at b;cases b
theorem dg.neL{q:Str}{Pt:r4}{pos:Pos}{M:MH}(h:dg q Pt pos M){l:r4}{ds:vu}(a:M l=KA (.lst ds)):l≠Pt:=λe=>by subst e;rcases h with h|⟨_,h,_⟩<;>rw[h]at a<;>cases a
theorem dg.neN{q:Str}{Pt:r4}{pos:Pos}{M:MH}(h:dg q Pt pos M){p:r4}(a:M p=KC):p≠Pt:=λe=>by subst e;rcases h with h|⟨_,h,_⟩<;>rw[h]at a<;>cases a
def CK(fs:sy)(p:Int->Bool):(HM (fs.map D.int).length).filterMap (λj=>(fs[j]?).bind λa=>if p a=KD then KA (D.int a)else KC)=(fs.filter p).map D.int:=by rw[Ho,qt,iE]
def oE(K:Hm){C:r4}{fs:List (Str×D)}{ps:Array Hn}(h:dn C fs=uX ps):False:=by injection h with h;have:=(congrFun (congrFun (congrFun h K) (λ_=>KA (.tbl ps))) 0).mpr rfl;let[a,vs,e,_]:=this;cases e
def Ab(K:Hm){C:r4}{fs:List (Str×D)}{q:Str}(h:dn C fs=zB q):False:=by injection h with h;have:=(congrFun (congrFun (congrFun h K) (λ_=>KA (.ext (pN 0 q)))) 0).mpr rfl;let[a,vs,e,_]:=this;cases e
def dg.ins(K:Hm){q:Str}{Pt:r4}{pos:Pos}{M f:MH}{a C:r4}{fs:List (Str×D)}(h:dg q Pt pos M)(g:M a=KA (dn C fs))(s:lD a M f):dg q Pt pos f:=by
 let t:∀{b:r4}{o:MO},M b=KA o->(dn C fs=o->False)->b≠a:=λd n e=>by subst e;rw[g]at d;injection d with d;exact n d
 rcases h with h|⟨c,h1,h2,i⟩
 .exact .inl (s _ _ (t h (oE K)) h)
 .exact .inr #[c,s _ _ (t h1 (oE K)) h1,s _ _ (t h2 (Ab K)) h2,i]
theorem dg.neI(K:Hm){q:Str}{Pt:r4}{pos:Pos}{M:MH}{a C:r4}{fs:List (Str×D)}(h:dg q Pt pos M)(b:M a=KA (dn C fs)):a≠Pt:=λe=>by subst e;rcases h with h|⟨c,h,_⟩<;>rw[b]at h<;>injection h with h<;>exact oE K h
theorem Em{M:MH}{a b C:r4}{fs:List (Str×D)}{ds:vu}(d:M a=KA (dn C fs))(c:M b=KA (.lst ds)):b≠a:=λe=>by subst e;rw[d]at c;cases c
theorem dg.pot{q:Str}{Pt r:r4}{pos:Pos}{M b:MH}{n:Nat}(h:dg q Pt pos M)(P:LY M r n)(k:Kx [r] M b):dg q Pt pos b:=
 h.kx (xs:=[r]) k λa c A e=>by
  let[_,_,_,d,_]:=P
  rw[show a=r by simpa using c,d]at e;cases e
structure Fs(ws:vp)(fs:sy):Prop where
 nd:fs.Nodup
 b:∀k∈fs,0<=k/\k<ws.length
theorem Fs.perm{ws:vp}{fs a:sy}(h:Fs ws fs)(p:a.Perm fs):Fs ws a:=#[p.nodup_iff.mpr h.nd,λk c=>h.b k (p.mem_iff.mp c)]
def Fs.len{ws:vp}{fs:sy}(h:Fs ws fs):fs.length<=ws.length:=by
 have:=(h.nd).length_le_of_subset (l₂:=(HM ws.length).map λk:Nat=>(k:Int)) λk a=>by
  have:=h.b k a
  exact Iz.mpr #[k.toNat,List.mem_range.mpr (),()]
 simpa using this
structure Px(t b X Y:Int)(qs:t_)(i:Nat)(kvs:Lw)(cs:List Vc):Prop where
 ks:kvs.map (·.1)=cs.map (gk t b X Y)
 nd:cs.Nodup
 bd:∀c∈cs,Lh c
 vs:∀c∈cs,∃q∈qs,dS kvs (gk t b X Y c)=KA (.ref q)
 len:cs.length<=i
def Px.kl{t b X Y:Int}{qs:t_}{i:Nat}{kvs:Lw}{cs:List Vc}(h:Px t b X Y qs i kvs cs):kvs.length=cs.length:=by have:=congrArg List.length h.ks;rw[Ho,Ho]at this;exact this
theorem Px.nil(t b X Y:Int)(qs:t_):Px t b X Y qs 0 [] []:=#[8,List.nodup_nil,by simp,by simp,Hu _]
def Px.put{t b X Y:Int}{qs:t_}{i:Nat}{kvs:Lw}{cs:List Vc}{c:Vc}{q:r4}(k:0<t)(m:0<b)(h:Px t b X Y qs i kvs cs)(n:Lh c)(o:q∈qs):∃cs,Px t b X Y qs (i+1) (putD kvs (gk t b X Y c) (.ref q)) cs:=by
 let j:∀f,(f=c\/f∈cs)->∃p∈qs,dS (putD kvs (gk t b X Y c) (.ref q)) (gk t b X Y f)=KA (.ref p):=λf r=>by
  rw[qr];by_cases e:gk t b X Y f=gk t b X Y c
  .rw[KI e];exact #[q,o,rfl]
  .rw[KH e];rcases r with z|z
   .exact absurd (by rw[z]) e
   .exact h.vs f z
 let l:=h.len;by_cases z:c∈cs
 .refine #[cs,?_,h.nd,h.bd,λf d=>j f (.inr d),()];rw[qh,h.ks,KI (Iz.mpr #[_,z,rfl])]
 .refine #[cs++[c],?_,?_,λf d=>?_,λf d=>j f ?_,by simp;omega]
  .rw[qh,h.ks,KH (λy=>by
    let[f,d,s]:=Iz.mp y
    exact z ((sM k m s)▸d)),Ib]
   rfl
  .refine List.nodup_append.mpr #[h.nd,by simp,λa u v g=>?_];rw[Jl.mp g];exact λe=>z (e▸u)
  .rcases HQ.mp d with y|y
   .exact h.bd f y
   .rw[Jl.mp y];exact n
  .rcases HQ.mp d with y|y
   .exact .inr y
   .exact .inl (Jl.mp y)
structure Le(x y1 y2:Str)(sc:JB):Prop where
 kind:sc.kind=.function
 co:sc.isCoroutine=KG
 gen:sc.isGenerator=KG
 n1:x≠y1
 n2:x≠y2
 n3:y1≠y2
 hx:sc.names.lookup x=KA .cell
 h1:sc.names.lookup y1=KA .free
 h2:sc.names.lookup y2=KA .free
 only:∀z∈sc.names,z.2=.free->z.1=y1\/z.1=y2
 cell:∀z∈sc.names,z.2=.cell->z.1=x
 cf:∀n cl,Jv n sc.names cl=(x,n)::cl
 pc:∀h,pushCells h sc.names=h.push { cls:=.type "cell",data:=.cell KC }
section
variable{P:HL}{w:Il}{K:Hm}{mg:Str->Option Hn}{base:r_}{qual:Str}{scope:JB}{g c1 c2:r4}{cd:Hn}{A:Ig}{outer:List Env}{s:Hq}{H:Hp}{x y1 y2:Str}
abbrev OF(x y1 y2:Str)(L c1 c2:r4):List (Str×r4):=[(x,L+1),(y1,c1),(y2,c2)]
def wG{M:Model}{E:Hn->Hq->Prop}{u:Hn}{Q:Env->Hq->Prop}(S:Le x y1 y2 scope)
 (h:∀h',h'.Ns s.z (λ_=>KC)->h'.IsCell (s.z+1) (KA u)->(∀b o,s.heap.get? b=KA o->h'.get? b=KA o)->
  Q (kg scope s.z (OF x y1 y2 s.z c1 c2) qual g cd) { s with heap:=h' }) :
 Hy M A (Km scope IA [(y1,c1),(y2,c2)] [(x,u)] (qual++".<locals>.") (KA g) cd KC builtinsNs) Q E s:=by
 simp only[Km,Option.isSome_none,IE,if_false]
 refine Hl (wpAny_alloc ?_)
 refine Hl (wpAny_layCells _ (λname kind cells=>by cases a:kind==NameKind.cell<;>simp[a]) _ _ _ _ ?_)
 rw[show({ s with heap:=s.heap.push { cls:=.type "frame",data:=.dict #[] } }:Hq).heap.objs.size=s.z+1 from J6 ..,S.cf]
 refine Hl ?_
 rw[List.forIn_cons]
 show Hy _ _ _ _ _ { s with heap:=pushCells (s.heap.push { cls:=.type "frame",data:=.dict #[] }) scope.names }
 rw[S.pc]
 let f:(s.heap.push { cls:=.type "frame",data:=.dict #[] }).objs.size=s.z+1:=J6 ..
 let e1:((s.heap.push { cls:=.type "frame",data:=.dict #[] }).push { cls:=.type "cell",data:=.cell KC }).IsCell (s.z+1) KC:=by
  rw[<-f];exact #[_,Hx _ rfl,rfl]
 let i:((s.heap.push { cls:=.type "frame",data:=.dict #[] }).push { cls:=.type "cell",data:=.cell KC }).Ns s.z λ_=>KC:=
  (Heap.Ns.new s.heap (.type "frame")).keeps λb o e=>Hr _ e
 refine Hl (Hl (wpAny_storeName_cell (v₀:=KC) S.kind S.hx (by show((x,s.z+1)::_).lookup x=_;rw[List.lookup_cons_self]) e1 λh' j c=>?_))
 refine Hs ?_
 dsimp only
 rw[List.forIn_nil]
 refine Hs (Hs (h h' ?_ j λb o e=>?_))
 .obtain⟨o,k,l,e,d,r⟩:=i
  exact #[o,k,l,(c.2 _ (HX (Nat.lt_succ_self _))).trans e,d,r]
 .have lt:=HE e
  exact(c.2 _ (HX (Jh lt))).trans (Hr _ (Hr _ e))
def wQ{h':r_}{q r:Obj}{u y B:Hn}{x0 x1 x2:V}(S:Le x y1 y2 scope)(hd:A.handled=KC)(c:Mf P w K mg base A outer s H)(J:c1≠c2)(D:base.get? c1=KA q)(E:q.data=.cell (KA y))(F:base.get? c2=KA r)(G:r.data=.cell (KA B))(O:RelV x0 u)(Q:RelV x1 y)(R:RelV x2 B)
 (I:h'.Ns s.z λ_=>KC) (hx:h'.IsCell (s.z+1) (KA u)) (C:∀b o,s.heap.get? b=KA o->h'.get? b=KA o) :
 Inv (qG P w K mg base [x,y1,y2] qual scope (OF x y1 y2 s.z c1 c2) g cd A outer s H) [] [KA x0,KA x1,KA x2] H { s with heap:=h' }:=by
 let l:∀b:r4,b∉(qG P w K mg base [x,y1,y2] qual scope (OF x y1 y2 s.z c1 c2) g cd A outer s H).ex:=λb z=>absurd (show b∈([]:t_)from z) (_)
 let one:∀{z:Str}{d:r4},(OF x y1 y2 s.z c1 c2).lookup z=KA d->(z=x/\d=s.z+1)\/(z=y1/\d=c1)\/(z=y2/\d=c2):=λ{z d} e=>by
  have:=Ii e
  simpa using this
 let la:c1<s.z:=HE (c.bs c1 q D).1
 let L:c2<s.z:=HE (c.bs c2 r F).1
 let f:h'.IsCell c1 (KA y):=#[q,C _ _ (c.bs c1 q D).1,E]
 let j:h'.IsCell c2 (KA B):=#[r,C _ _ (c.bs c2 r F).1,G]
 let kx:(OF x y1 y2 s.z c1 c2).lookup x=KA (s.z+1):=List.lookup_cons_self
 let M:(OF x y1 y2 s.z c1 c2).lookup y1=KA c1:=by
  show((x,_)::_).lookup y1=_
  rw[IP,beq_eq_false_iff_ne.mpr S.n1.symm];exact List.lookup_cons_self
 let N:(OF x y1 y2 s.z c1 c2).lookup y2=KA c2:=by
  show((x,_)::_).lookup y2=_
  rw[IP,beq_eq_false_iff_ne.mpr S.n2.symm]
  show((y1,_)::_).lookup y2=_
  rw[IP,beq_eq_false_iff_ne.mpr S.n3.symm];exact List.lookup_cons_self
 refine #[#[c.mod,S.kind,8,8,Hu _,λa b d h1 h2=>?_,λz m=>?_,λz d h _=>Bool.noConfusion h,λ_=>hd,Around.frames_deeper c.frames,.inr #[8,rfl],λb z=>absurd z (l b),c.bs,c.bsz,λb _ _=>l b,λb z=>absurd z (l b),c.hZ,c.frf],
  rfl,c.bare,Un.kept C,#[_,I,λi z v h1 h2 U=>?_],λz d h=>?_,c.hok.fresh (Hu _),λz d h=>?_,λp T=>absurd (show p∈([]:sm)from T) (_),c.hok.kept C,rfl]
 .rcases one h1 with⟨rfl,rfl⟩|⟨rfl,rfl⟩|⟨rfl,rfl⟩<;>rcases one h2 with⟨t,k⟩|⟨t,k⟩|⟨t,k⟩
  .exact t.symm
  .exact absurd k (Nat.ne_of_gt (Jh la))
  .exact absurd k (Nat.ne_of_gt (Jh L))
  .exact absurd k (HX (Jh la))
  .exact t.symm
  .exact absurd k J
  .exact absurd k (HX (Jh L))
  .exact absurd k.symm J
  .exact t.symm
 .have m:scope.names.lookup z=KA .cell\/scope.names.lookup z=KA .free:=m
  rcases m with m|m
  .have:=S.cell _ (Ii m) rfl
   subst this
   exact #[_,kx]
  .rcases S.only _ (Ii m) rfl with e|e
   .have e:z=y1:=e
    subst e;exact #[_,M]
   .have e:z=y2:=e
    subst e;exact #[_,N]
 .match i,h1,h2 with
  |0,h1,h2=>
   cases (show KA x=KA z from h1)
   cases (show KA (KA x0)=KA (KA v)from h2)
   exact #[u,O,.inr #[.inl S.hx,_,kx,hx]]
  |1,h1,h2=>
   cases (show KA y1=KA z from h1)
   cases (show KA (KA x1)=KA (KA v)from h2)
   exact #[y,Q,.inr #[.inr S.h1,c1,M,f]]
  |2,h1,h2=>
   cases (show KA y2=KA z from h1)
   cases (show KA (KA x2)=KA (KA v)from h2)
   exact #[B,R,.inr #[.inr S.h2,c2,N,j]]
  |n+3,h1,_=>exact absurd (show([]:u_)[n]?=KA z from h1) (_)
 .rcases one h with⟨rfl,rfl⟩|⟨rfl,rfl⟩|⟨rfl,rfl⟩
  .exact #[_,hx]
  .exact #[_,f]
  .exact #[_,j]
 .rcases one h with⟨rfl,rfl⟩|⟨rfl,rfl⟩|⟨rfl,rfl⟩
  .exact c.hok.fresh (Kq _)
  .exact(c.bs _ _ D).2
  .exact(c.bs _ _ F).2
def yQ{k:Nat}{name:Str}{params:Arguments}{body:sg}{n a:Hn}{c:r4}{p r:Obj}{u y B:Hn}{x0 x1 x2:V}{t:TE}{Q:VK}(S:Le x y1 y2 scope)(C:LU (k+1) A)(f:Mf P w K mg base A outer s H)(E:c1≠c2)(F:base.get? c1=KA p)(h:p.data=.cell (KA y))(G:base.get? c2=KA r)(i:r.data=.cell (KA B))(L:RelV x0 u)(M:RelV x1 y)(N:RelV x2 B)
 (O:s.heap.get? g=KA (Jy name qual params body scope [(y1,c1),(y2,c2)] n c a)) (d:s.heap.CodeRec (.ref c) qual)
 (j:Kc (PySem.W.kla_fn name qual params body scope [(y1,c1),(y2,c2)] n (.ref c) a) #[[u],[]]=pure [(x,u)])
 (R:PE (qG P w K mg base [x,y1,y2] qual scope (OF x y1 y2 s.z c1 c2) g (.ref c) A outer s H) body t) (T:t [KA x0,KA x1,KA x2] H Q) :
 JE (HI P w) A (.call (.ref g) #[[u],[]]) (CR MY outer P w H s Q E0) s:=by
 refine PySem.W.kla_callFunE C.depth O rfl S.co S.gen rfl d ?_
 rw[j]
 let l:s.heap.NoLimit:=f.mod.nolimit.keeps λb o e=>(f.bs b o e).1
 refine Hs (wG S λZ m hx D=>?_)
 refine #[l.keeps D,PySem.W.kla_codeExpr ?_]
 let I:=wQ (qual:=qual) (g:=g) (cd:=.ref c) S C.hd f E F h G i L M N m hx D
 refine HJ (R [] _ _ _ _ I T) (λu U z=>?_) (λe U z=>HS z)
 let[v,X,J,Y,q]:=z
 exact #[v,X,J.os,J.bare,J.base,J.hok,Y,q]
end
def BR(o:Obj)(d1 d2:D)(x1 x2:V):MO:=.gen λK H a=>H a=KA (.ext (cY a o))/\Rep K H d1 x1/\Rep K H d2 x2
section
variable{P:HL}{w:Il}{K:Hm}{mg:Str->Option Hn}{base:r_}{qual:Str}{scope:JB}{g c1 c2:r4}{x y1 y2:Str}
def xi{k:Nat}{name:Str}{params:Arguments}{body:sg}{c a:Hn}{b:r4}{F G:Obj}{I J:Hn}{x1 x2:V}{d1 d2:D}{sp:Lo}(S:Le x y1 y2 scope)(U:c1≠c2)(X:base.get? c1=KA F)(f:F.data=.cell (KA I))(Y:base.get? c2=KA G)(j:G.data=.cell (KA J))(Z:RelV x1 I)(r2:RelV x2 J)
 (l:∀u,Kc (PySem.W.kla_fn name qual params body scope [(y1,c1),(y2,c2)] c (.ref b) a) #[[u],[]]=pure [(x,u)]) (len:∀ds M Q,sp ds M Q->ds.length=1)
 (ht:∀(A:Ig)(outer:List Env)(s:Hq)(H:Hp),LU k (A.deeper (kg scope s.z (OF x y1 y2 s.z c1 c2) qual g (.ref b)))->∃t,DE (qG P w K mg base [x,y1,y2] qual scope (OF x y1 y2 s.z c1 c2) g (.ref b) A outer s H) body t/\∀d M Q,sp [d] M Q->t [KA d,KA d1,KA d2] M Q) :
 Y5 P w K mg base (k+1) g sp (λM=>M g=KA (BR (Jy name qual params body scope [(y1,c1),(y2,c2)] c b a) d1 d2 x1 x2)/\M b=KA (zB qual)):=by
 refine #[cY g (Jy name qual params body scope [(y1,c1),(y2,c2)] c b a),λM h z=>#[.frame,.inl rfl,(PySem.W.Looks.ld (part:=KC) z).andThen .now],λA outer s H M L m N o=>?_]
 let[hg,p]:=o
 obtain⟨⟨v,y,B⟩,_⟩:=N _ _ hg
 let[C,_]:=N _ _ p
 let[O,_]:=m.hok _ _ v
 let[f2,_]:=m.hok _ _ C
 refine #[O,λus vs Q r z=>?_]
 let[ds,T,R,rs,a1,q,E]:=z
 obtain⟨d,rfl⟩:∃d,ds=[d]:=by
  have:=len _ _ _ q
  match ds,this with
  |[d],_=>exact #[d,rfl]
 let[x0,8,rx]:=bR rs
 let[u,8,ru]:=vals1 r
 let[t,h1,h2]:=ht A outer s H (L.deeper _)
 refine yQ (t:=lift K t) (x1:=x1) (x2:=x2) S L m U X f Y j ru Z r2 O f2 (l u) h1 #[[KA d,KA d1,KA d2],T,R,#[8,λi d e=>?_],a1,h2 d T R q,E]
 match i,e with
 |0,e=>cases e;exact #[x0,8,rx]
 |1,e=>cases e;exact #[x1,8,y]
 |2,e=>cases e;exact #[x2,8,B]
 |n+3,e=>exact absurd (show([]:vr)[n]?=KA (KA _)from e) (_)
end
def k8(b:r_)(c d:r4):Hp:=λa=>if(b.get? a).isSome=KD\/a=c\/a=d then KC else KA (.tbl #[])
theorem oP{b:r_}{c d a:r4}(h:(b.get? a).isSome=KD\/a=c\/a=d):k8 b c d a=KC:=KI h
def uJ{b:r_}{c d a:r4}(h:k8 b c d a=KC):(b.get? a).isSome=KD\/a=c\/a=d:=by
 by_cases z:(b.get? a).isSome=KD\/a=c\/a=d
 .exact z
 .unfold k8 at h;rw[KH z]at h;cases h
section
variable{X:Cx}{KQ:sm}{σ:L2.St}{H:Hp}{s:Hq}{y1 y2:Str}{c1 c2:r4}
def yx(I:Inv X KQ σ H s)(i:X.fn y1=KD)(d:X.env.cells.lookup y1=KA c1)(j:X.fn y2=KD)(f:X.env.cells.lookup y2=KA c2):Mf X.prog X.w X.K X.mg (kq s.heap (k8 X.base c1 c2)) X.A X.stack s H:=by
 let a:=I.Cs;let h:∀b o,X.base.get? b=KA o->(kq s.heap (k8 X.base c1 c2)).get? b=KA o:=λb o e=>gY (I.bk b o e) (oP (.inl (by rw[e];rfl)))
 let k:∀y b,X.fn y=KD->X.env.cells.lookup y=KA b->b∈NW X.stack->False:=λy b n l g=>by
  rcases Iw.mp (I.oC b g)with q|q
  .exact I.cne y b l q
  .obtain⟨_,m,c,_⟩:=I.ok.hZ.mem (show b∈X.outer.filterMap (·.frame)from q);exact absurd (HY (HE c) (I.ok.cab y b n l)) (Kh _)
 let p:∀b∈NW X.stack,(kq s.heap (k8 X.base c1 c2)).get? b=KC:=λb g=>by
  cases e:(kq s.heap (k8 X.base c1 c2)).get? b with
  |none=>rfl
  |some o=>
   exfalso
   let[e1,e2]:=oY e
   rcases uJ e2 with z|z|z
   .have:=(a.hZ.mem (show b∈X.stack.filterMap (·.frame)from g)).1;rw[this]at z;cases z
   .subst z;exact k _ _ i d g
   .subst z;exact k _ _ j f g
 let[r,h1,h2]:=a.mod.blt;refine #[a.frames,#[a.mod.kin.keeps h,a.mod.glob.keeps h,#[r,h1.keeps h,h2],a.mod.nolimit.keeps h],λb o e=>?_,Nat.le_of_eq (og _ _),nT a.hZ p,a.frf,a.hok,a.bare];let[e1,e2]:=oY e;exists e1;rcases uJ e2 with z|z|z
 .obtain⟨m,c⟩:=Option.isSome_iff_exists.mp z;exact(I.bs b m c).2
 .subst z;exact I.freeC y1 b d
 .subst z;exact I.freeC y2 b f
end
section
variable{X:Cx}{y1 y2 lx:Str}{params:Arguments}{body:sg}{KZ:JB}{Ku:Pos}{c0 Pt:r4}
def wy{names:List (Str×JQ)}{env:Env}{y1 y2:Str}{a b:r4}(c:(names.filter λz=>z.2==.free)=[(y2,.free),(y1,.free)])(h1:env.cells.lookup y1=KA a)(h2:env.cells.lookup y2=KA b):fq names env=[(y1,a),(y2,b)]:=by unfold fq;rw[c];simp[h1,h2]
def vz{KQ:sm}{σ:L2.St}{H:Hp}{s:Hq}{M:MH}{f i:r4}{d1 d2:D}{x1 x2:V}{Q:Hn->Hq->Prop}(d:X.env.code=.ref c0)(m:Mk X.K X.mg c0 Pt)(G:(KZ.names.filter λz=>z.2==.free)=[(y2,.free),(y1,.free)])(J:∀z∈KZ.names,z.2=.free->z.1=y1\/z.1=y2)
 (L:defaultsOf params X.env=([],[])) (I:Inv X KQ σ H s) (t:LV X.K H M) (N:X.env.cells.lookup y1=KA f) (O:X.env.cells.lookup y2=KA i) (v:dg (X.env.qual++"<lambda>") Pt Ku M) (k:Rep X.K H d1 x1) (l:Rep X.K H d2 x2)
 (h:∀g c b pm x P s',Inv X KQ σ x s'->LP X.K H x->LV X.K x P->P g=KA (BR (Jy "<lambda>" (X.env.qual++"<lambda>") params body KZ [(y1,f),(y2,i)] pm c b) d1 d2 x1 x2)->P c=KA (zB (X.env.qual++"<lambda>"))->
  dg (X.env.qual++"<lambda>") Pt Ku P->lD Pt M P->Q (.ref g) s') :
 Hy (HI X.prog X.w) X.A (eval (.Lambda params body KZ Ku) X.env) Q X.xe s:=by
 refine PySem.W.kla_eval L ?_
 let R:closureFor KZ X.env=pure [(y1,f),(y2,i)]:=by
  rw[mV (λz hz Z=>(J z hz Z).elim (λe=>#[f,by rw[e];exact N]) λe=>#[i,by rw[e];exact O]),wy G N O]
 let S:s.heap.Ns IA X.mg:=I.mod.glob.keeps I.bk
 let C:=PySem.W.codeHd_of_K I.kIn m.hd
 rcases v with v|⟨q,v,y,a0⟩
 .obtain⟨j,_⟩:=t _ _ v
  let B:s.heap.get? Pt=KA (PySem.W.tabObj #[]):=I.hok _ _ j
  let n:H Pt≠KC:=by rw[j];simp
  refine PySem.W.kla_makeFunction (mg:=X.mg) R I.ok.glob S d C B trivial rfl (Fn I n) (wt I m n) λc b r tk hx h1 h2 T b0=>?_
  let[n1,n2,I2]:=xy (o:=Jy "<lambda>" (X.env.qual++"<lambda>") params body KZ [(y1,f),(y2,i)] ((X.mg "__name__").getD .none) c b) (tk:=tk) rfl I j hx h1 h2 T b0
  let nc:c≠Pt:=λz=>by rw[z,j]at n1;cases n1
  let ng:r.objs.size≠Pt:=λz=>by rw[z,j]at n2;cases n2
  let E:r.objs.size≠c:=(HX h2).symm
  let g1:LP X.K H (upd H Pt (.tbl (#[]++(List.toArray [Kr Ku.line,Kr Ku.col,.ref c])))):=.put (λxs e=>by rw[j]at e;cases e) (λu xs e=>by rw[j]at e;cases e)
  let g2:=LP.new (K:=X.K) (o:=.ext (pN c (X.env.qual++"<lambda>"))) (show(upd H Pt (.tbl (#[]++(List.toArray [Kr Ku.line,Kr Ku.col,.ref c])))) c=KC by rw[aG nc];exact n1)
  let p:=LP.new (K:=X.K) (o:=.ext (cY r.objs.size (Jy "<lambda>" (X.env.qual++"<lambda>") params body KZ [(y1,f),(y2,i)] ((X.mg "__name__").getD .none) c b))) (show(upd (upd H Pt (.tbl (#[]++(List.toArray [Kr Ku.line,Kr Ku.col,.ref c])))) c (.ext (pN c (X.env.qual++"<lambda>")))) r.objs.size=KC by rw[aG E,aG ng];exact n2)
  let U:=(g1.trans g2).trans p
  let a1:=t.rR (A:=λ_ H a=>H a=KA (.tbl (Bb Ku c))) g1 aH (λx _ e=>e)
  let a2:=a1.rR (A:=λ_ H a=>H a=KA (.ext (pN a (X.env.qual++"<lambda>")))) g2 aH (λx _ e=>e)
  let a3:=a2.rR (A:=λK H a=>H a=KA (.ext (cY a (Jy "<lambda>" (X.env.qual++"<lambda>") params body KZ [(y1,f),(y2,i)] ((X.mg "__name__").getD .none) c b)))/\Rep K H d1 x1/\Rep K H d2 x2) p #[aH,k.mono U,l.mono U] (λx Y e=>#[e,(k.mono U).mono Y,(l.mono U).mono Y])
  let m1:=t.fresh n1
  let F:=t.fresh n2
  refine h _ c b _ _ _ _ I2 U a3 ai (by rw[ak E.symm,ai];rfl) (.inr #[c,by rw[ak ng.symm,ak nc.symm,ai];rfl,by rw[ak E.symm,ai];rfl,nc]) λa o na e=>?_
  rw[ak (λz=>by rw[z,F]at e;cases e),ak (λz=>by rw[z,m1]at e;cases e),ak na];exact e
 .obtain⟨j,_⟩:=t _ _ v
  let B:s.heap.get? Pt=KA (PySem.W.tabObj (Bb Ku q)):=I.hok _ _ j
  let n:H Pt≠KC:=by rw[j];simp
  refine PySem.W.kla_makeFunctionHit (mg:=X.mg) (cv:=.ref q) R I.ok.glob S d C B trivial (by unfold Bb Kr codeAmong;simp) (wt I m n) λb r tk Z d0=>?_
  let[n2,I2]:=Ac (o:=Jy "<lambda>" (X.env.qual++"<lambda>") params body KZ [(y1,f),(y2,i)] ((X.mg "__name__").getD .none) q b) (tk:=tk) rfl I Z d0
  let p:=LP.new (K:=X.K) (o:=.ext (cY r.objs.size (Jy "<lambda>" (X.env.qual++"<lambda>") params body KZ [(y1,f),(y2,i)] ((X.mg "__name__").getD .none) q b))) n2
  let a3:=t.rR (A:=λK H a=>H a=KA (.ext (cY a (Jy "<lambda>" (X.env.qual++"<lambda>") params body KZ [(y1,f),(y2,i)] ((X.mg "__name__").getD .none) q b)))/\Rep K H d1 x1/\Rep K H d2 x2) p #[aH,k.mono p,l.mono p] (λx Y e=>#[e,(k.mono p).mono Y,(l.mono p).mono Y])
  let F:=t.fresh n2
  let k1:Pt≠r.objs.size:=λz=>by rw[<-z,v]at F;cases F
  let k2:q≠r.objs.size:=λz=>by rw[<-z,y]at F;cases F
  refine h _ q b _ _ _ _ I2 p a3 ai (by rw[ak k2];exact y) (.inr #[q,by rw[ak k1];exact v,by rw[ak k2];exact y,a0]) λa o na e=>?_
  rw[ak (λz=>by rw[z,F]at e;cases e)];exact e
end
def rG(q:Str)(Pt:r4)(d:Pos)(g h:Nat)(spg:D->D->Lo)(j:Ld):TD:=λδ M Q=>j δ M λk b=>∃(l:r4) (ws ns:sy) (e1 e2:D),k=[.ref l]/\b l=KA (.lst (ws.map D.int))/\l≠Pt/\δ[g]?=KA (KA e1)/\δ[h]?=KA (KA e2)/\dg q Pt d b/\ns.length=ws.length/\ns.length<64/\
 (∀(i:Nat)(w n:Int) a e,ws[i]?=KA w->ns[i]?=KA n->lD Pt b a->(∀c,Sub a c->e (.int n) c)->spg e1 e2 [.int w] a e)/\
 ∀p f a,b p=KC->a p=KA (.lst (f.map D.int))->Q3 ns ws f->dg q Pt d a->lD Pt b a->Q (.ref p) a
section
variable{X:Cx}{y1 y2 lx:Str}{k:Nat}{params:Arguments}{body:sg}{KZ:JB}{Ku p pos kp:Pos}{a1:sg}{ta:Ld}{c0 Pt:r4}{spg:D->D->Lo}
def oW(j1 j2:Nat)(U:X.env.code=.ref c0)(m:Mk X.K X.mg c0 Pt)(S:Le lx y1 y2 KZ)
 (hb:∀(name qual:Str)(F G:r4)(pm cdv ct Y:Hn),Kc (PySem.W.kla_fn name qual params body KZ [(y1,F),(y2,G)] pm cdv ct) #[[Y],[]]=pure [(lx,Y)])
 (len:∀d1 d2 ds M Q,spg d1 d2 ds M Q->ds.length=1)
 (ht:∀(base:r_)(g F G c':r4)(d1 d2:D)(A:Ig)(outer:List Env)(s:Hq)(H:Hp),LU k (A.deeper (kg KZ s.z (OF lx y1 y2 s.z F G) (X.env.qual++"<lambda>") g (.ref c')))->
  ∃t,DE (qG X.prog X.w X.K X.mg base [lx,y1,y2] (X.env.qual++"<lambda>") KZ (OF lx y1 y2 s.z F G) g (.ref c') A outer s H) body t/\∀d M Q,spg d1 d2 [d] M Q->t [KA d,KA d1,KA d2] M Q)
 (hr:LU (k+1+1+1) X.A) (hm:X.mg "sorted"=KC) (ha:DA X [a1] ta)
 (hg:Gl X "sorted":=by rfl) (d0:(KZ.names.filter λz=>z.2==.free)=[(y2,.free),(y1,.free)]:=by rfl) (f0:defaultsOf params X.env=([],[]):=by rfl) (m0:X.fn y1=KD:=by rfl) (n0:X.fn y2=KD:=by rfl) (o0:X.N[j1]?=KA y1:=by rfl) (q0:X.N[j2]?=KA y2:=by rfl) (g0:X.env.scope.names.lookup y1=KA .cell:=by rfl) (h0:X.env.scope.names.lookup y2=KA .cell:=by rfl)
 (he:IY pos (HC [a1] X.env)=(KG,eval a1 X.env)::IY pos (HC [] X.env):=by rfl) (r0:(IY pos (HC [a1] X.env)).any (·.1)=KG:=by rfl) :
 DE X (.Call (.Name "sorted" p) [a1] [#[KA "key",.Lambda params body KZ Ku,kp]] pos) (rG (X.env.qual++"<lambda>") Pt Ku j1 j2 spg ta):=by
 intro KQ s σ H Q I h
 let[δ,M,R,hs,hM,q,s0]:=h
 refine JN (fL I hg hm oh (PyProof.Rows.callWith_kw (LS (ha pos KQ s σ H _ I #[δ,M,_,hs,hM,q,λes M1 vs H1 g1 r1 a1 q1=>(show ∃es M1,LP X.K H H1/\aE X.K H1 es vs/\LV X.K H1 M1/\_ from #[es,M1,g1,r1,a1,q1])]) λus s1 z=>?_) he r0 rfl rfl))
 let[vs,H1,I1,Z,es,M1,g1,r1,a1,l,ws,ns,e1,e2,8,hl,t0,u0,v0,i0,hn,w0,x0,hq]:=z
 let[v1,8,rl]:=bR r1
 rw[Rep]at rl;subst rl
 let[Y,8,ru]:=vals1 Z
 cases ru
 let[x1,y0,z0]:=hs.at' j1 e1 u0
 let[x2,b1,f1]:=hs.at' j2 e2 v0
 let[F,J]:=I1.ok.has y1 (.inl g0)
 let[G,b]:=I1.ok.has y2 (.inl h0)
 let nc:F≠G:=λz=>S.n3 (I1.ok.inj y1 y2 F J (by rw[z];exact b))
 refine PyProof.Rows.kws_cons (vz U m d0 (λz hz hk=>S.only z hz hk) f0 I1 a1 J b i0 (z0.mono g1) (f1.mono g1) λg c' h1 pm H2 M2 s2 I2 g2 a2 i1 k1 k0 B=>?_)
 refine PyProof.Rows.kws_nil ?_
 show Hy (HI X.prog X.w) X.A (call (.builtin "sorted") [.ref l] [(IW "key",.ref g)]) _ _ _
 let m1:M2 l=KA (.lst (ws.map D.int)):=B _ _ t0 hl
 refine Cz I2 a2 m1 hn w0 (λi w n Y L H' s' I' O C hd hi n1=>?_) λp p1 H' L s' I' g' O C hp t1 bk=>?_
 .have a0:lD Pt M1 L:=λa o na e=>C _ _ (B a o na e)
  let[mm,n2,w1]:=I'.loc
  let cell:∀{j:Nat}{y:Str}{c:r4}{x:V},X.N[j]?=KA y->σ[j]?=KA (KA x)->X.env.scope.names.lookup y=KA .cell->X.env.cells.lookup y=KA c->∃u,RelV x u/\s'.heap.IsCell c (KA u):=λ{j y c x} hN hv hy hc=>by
   let[u2,z1,lk]:=w1 j y x hN hv (.inr (.inl hy))
   exists u2,z1
   rcases lk with⟨z,_⟩|⟨_,G,b,z⟩
   .rw[show X.env.kindOf y=X.env.scope.names.lookup y from rfl,hy]at z;cases z
   .rw[hc]at b;cases b;exact z
  let[v1,Z,o1,b2,f2]:=cell o0 y0 g0 J
  let[v2,i2,o2,k2,m2]:=cell q0 b1 h0 b
  let CV:=xi (P:=X.prog) (w:=X.w) (K:=X.K) (mg:=X.mg) (k:=k) (g:=g) (d1:=e1) (d2:=e2) (base:=kq s'.heap (k8 X.base F G)) (sp:=spg e1 e2) S nc (gY b2 (oP (.inr (.inl rfl)))) f2 (gY k2 (oP (.inr (.inr rfl)))) m2 Z i2 (λY=>hb "<lambda>" (X.env.qual++"<lambda>") F G pm (.ref c') h1 Y) (len e1 e2) (λA outer s H hr=>ht _ g F G c' e1 e2 A outer s H hr)
  let[Pg,look,run]:=CV.ex
  let T:=yx I' m0 J n0 b
  let[_,h2]:=run X.A.in1.in1 X.stack s' H' L hr.in1.in1 #[T.frames,T.mod,T.bs,T.bsz,T.hZ,T.frf,T.hok,T.bare] O #[C _ _ i1,C _ _ k1]
  refine wpAny_call (codeAny_mono (h2 [Y] [.int w] (λv b0=>∃f,LP X.K H' b0/\v=.int n/\LV X.K b0 f/\Sub L f) (.cons n1 .nil) #[[.int w],L,λd f=>d=.int n/\Sub L f,.cons (by rw[Rep]) .nil,O,x0 i w n L _ hd hi a0 λf sb=>#[8,sb],λd f v b0 gg rr aa z=>by let[8,z]:=z;rw[Rep]at rr;exact #[f,gg,rr,aa,z]]) λr p2 E=>?_)
  cases r with
  |error e=>exact HS E
  |ok fl=>
   cases fl with
   |ret u=>exact I'.after E
   |next=>exact HS E
   |brk=>exact HS E
   |cont=>exact HS E
 .exact #[.ref p,H',I',8,s0 _ L _ H' ((g1.trans g2).trans g') (by rw[Rep]) O (hq p p1 L (by
   cases z:M1 p with
   |none=>rfl
   |some o=>
    let np:p≠Pt:=λe=>by
     subst e
     rcases k0 with h|⟨_,h,_⟩<;>rw[hp]at h<;>cases h
    rw[B _ _ np z]at hp;cases hp) t1 bk (k0.sub C) λa o na e=>C _ _ (B a o na e))]
end
theorem t5(a:Nat->Nat->Bool):∀k,argBest a k<=k
 |0=>Hu _
 |k+1=>by
  have:=t5 a k
  rw[argBest]
  split<;>omega
section
variable{X:Cx}
theorem qd:∀{ns:sy}{its:List Hn},Vals (ns.map V.int) its->∃ps:List (Int×Tok),its=ps.map (λp=>Value.int p.1 p.2)/\ps.map (·.1)=ns
 |[],its,h=>by cases h;exact #[[],8,rfl]
 |n::ns,its,h=>by
  rw[HG]at h
  cases h with
  |cons r q=>
   let[t,8]:=r
   let[ps,8,8]:=qd q
   exact #[(n,t)::ps,8,rfl]
def uU(f:X.calm=KD):bY X (.builtin "max") (λxs H Q=>∃p ns,xs=[.ref p]/\L8 X.K H p (ns.map V.int)/\ns≠[]/\∀n∈ns,Q (.int n) H):=by
 intro KQ s σ H xs us Q I r g;let[p,ns,e,h,i,k]:=g;subst e;let[u,8,j]:=vals1 r;cases j;let[l,m,o,_]:=I.list h;let[ps,8,8]:=qd m;let h0:0<ps.length:=List.length_pos_iff.mpr λz=>i (by rw[z];rfl);refine max_intList (xs:=ps.toArray) (I.ok.hd f) (by simpa[intItems]using o.isList) ‹h0› λv t w hv q=>?_;let c:=t5 (λx y=>decide (numAt ps.toArray x>numAt ps.toArray y)) (ps.toArray.size-1);let a:(intItems ps.toArray)[argBest (λx y=>decide (numAt ps.toArray x>numAt ps.toArray y)) (ps.toArray.size-1)]?=KA v:=hv;rw[HD]at c a;generalize argBest (λx y=>decide (numAt ps.toArray x>numAt ps.toArray y)) (ps.length-1)=b at c a;let d:b<ps.length:=()
 let z:Value.int ps[b].1 ps[b].2=v:=by simpa[intItems,d]using a
 exact #[.int ps[b].1,H,I.kept q,by rw[<-z];exact #[_,rfl],k _ (List.mem_map_of_mem (Iq d))]
def BE:RC:=λa M Q=>match a with
 |[.ref l]=>∃ns:sy,M l=KA (.lst (ns.map D.int))/\ns≠[]/\∀n∈ns,Q (.int n) M
 |a=>Bo a M Q
theorem pT(c:X.calm=KD)(f:X.A.units+64<IV):d9 X (.builtin "max") BE:=bZ (bY.or (zH c f) (uU c)) λvs H Q g=>by
 let[j,M,R,d,a,q,b]:=g;unfold BE at q;split at q
 .obtain⟨ns,e,h,q⟩:=q;let[v,8,r]:=bR d;rw[Rep]at r;subst r;let[xs,h1,h2]:=a _ _ e;rw[eN h2]at h1;exact .inr #[_,ns,8,L8.of h1,h,λn i=>b _ _ _ _ .refl (by rw[Rep]) a (q n i)]
 .exact .inl #[_,M,R,d,a,q,b]
end
end SD
namespace HT
open PySem PyProof.Rows
end HT
open HT renaming lexLt->LL,jv->LM
namespace SD
open PySem PySem.Spec PyProof.Rows L2
section
variable{ws:vp}{c:Vc}(hU:∀w∈ws,L5 w)(hF:PF ws)
include hU hF
def Cd(ws:vp)(fs:sy)(k:Int):Nat:=(fs.filter λo=>MQ (MA ws k) (MA ws o)).length
end
def Nx(u:D)(cs:vu)(g m r:D):List (Str×D):=[("plot",u),("corners",.tup cs),("guide",g),("most_looks",m),("step_rows",r)]
def jR(ps:List Vc)(ws:vp)(i w:Nat):Bool:=decide (Pa ps (ea (MA ws (w:Int)))<i)&&decide (i<=Pa ps (eb (MA ws (w:Int))))
def kB(ps:List Vc)(ws:vp)(i j:Nat):sy:=((HM j).filter (jR ps ws i)).map λk:Nat=>(k:Int)
def vE(ps:List Vc)(ws:vp)(i j:Nat):kB ps ws i (j+1)=kB ps ws i j++if jR ps ws i j=KD then[(j:Int)]else[]:=by
 unfold kB;rw[Kb,List.filter_append,Ib]
 congr 1
 cases e:jR ps ws i j<;>simp[e]
def uq(ps:List Vc)(ws:vp)(i:Nat):Fs ws (kB ps ws i ws.length):=by
 refine #[?_,λk a=>?_]
 .unfold kB List.Nodup;rw[List.pairwise_map];exact((List.nodup_range (n:=ws.length)).filter _).imp λh e=>h ()
 .obtain⟨j,b,rfl⟩:=Iz.mp a;have:=List.mem_range.mp (J1.mp b).1;omega
def gq(g h:Int)(u:Vc):Vc:=(g*u.1-h,g*u.2-h)
def DR(g h:Int)(us:List Vc):us.map (gp g h)=(us.map (gq g h)).map MD:=by rw[Jj];rfl
def sD{g h:Int}(a:0<g){u v:Vc}(e:gq g h u=gq g h v):u=v:=by let e1:=congrArg Prod.fst e;let e2:=congrArg Prod.snd e;exact Prod.ext ((sJ a).mp e1) ((sJ a).mp e2)
def uj{g h:Int}(a:0<g)(us:List Vc)(u:Vc):dw (us.map (gq g h)) (gq g h u)=(dw us u).map (gq g h):=by
 let e:gq g h u∈us.map (gq g h)↔u∈us:=#[λz=>by let[v,hv,e]:=Iz.mp z;rw[<-sD a e];exact hv,λz=>Iz.mpr #[u,z,rfl]];unfold dw;by_cases z:u∈us
 .rw[KI z,KI (e.mpr z)]
 .rw[KH z,KH (λq=>z (e.mp q)),Ib];rfl
def Fb{g h:Int}(G:Gs g h){us:List Vc}(c:∀u∈us,Lh u)(nd:us.Nodup)(l:us.length<64):WR (us.map (gq g h)):=by
 refine #[by rw[Ho];exact l,?_,λv hv=>?_]
 .unfold List.Nodup;rw[List.pairwise_map];exact nd.imp λne e=>ne (sD G.g0 e)
 .obtain⟨u,d,rfl⟩:=Iz.mp hv;let B:=(c u d).2;let h1:=G.g0;let h2:=G.g1;let f:=G.h0;let i:=G.h1;let a:g*u.2<=12*20:=K8 h2 B.2 B.1 ⋯;let b:0<=g*u.2:=Ko () B.1;show -500<=g*u.2-h/\g*u.2-h<500;omega
def zX{g h:Int}(G:Gs g h){us:List Vc}{vs:List Vc}(f:∀u∈us,Lh u)(i:vs.Perm (us.map (gq g h)))(up:vs.Pairwise yr):∃ps:List Vc,vs=ps.map (gq g h)/\ps.Perm us/\ps.Pairwise Lj:=by
 let j:∀u:Vc,((((gq g h u).1+h)/g,((gq g h u).2+h)/g):Vc)=u:=λu=>by
  let e:∀x:Int,(g*x-h+h)/g=x:=λx=>by rw[Int.sub_add_cancel,Int.mul_ediv_cancel_left _ (by have:=G.g0;omega)]
  exact Prod.ext (e u.1) (e u.2)
 let c:=i.map λv:Vc=>(((v.1+h)/g,(v.2+h)/g):Vc);rw[Jj]at c;let e2:us.map ((λv:Vc=>(((v.1+h)/g,(v.2+h)/g):Vc))∘gq g h)=us:=(Jt λu _=>j u).trans (List.map_id' _);rw[e2]at c;let k:vs=(vs.map λv:Vc=>(((v.1+h)/g,(v.2+h)/g):Vc)).map (gq g h):=by rw[Jj];refine((Jt λv hv=>?_).trans (List.map_id' _)).symm;let[u,_,8]:=Iz.mp (i.mem_iff.mp hv);exact congrArg (gq g h) (j u)
 exists _,k,c;rw[k,List.pairwise_map]at up;refine List.Pairwise.imp_of_mem (λ{a b} l d z=>?_) up;let A:=f a (c.mem_iff.mp l);let B:=f b (c.mem_iff.mp d);let h1:=G.g0;unfold yr gq at z;dsimp only at z;let e1:g*(1000*a.1+a.2)<g*(1000*b.1+b.2):=by rw[Int.mul_add,Int.mul_add,Int.mul_left_comm,Int.mul_left_comm g 1000];omega
 let e3:=Int.lt_of_mul_lt_mul_left e1 (Int.le_of_lt h1);let m:=A.2;let b1:=B.2;unfold Lj;omega
section
variable{prog:HL}{w:Il}{A:Ig}{E:Hn->Hq->Prop}{s:Hq}
def yZ{r:r4}{n i:Int}{t u v tk:Tok}{Q:Hn->Hq->Prop}(h:IsRange s.heap r 0 n 1 t u v)(c:Q (.bool (decide (0<=i)&&decide (i<n))) s):Hy (HI prog w) A (Ik .In (.int i tk) (.ref r)) Q E s:=by
 let a:s.TypeIs (.ref r) "range":=#[_,h,rfl];show Hy _ _ (contains (.ref r) (.int i tk) >>= λb=>pure (JU b)) Q E s;refine Hl ?_;unfold contains;refine IM ?_;show Hy _ _ (specialOf _ _ >>= _) _ _ _;refine Hl (wpAny_specialOf a PySem.F.slot_range_contains.lookup ?_);rw[KH ⋯];refine Hl (wpAny_callSpecialUnlessNone?_slot a PySem.F.slot_range_contains (JC PySem.F.slot_range_contains a PySem.F.entry_range_contains ?_ (PySem.F.args_range_contains_2 _ _)));unfold Kd.«range.__contains__»;show Hy _ _ (rule "range.contains.reckoned" >>= λ_=>Builtin.Range.rangeFields (.ref r) >>= λz=>ret (JU (Builtin.Range.rangePlace? z.1 z.2.1 z.2.2 i).isSome)) _ _ s;refine Hl (wpAny_rule (Hl ?_));unfold Builtin.Range.rangeFields;refine Hl (Ke h rfl rfl ?_);refine Hl (Hs ?_);refine Hl (Ke h rfl rfl ?_);refine Hl (Hs ?_);refine Hl (Ke h rfl rfl ?_);refine Hl (Hs ?_);refine Hs (Hs #[7,?_]);let e:(Builtin.Range.rangePlace? 0 n 1 i).isSome=(decide (0<=i)&&decide (i<n)):=by unfold Builtin.Range.rangePlace?;by_cases h1:0<=i<;>by_cases h2:i<n<;>simp[h1,h2,Int.emod_one]
 show Hy _ _ (truthy (JU (Builtin.Range.rangePlace? 0 n 1 i).isSome)) _ _ s;rw[e];exact Hs (Hs c)
end
section
variable{X:Cx}
def BZ:Lq X (Ik .In) (λx y H Q=>∃(i:Int) (n:Nat) (a:r4),x=.int i/\y=.ref a/\H a=KA (.rng 0 (n:Int))/\Q (.bl (decide (0<=i)&&decide (i<(n:Int)))) H):=by intro KQ s σ H x y v u Q I b c h;let[i,n,a,8,8,d,q]:=h;let[f,8]:=b;cases c;let[t,u,v,e]:=I.hok a _ d;exact yZ e #[.bl _,H,I,8,q]
def FT(a:TD)(b:Ld):Lg:=λδ M Q=>a δ M λx c=>b δ c λd e=>∃(i:Int) (n:Nat),x=.int i/\d=[.int (n:Int)]/\Q (decide (0<=i)&&decide (i<(n:Int))) e
theorem zb{l a:sg}{p pos d:Pos}{h:TD}{j:Ld}(o:Gl X "range")(r:X.mg "range"=KC)(s:DE X l h)(t:DA X [a] j)(e:HC [a] X.env=[(KG,eval a X.env)]:=by rfl)(f:K0 .In (.Call (.Name "range" p) [a] [] pos)=KG:=by rfl):DT X (.Compare l [.In] [.Call (.Name "range" p) [a] [] pos] d) (FT h j):=
 iT (tW BZ s (Eh o r t e) f) λσ H Q z=>by
  let[δ,M,R,e,w,q,g]:=z
  refine #[δ,M,_,e,w,q,λx y v H1 g1 k A B=>#[δ,y,_,e.mono g1,A,B,λI J vs K C D E c=>?_]]
  let[i,n,ex,F,G]:=c
  subst ex F
  let[u,8,m]:=bR D
  rw[Rep]at m k
  subst m k
  refine #[n,8,λb f=>#[i,n,b,8,8,aH,7,g _ _ _ ((g1.trans C).trans (.new f)) (E.new f) G]]
end
abbrev Wd:={x:Str // PyData.strOk x=KD}
abbrev Lk:=Wd×Int×Int
def L9(z:Lk):D:=.tup [.str z.1.1,.int z.2.1,.int z.2.2]
def xU{x:Str}(h:x="corner"\/x="wall"):PyData.strOk x=KD:=by rcases h with rfl|rfl<;>decide +kernel
def pG(p q:Int)(u:Vc):Int:=(if HT.cF [p,q] [u.1,u.2]=KD then 1 else 0)-(if LL [p,q] [u.1,u.2]=KD then 1 else 0)
def hB(a:vp)(qs:List Vc)(p q:Int)(z:Lk):Bool:=
 if z.1.1="corner"/\0<=z.2.1/\z.2.1<qs.length then decide (pG p q ((qs[z.2.1.toNat]?).getD (0,0))=z.2.2)
 else if z.1.1="wall"/\0<=z.2.1/\z.2.1<a.length then decide (HW (sd ((a[z.2.1.toNat]?).getD (0,0,0,0)) p q)=z.2.2)else KG
def xp(t b X Y g h:Int)(ps:List Vc):(ps.map (gq g h)).map (L6 t b X Y)=ps.map (L6 (g*t) b (X-h*t) (Y-h*t)):=by rw[Jj];refine Jt λu _=>?_;show L6 t b X Y (gq g h u)=_;unfold L6 gq;dsimp only;rw[kh,kh]
def rj{t b X Y p q x y:Int}(d:0<t)(f:0<b):decide (Kw t b X 1 p<Kw t b X 1 x\/Kw t b X 1 p=Kw t b X 1 x/\Kw t b Y 1 q<Kw t b Y 1 y)=LL [p,q] [x,y]:=by
 let lt:∀{Z a c:Int},Kw t b Z 1 a<Kw t b Z 1 c↔a<c:=λ{Z a c}=>by rw[Ma.qE d f ⋯ ⋯];omega
 let eq:∀{Z a c:Int},Kw t b Z 1 a=Kw t b Z 1 c↔a=c:=λ{Z a c}=>by
  constructor
  .intro e;rcases IX a c with h|h|h
   .exact absurd (lt.mpr h) (by rw[e];exact Rat.lt_irrefl)
   .exact h
   .exact absurd (lt.mpr h) (by rw[e];exact Rat.lt_irrefl)
  .rintro rfl;rfl
 rw[JJ,LD,decide_eq_true_eq,lt,eq,lt]
def AF(p q:Int)(u:Vc):pG p q u=if LL [p,q] [u.1,u.2]=KD then -1 else if LL [u.1,u.2] [p,q]=KD then 1 else 0:=by
 unfold pG;rw[Ma.oq];by_cases h1:LL [p,q] [u.1,u.2]=KD
 .have h2:¬LL [u.1,u.2] [p,q]=KD:=by rw[LD]at h1 ⊢;omega
  rw[KI h1,KH h2,KI h1];rfl
 .by_cases h2:LL [u.1,u.2] [p,q]=KD
  .simp[h1,h2]
  .simp[h1,h2]
def jL{g h:Int}(G:Gs g h)(w:Wl)(x y:Int):HW (sd (raw g h w) (g*x-h) (g*y-h))=HW (sd w x y):=by let e2:=F9 g h w.1 w.2.1 w.2.2.1 w.2.2.2 x y;unfold NX at e2;show HW ((g*w.2.2.1-h-(g*w.1-h))*(g*y-h-(g*w.2.1-h))-(g*w.2.2.2-h-(g*w.2.1-h))*(g*x-h-(g*w.1-h)))=_;rw[e2,FR G.g0];rfl
theorem Kx.up{xs:t_}{M b:MH}{p:r4}{o:MO}(a:Kx xs M b)(c:M p=KC):Kx xs M (au b p o):=λx u n h=>by rw[ak (az h c)];exact a x u n h
def Kx.none{r z:r4}{M a:MH}{n:Nat}(kx:Kx [r] M a)(P:LY a r n)(hz:a z=KC):M z=KC:=by
 cases e:M z with
 |none=>rfl
 |some o=>
  have:=kx z o (by simpa using(P.ne hz).symm) e
  rw[hz]at this;cases this
section
variable{α:Type}(f:α->D)(l:List α){j:Nat}
def uB(h:j<=l.length):cutD (l.map f) KC (KA (j:Int))=(l.take j).map f:=by unfold cutD;rw[LM,HT.mX,Ho,Nat.min_eq_left h,Nat.sub_zero,List.drop_zero,List.map_take]
def xF(j:Nat):cutD (l.map f) (KA (j:Int)) KC=(l.drop j).map f:=by
 unfold cutD;rw[LM,HT.mX,Ho,<-List.map_drop,Jo (by rw[Ho,Jd];exact Hu _)];rcases Nat.le_total j l.length with h|h
 .rw[Nat.min_eq_left h]
 .rw[Nat.min_eq_right h,List.drop_of_length_le h,List.drop_of_length_le (Hu _)]
def Fm(h:j<=l.length):∃a:List α,a.length<=1/\cutD (l.map f) (KA (j:Int)) (KA ((j:Int)+1))=a.map f:=by refine #[(l.drop j).take (min (j+1) l.length-j),by rw[Iu];omega,?_];unfold cutD;rw[show((j:Int)+1)=((j+1:Nat):Int) by omega,LM,LM,Ho,Nat.min_eq_left h,<-List.map_drop,List.map_take]
end
def wO{ds:vu}{v:Int}(h0:0<=v)(h1:v<ds.length):∃d∈ds,atI ds v=KA d:=by obtain⟨j,rfl⟩:∃j:Nat,v=(j:Int):=#[v.toNat,()];exact #[_,Iq (():j<ds.length),aW (Ht ())]
def yq{a:r4}{v:Int}{M:MH}{ds:vu}{Q:DK}(h:M a=KA (.lst ds))(b:∀d∈ds,∃z:Int,d=.int z)(h0:0<=v)(h1:v<ds.length)(q:∀z:Int,Q (.int z) M):Y6 a v M Q:=by let[d,hd,c]:=wO h0 h1;let[z,8]:=b d hd;exact #[_,_,h,c,q z]
def PZ(z:Lk):Kj:=.tuple [.str z.1.1,.int z.2.1,.int z.2.2]
theorem sW{M:MH}:∀a:List Lk,Np M (a.map L9) (a.map PZ)
 |[]=>.nil
 |z::a=>.cons (Pd.of rfl) (sW a)
theorem wF:∀a:List Lk,Ji (a.map PZ)=KD/\PyData.depthAll (a.map PZ)<=10
 |[]=>#[8,LR rfl]
 |z::a=>by
  let[h1,h2]:=wF a
  rw[HG,Ji,PyData.depthAll,h1]
  exact #[by simp[PZ,PyData.canLay0,Ji,z.1.2],Nat.max_le.mpr #[by simp[PZ,PyData.depth,PyData.depthAll],h2]]
def n4(a:List Lk):JY (.list (a.map PZ))=KD:=by unfold JY;let[h1,h2]:=wF a;rw[Je];refine #[by rw[PyData.canLay0];exact h1,KL ?_];rw[PyData.depth];omega
theorem yD:∀a:List Lk,IT (a.map PZ) (a.map PZ)=KD
 |[]=>by simp[IT]
 |z::a=>by
  rw[HG,IT,yD a]
  simp[PZ,Iy,IT]
section
variable{P:HL}{w:Il}{K:Hm}{mg:Str->Option Hn}{base:r_}{x:Str}{st:r8}{N:u_}{k:Nat}
def Nl(C:D->MH->DK->Prop):Lo:=λb M Q=>match b with
 |[a]=>C a M Q
 |_=>False
def fH{p:Str}{C:D->MH->DK->Prop}(T:Txt K mg x st)(S:LN N [p] (ar st))
 (body:∀(f:r4)(cdv:Hn)(A:Ig)(outer:List Env)(s:Hq)(H:Hp)(E:XK),LU k (A.deeper (Kl x (ar st) s.z f cdv))->
  ∃t,DSs (hW MY P w K mg base N x (ar st) f cdv A outer s H E).nox (aN st) t/\∀a M Q,C a M Q->t (kY Q) (dr N [a]) M)
 (e:∀(kV b d:Hn)(an:Option r4)(cdv ct a:Hn),Kc (IH x x (aY st) (aN st) (ar st) .none kV b d an cdv ct) #[[a],[]]=pure ([p].zip [a]):=by intros;rfl):Cal P w K mg base (k+1) x (Nl C):=by
 refine vt T S (λkV b d an cdv ct us g=>?_) (λc M Q h=>?_) λf cdv A outer s H E i=>?_
 .obtain⟨a,rfl⟩:=Ba g
  exact e ..
 .rcases c with _|⟨a,_|⟨w,c⟩⟩
  all_goals first|exact HS h|rfl
 .obtain⟨t,h,j⟩:=body f cdv A outer s H E i
  refine #[t,h,λc M Q h=>?_]
  rcases c with _|⟨a,_|⟨w,c⟩⟩
  all_goals first|exact HS h|exact j _ _ _ h
def Li(C:D->D->MH->DK->Prop):Lo:=λc M Q=>match c with
 |[a,b]=>C a b M Q
 |_=>False
def bo{p q:Str}{C:D->D->MH->DK->Prop}(T:Txt K mg x st)(S:LN N [p,q] (ar st))
 (body:∀(f:r4)(cdv:Hn)(A:Ig)(outer:List Env)(s:Hq)(H:Hp)(E:XK),LU k (A.deeper (Kl x (ar st) s.z f cdv))->
  ∃t,DSs (hW MY P w K mg base N x (ar st) f cdv A outer s H E).nox (aN st) t/\∀a b M Q,C a b M Q->t (kY Q) (dr N [a,b]) M)
 (g:∀(kV c e:Hn)(an:Option r4)(cdv ct a b:Hn),Kc (IH x x (aY st) (aN st) (ar st) .none kV c e an cdv ct) #[[a,b],[]]=pure ([p,q].zip [a,b]):=by intros;rfl):Cal P w K mg base (k+1) x (Li C):=by
 refine vt T S (λkV c e an cdv ct us i=>?_) (λd M Q h=>?_) λf cdv A outer s H E j=>?_
 .obtain⟨a,b,rfl⟩:=pV i
  exact g ..
 .rcases d with _|⟨a,_|⟨b,_|⟨w,d⟩⟩⟩
  all_goals first|exact HS h|rfl
 .obtain⟨t,h,l⟩:=body f cdv A outer s H E j
  refine #[t,h,λd M Q h=>?_]
  rcases d with _|⟨a,_|⟨b,_|⟨w,d⟩⟩⟩
  all_goals first|exact HS h|exact l _ _ _ _ h
def QD(C:D->D->D->MH->DK->Prop):Lo:=λd M Q=>match d with
 |[a,b,c]=>C a b c M Q
 |_=>False
def m5{p q r:Str}{C:D->D->D->MH->DK->Prop}(T:Txt K mg x st)(S:LN N [p,q,r] (ar st))
 (body:∀(f:r4)(cdv:Hn)(A:Ig)(outer:List Env)(s:Hq)(H:Hp)(E:XK),LU k (A.deeper (Kl x (ar st) s.z f cdv))->
  ∃t,DSs (hW MY P w K mg base N x (ar st) f cdv A outer s H E).nox (aN st) t/\∀a b c M Q,C a b c M Q->t (kY Q) (dr N [a,b,c]) M)
 (i:∀(kV d g:Hn)(an:Option r4)(cdv ct a b c:Hn),Kc (IH x x (aY st) (aN st) (ar st) .none kV d g an cdv ct) #[[a,b,c],[]]=pure ([p,q,r].zip [a,b,c]):=by intros;rfl):Cal P w K mg base (k+1) x (QD C):=by
 refine vt T S (λkV d g an cdv ct us j=>?_) (λe M Q h=>?_) λf cdv A outer s H E l=>?_
 .obtain⟨a,b,c,rfl⟩:=Fe j
  exact i ..
 .rcases e with _|⟨a,_|⟨b,_|⟨c,_|⟨w,e⟩⟩⟩⟩
  all_goals first|exact HS h|rfl
 .obtain⟨t,h,m⟩:=body f cdv A outer s H E l
  refine #[t,h,λe M Q h=>?_]
  rcases e with _|⟨a,_|⟨b,_|⟨c,_|⟨w,e⟩⟩⟩⟩
  all_goals first|exact HS h|exact m _ _ _ _ _ h
def Qs(C:D->D->D->D->MH->DK->Prop):Lo:=λe M Q=>match e with
 |[a,b,c,d]=>C a b c d M Q
 |_=>False
def tU{p q r t:Str}{C:D->D->D->D->MH->DK->Prop}(T:Txt K mg x st)(S:LN N [p,q,r,t] (ar st))
 (body:∀(f:r4)(cdv:Hn)(A:Ig)(outer:List Env)(s:Hq)(H:Hp)(E:XK),LU k (A.deeper (Kl x (ar st) s.z f cdv))->
  ∃t,DSs (hW MY P w K mg base N x (ar st) f cdv A outer s H E).nox (aN st) t/\∀a b c d M Q,C a b c d M Q->t (kY Q) (dr N [a,b,c,d]) M)
 (j:∀(kV e i:Hn)(an:Option r4)(cdv ct a b c d:Hn),Kc (IH x x (aY st) (aN st) (ar st) .none kV e i an cdv ct) #[[a,b,c,d],[]]=pure ([p,q,r,t].zip [a,b,c,d]):=by intros;rfl):Cal P w K mg base (k+1) x (Qs C):=by
 refine vt T S (λkV e i an cdv ct us l=>?_) (λg M Q h=>?_) λf cdv A outer s H E m=>?_
 .obtain⟨a,b,c,d,rfl⟩:=Fo l
  exact j ..
 .rcases g with _|⟨a,_|⟨b,_|⟨c,_|⟨d,_|⟨w,g⟩⟩⟩⟩⟩
  all_goals first|exact HS h|rfl
 .obtain⟨t,h,n⟩:=body f cdv A outer s H E m
  refine #[t,h,λg M Q h=>?_]
  rcases g with _|⟨a,_|⟨b,_|⟨c,_|⟨d,_|⟨w,g⟩⟩⟩⟩⟩
  all_goals first|exact HS h|exact n _ _ _ _ _ _ h
end
theorem Qw{t:Lv}{B:EndsD}{δ:DS}{M:MH}(h:∀a:EndsD,(∀δ M,B.nx δ M->a.nx δ M)->t a δ M):t B δ M:=h B λ_ _ h=>h
@[elab_as_elim] theorem OE{P:vr->Prop}{n:Nat}{T:vr}(b:T.length=n+1)(h:∀(a:v9)(U:vr),U.length=n->P (a::U)):P T:=by
 cases T with
 |nil=>cases b
 |cons a U=>exact h a U (Nat.succ.inj b)
def Z6{P:vr->Prop}{T:vr}(b:T.length=0)(h:P []):P T:=by
 cases T with
 |nil=>exact h
 |cons a U=>cases b
@[elab_as_elim] theorem G5{P:vr->Prop}{T:vr}(d:T.length=3)(h:∀a b c,P [a,b,c]):P T:=OE (P:=P) d λa U d=>OE (P:=λT=>P (a::T)) d λb U d=>OE (P:=λT=>P (a::b::T)) d λc U d=>Z6 (P:=λT=>P (a::b::c::T)) d (h a b c)
@[elab_as_elim] theorem G2{P:vr->Prop}{T:vr}(g:T.length=6)(h:∀a b c d e f,P [a,b,c,d,e,f]):P T:=OE (P:=P) g λa U g=>OE (P:=λT=>P (a::T)) g λb U g=>OE (P:=λT=>P (a::b::T)) g λc U g=>G5 (P:=λT=>P (a::b::c::T)) g (h a b c)
@[elab_as_elim] theorem Hi{P:vr->Prop}{T:vr}(k:T.length=9)(h:∀a b c d e f g i j,P [a,b,c,d,e,f,g,i,j]):P T:=OE (P:=P) k λa U k=>OE (P:=λT=>P (a::T)) k λb U k=>OE (P:=λT=>P (a::b::T)) k λc U k=>G2 (P:=λT=>P (a::b::c::T)) k (h a b c)
def jy{a:Type}{f:a->D}{l:List a}{i:Nat}{d:D}(h:(l.map f)[i]?=KA d):∃x,l[i]?=KA x/\d=f x:=by
 rw[Hv]at h;cases e:l[i]? with
 |none=>rw[e]at h;cases h
 |some x=>rw[e]at h;cases h;exact #[x,8,rfl]
def WL{M:MH}{p a:PySem.Addr}{o u:MO}(h:M a=KA u)(b:M p=KC):(au M p o) a=KA u:=by
 let n:a≠p:=λe=>by rw[e,b]at h;cases h
 rw[ak n];exact h
inductive Wb(a b c d:Prop):Prop
 |mk (_:a)(_:b)(_:c)(_:d):Wb a b c d
inductive Q4(a b c d e:Prop):Prop
 |mk (_:a)(_:b)(_:c)(_:d)(_:e):Q4 a b c d e
inductive Yp(a b c d e f:Prop):Prop
 |mk (_:a)(_:b)(_:c)(_:d)(_:e)(_:f):Yp a b c d e f
inductive Wa(a b c d e f g:Prop):Prop
 |mk (_:a)(_:b)(_:c)(_:d)(_:e)(_:f)(_:g):Wa a b c d e f g
inductive WX(a b c d e f g h:Prop):Prop
 |mk (_:a)(_:b)(_:c)(_:d)(_:e)(_:f)(_:g)(_:h):WX a b c d e f g h
inductive Yo(a b c d e f g h i:Prop):Prop
 |mk (_:a)(_:b)(_:c)(_:d)(_:e)(_:f)(_:g)(_:h)(_:i):Yo a b c d e f g h i
inductive Q5(a b c d e f g h i j:Prop):Prop
 |mk (_:a)(_:b)(_:c)(_:d)(_:e)(_:f)(_:g)(_:h)(_:i)(_:j):Q5 a b c d e f g h i j
inductive Po{a0 a1:Type}(p:a0->a1->Prop):Prop
 |mk (x0:a0)(x1:a1)(h:p x0 x1):Po p
inductive OJ{a0 a1 a2:Type}(p:a0->a1->a2->Prop):Prop
 |mk (x0:a0)(x1:a1)(x2:a2)(h:p x0 x1 x2):OJ p
inductive W9{a0 a1 a2 a3:Type}(p:a0->a1->a2->a3->Prop):Prop
 |mk (x0:a0)(x1:a1)(x2:a2)(x3:a3)(h:p x0 x1 x2 x3):W9 p
inductive Qe{a0 a1 a2 a3 a4:Type}(p:a0->a1->a2->a3->a4->Prop):Prop
 |mk (x0:a0)(x1:a1)(x2:a2)(x3:a3)(x4:a4)(h:p x0 x1 x2 x3 x4):Qe p
inductive Yn{a0 a1 a2 a3 a4 a5:Type}(p:a0->a1->a2->a3->a4->a5->Prop):Prop
 |mk (x0:a0)(x1:a1)(x2:a2)(x3:a3)(x4:a4)(x5:a5)(h:p x0 x1 x2 x3 x4 x5):Yn p
inductive Y4{a0 a1 a2 a3 a4 a5 a6:Type}(p:a0->a1->a2->a3->a4->a5->a6->Prop):Prop
 |mk (x0:a0)(x1:a1)(x2:a2)(x3:a3)(x4:a4)(x5:a5)(x6:a6)(h:p x0 x1 x2 x3 x4 x5 x6):Y4 p
end SD
namespace QQ
open PySem PySem.Spec PyProof.Rows L2 SD
def top(i:Nat):r8:=Ip.main.body.getD i (.Pass #[0,0,0,0])
abbrev j4:r8:=top 60
abbrev ju:r8:=top 61
abbrev eQ:r8:=top 65
abbrev d5:r8:=top 66
abbrev gj:r8:=top 67
abbrev iS:r8:=top 62
abbrev m4:r8:=top 63
abbrev ir:r8:=top 64
abbrev iX:r8:=top 68
abbrev dz:r8:=top 69
abbrev fO:r8:=top 75
abbrev gT:r8:=top 71
abbrev ji:r8:=top 70
abbrev ie:r8:=top 72
abbrev i8:r8:=top 73
abbrev kI:r8:=top 79
abbrev gP:r8:=top 74
abbrev dE:r8:=top 78
abbrev j5:r8:=top 7
abbrev i9:r8:=top 11
abbrev dG:r8:=top 30
abbrev xX:r8:=top 18
abbrev rY:r8:=top 19
abbrev kf:r8:=top 20
abbrev fR:r8:=mG (top 31) 2
abbrev fQ:r8:=top 29
abbrev gU:r8:=mG (top 31) 3
abbrev cR:r8:=top 5
abbrev jc:r8:=top 6
abbrev iY:r8:=top 16
abbrev jq:r8:=top 17
abbrev iV:r8:=top 22
abbrev fI:r8:=top 14
abbrev fN:r8:=top 15
abbrev gK:r8:=top 23
abbrev eU:r8:=mG (top 31) 0
abbrev ij:r8:=top 43
abbrev dD:r8:=top 44
abbrev dY:r8:=top 45
abbrev fJ:r8:=top 46
abbrev g8:r8:=top 47
abbrev iZ:r8:=top 48
abbrev dX:r8:=top 8
abbrev iW:r8:=top 9
abbrev gH:r8:=top 49
abbrev df:r8:=top 51
abbrev gD:r8:=top 13
abbrev fh:r8:=top 52
abbrev oQ:r8:=top 36
abbrev iU:r8:=top 12
abbrev jk:r8:=top 37
abbrev jm:r8:=top 40
abbrev fU:r8:=top 41
abbrev gu:r8:=top 53
abbrev du:r8:=top 54
abbrev dC:r8:=top 24
abbrev fS:r8:=top 38
abbrev bQ:r8:=top 39
abbrev ja:r8:=top 56
abbrev d6:r8:=top 28
abbrev cT:r8:=top 27
abbrev dZ:r8:=top 57
abbrev mf:r8:=top 26
abbrev dF:r8:=mG (top 58) 0
abbrev gJ:r8:=top 34
abbrev gv:r8:=top 33
abbrev gX:r8:=top 77
abbrev jb:r8:=top 76
abbrev xW:r8:=top 80
local macro_rules | `(tactic| walk_at "sc") => `(tactic| exact #[8, rfl, rfl, by decide, rfl, by decide, by decide])
theorem _root_.SD.Cal.m{P:HL}{w:Il}{K:Hm}{mg:Str->Option Hn}{base:r_}{j k:Nat}{x:Str}{sp:Lo}(h:Cal P w K mg base j x sp)(l:j<=k:=by decide):Cal P w K mg base k x sp:=h.mono l
variable(x_ y3 y4 y_ y':SD.D)(M:SD.MH)(Q:SD.DK)
open SD.Zq
structure Tx(K:Hm)(mg:Str->Option Hn):Prop where
 aM:Txt K mg "_law_pot" j4
 a8:Txt K mg "_law_take" ju
 a_:Txt K mg "_law_new_spot" eQ
 ba:Txt K mg "_law_some_spot" d5
 bb:Txt K mg "_law_square" gj
 bc:Txt K mg "_law_side" iS
 bq:Txt K mg "_law_on" m4
 bt:Txt K mg "_law_apart" ir
 bI:Txt K mg "_law_laid" iX
 b6:Txt K mg "_law_shuts_here" dz
 b9:Txt K mg "_law_corners" fO
 b_:Txt K mg "_law_frame" gT
 cb:Txt K mg "_law_frac" ji
 cc:Txt K mg "_law_given" ie
 cp:Txt K mg "_law_plot" i8
 c5:Txt K mg "_law_far" kI
 c6:Txt K mg "_law_asked" gP
 c_:Txt K mg "_law_some_looks" dE
 dd:Txt K mg "is_less" j5
 dt:Txt K mg "is_ahead" i9
 dy:Txt K mg "side_at_corner" dG
 dV:Txt K mg "gap" xX
 d_:Txt K mg "lean" rY
 ec:Txt K mg "side_of" kf
 ef:Txt K mg "guide_after" fQ
 eh:Txt K mg "greatest_divisor" cR
 en:Txt K mg "fraction" jc
 eH:Txt K mg "own_spot" iY
 eL:Txt K mg "own_wall" jq
 eT:Txt K mg "own_plot" iV
 e_:Txt K mg "place_among" fI
 fC:Txt K mg "ahead_first" fN
 f_:Txt K mg "corners_of" gK
 f':Txt K mg "face_ends" ij
 gi:Txt K mg "faces_by_start" dD
 gw:Txt K mg "is_met_sooner" dY
 gx:Txt K mg "face_behind" fJ
 gy:Txt K mg "ring_from" g8
 gB:Txt K mg "rings_of" iZ
 g_:Txt K mg "common_bottom" dX
 hH:Txt K mg "top_over" iW
 hJ:Txt K mg "twice_area" gH
 hQ:Txt K mg "outer_and_inner" df
 hV:Txt K mg "earlier_of" gD
 hY:Txt K mg "first_corner" fh
 h_:Txt K mg "spans" oQ
 ia:Txt K mg "later_of" iU
 ib:Txt K mg "is_above" jk
 ip:Txt K mg "upper_of" jm
 i7:Txt K mg "upper_below" fU
 i_:Txt K mg "land_about" gu
 j_:Txt K mg "lands_of_faces" du
 ke:Txt K mg "ends_by_number" dC
 kz:Txt K mg "above_table" fS
 kS:Txt K mg "lowest_first" bQ
 k_:Txt K mg "steps_of" ja
 lb:Txt K mg "guide_between" d6
 lg:Txt K mg "guide_by_halving" cT
 l_:Txt K mg "guide_of_step" dZ
 l':Txt K mg "halves" mf
 ma:Txt K mg "look_holds" gJ
 mu:Txt K mg "looks_hold" gv
 mB:Txt K mg "_law_holds" gX
 m_:Txt K mg "_law_bent" jb
 nq:Txt K mg "law" xW
 fc_lowest_first:vF K mg "lowest_first" bQ 303
 lm:Mk K mg 303 299
 n7:mg "abs"=KC
 n_:mg "all"=KC
 ox:mg "bool"=KC
 oy:mg "enumerate"=KC
 oD:mg "int"=KC
 o_:mg "isinstance"=KC
 pa:mg "len"=KC
 pd:mg "list"=KC
 pq:mg "max"=KC
 pv:mg "min"=KC
 p_:mg "range"=KC
 q7:mg "sorted"=KC
 q_:mg "tuple"=KC
 rb:mg "zip"=KC
 rf:pH K (cl K "Steps") "side_at" "Way.side_at" fR
 ri:pH K (cl K "Steps") "looks" "Way.looks" gU
 ro:wb K mg "Way" "__init__" "Way.__init__" eU
 ry:oA K mg "Steps" (cl K "Steps") "Steps.__init__" dF
 cl_Steps:Cls K (cl K "Steps")
 na_corners:bV K (cl K "Steps") "corners"
 na_guide:bV K (cl K "Steps") "guide"
 na_most_looks:bV K (cl K "Steps") "most_looks"
 na_plot:bV K (cl K "Steps") "plot"
 na_step_rows:bV K (cl K "Steps") "step_rows"
theorem jr:LN ["_law_script","_law_k","_law_cell"] ["_law_script","_law_k"] (ar j4):=⋯
inductive Nt:Prop
 |mk (ns:sy)(k:Int)(_:x_=.rol (Jp D.int ns))(_:y3=.int k)(_:0<=k)(_:∀r o,M r=KC->LY (au M r o) r 0->Q (.ref r) (au M r o))
variable{P:HL}{w:Il}{K:Hm}{mg:Str->Option Hn}{base:r_}
def vV(T:Tx K mg):Cal P w K mg base 1 "_law_pot" (Li Nt):=by
 refine bo (k:=0) T.aM jr λf _ _ _ s H _ b=>#[_,(aj (aA 2 jr.nd ag) (aj (aR (aD (b4 b.units) (dv 1) (aI bC rfl T.pa bA (ae (dv 0) af))) (aq (aA 2 jr.nd (aB (dv 0) (dv 1)))) aF) (aq (ay (aV (ae (aI (pT rfl b.units) rfl T.pq sQ (ae (dv 2) (ae (av aU (iO dO ag) (dv 2)) af))) (ae (av gE (dv 2) ag) (ae ag af)))))))),λ_ _ M Q h=>?_];let[ns,k,8,8,n,q]:=h;refine cE (λδ a=>a=M/\δ=[KA (.rol (Jp D.int ns)),KA (.int k),KA (.int 0)]) ?_ (λc=>c _ _ #[8,rfl]);rintro δ a ⟨e,rfl⟩;subst a;refine cE (λδ a=>a=M/\∃z:Int,δ=[KA (.rol (Jp D.int ns)),KA (.int k),KA (.int z)]) ?_ (λc=>?_);rotate_left
 .exists 7,7,trivial,7;refine aZ (λg=>?_) (λ_=>c _ _ #[8,0,rfl]);let i:k<(ns.length:Int):=‹g›
  obtain⟨j,rfl⟩:∃j:Nat,k=(j:Int):=#[k.toNat,()];let l:j<ns.length:=()
  exact #[7,7,.int ns[j],aW (by simp[l]),c _ _ #[8,7]]
 rintro δ a ⟨e,z,rfl⟩;subst a;let m:=Int.fmod_nonneg_of_pos z (show(0:Int)<2147483647 by decide);let d:=Int.fmod_lt_of_pos z (show(0:Int)<2147483647 by decide);exists 7,7,trivial;refine #[7,(show(2147483647:Int)≠0 by decide),LR rfl,λr b=>?_];exact LW (q r _ b #[_,_,_,ai,(),m,d,⋯,⋯])
theorem fF:LN ["_law_pot_here","_law_size","_law_digit","_law_mixed"] ["_law_pot_here","_law_size"] (ar ju):=⋯
inductive N7:Prop
 |mk (r:r4)(b:Int)(n:Nat)(_:x_=.ref r)(_:y3=.int b)(_:LY M r n)(_:n<900000)(_:0<b)(_:Bd 8000 b)(_:∀v o,0<=v->v<b->LY (au M r o) r (n+1)->Q (.int v) (au M r o))
def aC(T:Tx K mg):Cal P w K mg base 1 "_law_take" (Li N7):=by
 refine bo (k:=0) T.a8 fF λf _ _ _ s H _ z=>#[_,(aj (aR (aD (fM z.units) (aB (dv 0) ag) ag) (aj (aA 2 fF.nd (av gE (aB (dv 0) ag) (dv 1))) (aj (bG (av fy (aB (dv 0) ag) (dv 1)) (oM (dv 0) ag)) (aq (ay (dv 2))))) aF) (aj (bG (av aL (aB (dv 0) ag) ag) (oM (dv 0) ag)) (aj (aA 3 fF.nd (av gE (av aL (av aL (av aP (aB (dv 0) ag) ag) (av aP (av aP (aB (dv 0) ag) (aB (dv 0) ag)) ag)) ag) ag)) (aj (aA 3 fF.nd (av gE (av aP (dv 3) (dv 3)) ag)) (aq (ay (av gE (av fy (av gE (av aP (dv 3) (av aL (dv 3) ag)) ag) ag) (dv 1)))))))),λ_ _ M Q h=>?_];obtain⟨r,b,n,rfl,rfl,⟨x,y,c,d,hx,e,g,o,B⟩,p,v,t,q⟩:=h;let a:b≠0:=()
 let l:∀n:Int,0<=n.fmod b/\n.fmod b<b:=λn=>#[Int.fmod_nonneg_of_pos _ v,Int.fmod_lt_of_pos _ v];let i:Bd 64 (c+1):=by show(c+1).natAbs<2^64;omega
 let j:Bd 64 y:=by show y.natAbs<2^64;omega
 exists 7,_,_,d,8,trivial,7;refine aZ (λh=>?_) (λh=>?_)
 .exists 7,_,_,d,8,7,a;exists 7,_,_,d,8,7,#[a,t],7,_,_,d,8;let u:0<=Int.fdiv x b:=by rw[Ir _ ()];exact Int.ediv_nonneg hx ()
  exact #[7,LW (q _ _ (l _).1 (l _).2 #[_,_,_,ai,u,e,g,o,()])]
 .have p:∀{m:Int}(n:Int),0<m->m<=2^31->Bd 64 (n.fmod m):=λ{m} n h0 h1=>by
   let C:=Int.fmod_nonneg_of_pos n h0
   let D:=Int.fmod_lt_of_pos n h0
   show(n.fmod m).natAbs<2^64
   omega
  exists 7,_,_,d,8,7,_,_,d,8;exists 7,_,_,ai,8,a9 j;refine #[7,_,_,ai,8,7,_,_,ai,8,a9 i,tR (aX ⋯),(show(2147483629:Int)≠0 by decide),?_];refine #[7,7,a9 (p _ ⋯ ⋯),(show(2147483587:Int)≠0 by decide),?_];exists 7,7,a9 (p _ ⋯ ⋯),(show(2147483563:Int)≠0 by decide),#[⋯,aX ⋯],7,a;exact LW (q _ _ (l _).1 (l _).2 #[_,_,_,ai,hx,e,g,(),()])
theorem lI:LN ["_law_pot_here","_law_wide"] ["_law_pot_here","_law_wide"] (ar eQ):=⋯
inductive Ln:Prop
 |mk (r:r4)(n:Nat)(m:Int)(_:x_=.ref r)(_:y3=.int m)(_:LY M r n)(_:n<800000)(_:(0<m/\m<=10))(_:∀(p:Vc) M',(4<=p.1/\p.1<=13)->(4<=p.2/\p.2<=13)->Kx [r] M M'->LY M' r (n+2)->Q (gp 6 24 p) M')
def gW(T:Tx K mg):Cal P w K mg base 2 "_law_new_spot" (Li Ln):=by
 refine bo (k:=1) T.a_ lI λf _ _ _ s H _ a=>#[_,(aq (ay (aJ (ae (av aP ag (ao (aC T).m a (ae (dv 0) (ae (dv 1) af)))) (ae (av aP ag (ao (aC T).m a (ae (dv 0) (ae (dv 1) af)))) af))))),λ_ _ M Q h=>?_];let[r,n,m,8,8,b,o,p,k]:=h;refine #[7,7,r,m,n,8,8,b,(),(),aX (),λx q c d g=>?_];refine #[a9 (aX ⋯),7,7,r,m,n+1,8,8,g,(),(),aX (),λy t i j l=>#[a9 (aX ⋯),LR rfl,?_]];let e:gp 6 24 (x+4,y+4)=.tup [.int (6*x),.int (6*y)]:=by unfold gp;rw[show 6*(x+4,y+4).1-24=6*x by show 6*(x+4)-24=_;omega,show 6*(x+4,y+4).2-24=6*y by show 6*(y+4)-24=_;omega]
 have:=k (x+4,y+4) _ #[by show 4<=x+4;omega,by show x+4<=13;omega] #[by show 4<=y+4;omega,by show y+4<=13;omega] ((Kx.refl.upd (_)).upd (_)) l;rw[e]at this;exact LW this
theorem k5:LN ["_law_pot_here","_law_shuts","_law_wide"] ["_law_pot_here","_law_shuts","_law_wide"] (ar d5):=⋯
inductive MR:Prop
 |mk (r l:r4)(n:Nat)(m:Int)(ws:vp)(_:x_=.ref r)(_:y3=.ref l)(_:y4=.int m)(_:r≠l)(_:M l=KA (.lst (ws.map (L4 6 24))))(_:(∀w∈ws,L5 w))(_:ws.length<=40)(_:LY M r n)(_:n<700000)(_:(0<m/\m<=10))(_:∀(p:Vc) M',Lh p->Kx [r] M M'->LY M' r (n+3)->Q (gp 6 24 p) M')
local macro_rules|`(tactic|walk_at "u")=>`(tactic|try dsimp only[SD.dP,SD.cG,SD.aK,SD.d7,SD.dR,SD.cz,SD.cH,SD.tBD,SD.eC,SD.EndsD.nxt,SD.EndsD.lp])
def lP(T:Tx K mg):Cal P w K mg base 3 "_law_some_spot" (QD MR):=by
 refine m5 (k:=2) T.ba k5 λf _ _ _ s H _ b=>#[_,(aj (aR (gQ (l9 (aD (bj b.units) (dv 1) (aV af)) (kZ (aD (bj b.units) (ao (aC T).m b (ae (dv 0) (ae ag af))) ag)))) (aq (ay (ao (gW T).m b (ae (dv 0) (ae (dv 2) af))))) aF) (aq (ay (aB (aB (dv 1) (ao (aC T).m b (ae (dv 0) (ae (aI bC rfl T.pa bA (ae (dv 1) af)) af)))) (ao (aC T).m b (ae (dv 0) (ae ag af))))))),λ_ _ _ M Q h=>?_];let[r,l,n,m,ws,8,8,8,c,C,O,D,R,hn,S,k]:=h;walk_at "u"
 refine #[7,LR rfl,λz t=>?_];let d:∀{G},(au M z G) l=KA (.lst (ws.map (L4 6 24))):=λ{G}=>by rw[ak (az C t)];exact C
 let F:∀{G},LY (au M z G) r n:=λ{G}=>R.new t;let I:∀{G},Kx [r] M (au M z G):=λ{G}=>Kx.refl.new t;exists _,_,.lst d (je 6 24 ws),.lst ai .nil,eO 6 24 ws,8,7;rw[dH];let a:∀{j:MH}{n1:Nat},Kx [r] M j->LY j r n1->n1<=n+1->dR (sY (Li Ln) (rD (Nw 0) (rD (Nw 2) Bw))) { nx:=λx u=>Pu Q .non u,rt:=Pu Q } [KA (.ref r),KA (.ref l),KA (.int m)] j:=λ{j n1} kx q le=>#[7,7,r,n1,m,8,8,q,(),S,λp u p1 p2 y B=>LW (k p u #[(),()] (kx.trans y) (B.le ()))];refine aZ (λe=>?_) (λe=>?_)
 .exact a I F ()
 let J:0<ws.length:=by
  cases ws with
  |nil=>simp at e
  |cons w ws=>simp
 refine #[7,r,3,n,8,8,F,(),⋯,aX ⋯,λv o h0 h1 q=>#[7,?_]];let L:=I (G:=.lst []);refine aZ (λ_=>a (L.upd (_)) q ()) (λ_=>?_);let i:(au (au M z (.lst [])) r o) l=KA (.lst (ws.map (L4 6 24))):=by rw[ak c.symm];exact d
 let U:Kx [r] M (au (au M z (.lst [])) r o):=L.upd (_);refine #[7,7,7,_,i,r,_,n+1,8,8,q,(),(by rw[Ho];omega),aX (by rw[Ho];omega),λv2 o2 V N B=>?_];let[w,W,X]:=lZ (g:=6) (h:=24) (ws:=ws) V (by rw[Ho]at N;exact N);exists _,_,(by rw[ak c.symm];exact i),X;refine #[7,r,2,n+2,8,8,B,(),⋯,aX ⋯,λv3 o3 b0 b1 Y=>?_];let[p,Z,ep]:=uH (g:=6) (h:=24) (O w W) b0 b1;exact #[_,ep,LW (k p _ Z ((U.upd (_)).upd (_)) Y)]
theorem dM:LN ["_law_pot_here","_law_wide","_law_x","_law_y","_law_far_here"] ["_law_pot_here","_law_wide"] (ar gj):=⋯
inductive Mu:Prop
 |mk (r:r4)(n:Nat)(m:Int)(_:x_=.ref r)(_:y3=.int m)(_:LY M r n)(_:n<700000)(_:(0<m/\m<=10))(_:∀(q:r4)(us:List Vc) M',Kx [r] M M'->r≠q->M q=KC->M' q=KA (.lst (us.map (gp 6 24)))->us.length=5->(∀x_∈us,Lh x_)->LY M' r (n+4)->Q (.ref q) M')
def pO(T:Tx K mg):Cal P w K mg base 3 "_law_square" (Li Mu):=by
 refine bo (k:=2) T.bb dM λf _ _ _ s H _ d=>#[_,(aj (bG (ao (gW T).m d (ae (dv 0) (ae (dv 1) af))) (bg rfl (ax (aw 2 dM.nd) (ax (aw 3 dM.nd) aS)))) (aj (aA 4 dM.nd (av aP ag (av aL ag (ao (aC T).m d (ae (dv 0) (ae ag af)))))) (aj (aR (aD (bj d.units) (ao (aC T).m d (ae (dv 0) (ae ag af))) ag) (aq (ay (aV (ae (aJ (ae (av aU (dv 2) (dv 4)) (ae (av aU (dv 3) (dv 4)) af))) (ae (aJ (ae (av aL (dv 2) (dv 4)) (ae (av aU (dv 3) (dv 4)) af))) (ae (aJ (ae (av aL (dv 2) (dv 4)) (ae (av aL (dv 3) (dv 4)) af))) (ae (aJ (ae (av aU (dv 2) (dv 4)) (ae (av aL (dv 3) (dv 4)) af))) (ae (aJ (ae (av aU (dv 2) (dv 4)) (ae (av aU (dv 3) (dv 4)) af))) af)))))))) aF) (aq (ay (aV (ae (aJ (ae (av aU (dv 2) (dv 4)) (ae (dv 3) af))) (ae (aJ (ae (dv 2) (ae (av aU (dv 3) (dv 4)) af))) (ae (aJ (ae (av aL (dv 2) (dv 4)) (ae (dv 3) af))) (ae (aJ (ae (dv 2) (ae (av aL (dv 3) (dv 4)) af))) (ae (aJ (ae (av aU (dv 2) (dv 4)) (ae (dv 3) af))) af))))))))))),λ_ _ M Q h=>?_];let[r,n,m,8,8,F,O,G,k]:=h;refine #[7,7,r,n,m,8,8,F,(),G,λp I R S kx J=>?_];exists 7,8,_,7,_,7,8;refine #[7,r,4,n+2,8,8,J,(),⋯,aX ⋯,λf o h0 h1 L=>#[a9 (aX ⋯),?_]];refine #[7,r,2,n+3,8,8,L,(),⋯,aX ⋯,λv N U V g=>#[7,?_]];let b:Kx [r] M (au (au I r o) r N):=(kx.upd (_)).upd (_);let l:6*p.1-24-6*(1+f)=6*(p.1-(1+f))-24:=()
 let t:6*p.2-24-6*(1+f)=6*(p.2-(1+f))-24:=()
 let B:6*p.1-24+6*(1+f)=6*(p.1+(1+f))-24:=()
 let C:6*p.2-24+6*(1+f)=6*(p.2+(1+f))-24:=()
 let D:∀(x y:Int),(x=p.1-(1+f)\/x=p.1\/x=p.1+(1+f))->(y=p.2-(1+f)\/y=p.2\/y=p.2+(1+f))->Lh (x,y):=λx y hx W=>by
  refine #[#[?_,?_],#[?_,?_]]
  .show 0<=x;omega
  .show x<=20;omega
  .show 0<=y;omega
  .show y<=20;omega
 refine aZ (λ_=>?_) (λ_=>?_)
 .exists 7,7,trivial,7,7,trivial,LR rfl;exists 7,7,7,7,trivial,LR rfl;exists 7,7,7,7,LR rfl;exists 7,7,trivial,7,7,LR rfl;refine #[7,7,trivial,7,7,trivial,LR rfl,LR rfl,λq a=>?_]
  let i:M q=KC:=by
   cases e:M q with
   |none=>rfl
   |some j=>
    by_cases z:q=r
    .subst z;rw[ai]at a;cases a
    .rw[b q j ‹z› e]at a;cases a
  refine LW (k q [(p.1-(1+f),p.2-(1+f)),(p.1+(1+f),p.2-(1+f)),(p.1+(1+f),p.2+(1+f)),(p.1-(1+f),p.2+(1+f)),(p.1-(1+f),p.2-(1+f))] _ (b.new a) (g.ne a) i ?_ rfl ?_ (g.new a))
  .rw[ai];simp only[gp,HG,JF];rw[<-l,<-t,<-B,<-C]
  .intro u c;simp only[Iw,List.not_mem_nil,or_false]at c;rcases c with rfl|rfl|rfl|rfl|rfl<;>exact D _ _ (_) (_)
 .exists 7,7,trivial,7,LR rfl;exists 7,7,7,trivial,LR rfl;exists 7,7,7,LR rfl;exists 7,7,7,LR rfl;refine #[7,7,trivial,7,LR rfl,LR rfl,λq a=>?_]
  let i:M q=KC:=by
   cases e:M q with
   |none=>rfl
   |some j=>
    by_cases z:q=r
    .subst z;rw[ai]at a;cases a
    .rw[b q j ‹z› e]at a;cases a
  refine LW (k q [(p.1-(1+f),p.2),(p.1,p.2-(1+f)),(p.1+(1+f),p.2),(p.1,p.2+(1+f)),(p.1-(1+f),p.2)] _ (b.new a) (g.ne a) i ?_ rfl ?_ (g.new a))
  .rw[ai];simp only[gp,HG,JF];rw[<-l,<-t,<-B,<-C]
  .intro u c;simp only[Iw,List.not_mem_nil,or_false]at c;rcases c with rfl|rfl|rfl|rfl|rfl<;>exact D _ _ (_) (_)
theorem cX:LN ["_law_shut","_law_spot","_law_a","_law_b","_law_c","_law_d","_law_way"] ["_law_shut","_law_spot"] (ar iS):=⋯
inductive N8:Prop
 |mk (g h:Int)(w:Wl)(p q r:Int)(_:x_=L4 g h w)(_:y3=.tup [.int p,.int q])(_:Gs g h)(_:L5 w)(_:HW (sd (raw g h w) p q)=r)(_:Q (.int r) M)
def cP(T:Tx K mg):Cal P w K mg base 1 "_law_side" (Li N8):=by
 refine bo (k:=0) T.bc cX λf _ _ _ s H _ e=>#[_,(aj (bG (aB (dv 0) ag) (bg rfl (ax (aw 2 cX.nd) (ax (aw 3 cX.nd) aS)))) (aj (bG (aB (dv 0) ag) (bg rfl (ax (aw 4 cX.nd) (ax (aw 5 cX.nd) aS)))) (aj (aA 6 cX.nd (av aU (av aP (av aU (dv 4) (dv 2)) (av aU (aB (dv 1) ag) (dv 3))) (av aP (av aU (dv 5) (dv 3)) (av aU (aB (dv 1) ag) (dv 2))))) (aq (ay (av aU (bJ kj rfl T.oD jW (ae (bW (fM e.units) (dv 6) ag) af)) (bJ kj rfl T.oD jW (ae (bW (b4 e.units) (dv 6) ag) af)))))))),λ_ _ M Q h=>?_];let[g,h,w,p,q,r,8,8,G,W,i,k]:=h;let j:=A2 G W.a;let l:=A2 G W.b;let m:=A2 G W.c;let bd:=A2 G W.d;exists 7,7,7,8,_,7,_,7,8;exists 7,7,7,8,_,7,_,7,8;exists 7,7,trivial,7,7,7,trivial,a9 ((m.sub j).mono ⋯);exists 7,7,trivial,7,7,7,trivial,a9 ((bd.sub l).mono ⋯),trivial;exists 7,trivial,7,trivial,trivial
 let e1:∀z:Int,(if decide (0<z)=KD then(1:Int)else 0)-(if decide (z<0)=KD then(1:Int)else 0)=HW z:=λz=>by
  rcases IX z 0 with h|h|h
  .rw[IS h,KH (by simp;omega),KI ‹h›];rfl
  .subst h;rfl
  .rw[Jb h,KI ‹h›,KH (by simp;omega)];rfl
 let e3:=e1 ((g*w.2.2.1-h-(g*w.1-h))*(q-(g*w.2.1-h))-(g*w.2.2.2-h-(g*w.2.1-h))*(p-(g*w.1-h)));let e4:HW ((g*w.2.2.1-h-(g*w.1-h))*(q-(g*w.2.1-h))-(g*w.2.2.2-h-(g*w.2.1-h))*(p-(g*w.1-h)))=r:=i;rw[<-e4,<-e3]at k;exact LW k
theorem uW:LN ["_law_shut","_law_spot"] ["_law_shut","_law_spot"] (ar m4):=⋯
inductive OB:Prop
 |mk (g h:Int)(w:Wl)(p:Vc)(_:x_=L4 g h w)(_:y3=gp g h p)(_:Gs g h)(_:L5 w)(_:Lh p)(_:Q (.bl (decide (l1 w<=la p.1 p.2)&&(decide (la p.1 p.2<=l2 w)&&decide (sd w p.1 p.2=0)))) M)
def za(T:Tx K mg):Cal P w K mg base 2 "_law_on" (Li OB):=by
 refine bo (k:=1) T.bq uW λf _ _ _ s H _ c=>#[_,(aq (ay (l7 (bW (mv c.units) (aB (dv 0) ag) (dv 1)) (l7 (bW (mv c.units) (dv 1) (aB (dv 0) ag)) (oV (bW (bj c.units) (ao (cP T).m c (ae (dv 0) (ae (dv 1) af))) ag)))))),λ_ _ M Q h=>?_];let[g,h,w,p,8,8,G,W,j,k]:=h;walk_at "u"
 refine yg (decide (l1 w<=la p.1 p.2)) (decide (la p.1 p.2<=l2 w)&&decide (sd w p.1 p.2=0)) (λK i=>?_) (λ_ K i=>?_) (LW k)
 .exists 7,7,7,[g*w.1-h,g*w.2.1-h],[g*p.1-h,g*p.2-h],8,8;rw[ub G.g0,BQ W.b j.2];exact i
 .refine yg (decide (la p.1 p.2<=l2 w)) (decide (sd w p.1 p.2=0)) (λl a=>?_) (λ_ l a=>?_) i
  .exists 7,7,7,[g*p.1-h,g*p.2-h],[g*w.2.2.1-h,g*w.2.2.2-h],8,8;rw[ub G.g0,BQ j.2 W.d];exact a
  .exists 7,7,g,h,w,_,_,7,8,G,W,jL G w p.1 p.2;let e:decide (HW (sd w p.1 p.2)=0)=decide (sd w p.1 p.2=0):=by rw[KN];exact Int.sign_eq_zero_iff_zero
   show l (.bl (decide _)) _;rw[e];exact a
theorem de:LN ["_law_one","_law_other","_law_shut","_law_ends","_law_spot","_law_both"] ["_law_one","_law_other"] (ar ir):=⋯
inductive NH:Prop
 |mk (g h:Int)(U V:Wl)(_:x_=L4 g h U)(_:y3=L4 g h V)(_:Gs g h)(_:L5 U)(_:L5 V)(_:∀b:Bool,(b=KD->Mq U V)->Q (.bl b) M)
def qS(T:Tx K mg):Cal P w K mg base 3 "_law_apart" (Li NH):=by
 refine bo (k:=2) T.bt de λf cdv A outer s H E o=>#[_,(aj (bP HR rfl (aQ (aV (ae (aJ (ae (dv 0) (ae (dv 1) af))) (ae (aJ (ae (dv 1) (ae (dv 0) af))) af)))) (bg rfl (ax (aw 2 de.nd) (ax (aw 3 de.nd) aS))) (aq (bP HR rfl (aQ (dv 3)) (aw 4 de.nd) (aq (aR (gQ (fg (dW (ao (za T).m o (ae (dv 2) (ae (dv 4) af)))) (dj (aD (mJ (jK o)) (dv 4) (dv 2) (by with_unfolding_all rfl))))) (aq (ay iR)) aF))))) (aj (aA 5 de.nd (bW (b4 o.units) (av aP (ao (cP T).m o (ae (dv 0) (ae (aB (dv 1) ag) af))) (ao (cP T).m o (ae (dv 0) (ae (aB (dv 1) ag) af)))) ag)) (aq (ay (l7 (bW (gL o.units) (dv 0) (dv 1)) (oV (yN (l7 (dv 5) (oV (bW (b4 o.units) (av aP (ao (cP T).m o (ae (dv 1) (ae (aB (dv 0) ag) af))) (ao (cP T).m o (ae (dv 1) (ae (aB (dv 0) ag) af)))) ag)))))))))),λ_ _ M Q h=>?_];let[g,h,U,V,8,8,G,v,x,k]:=h;refine cE (λδ r=>SD.Sub M r/\(OJ λC F n=>δ=[KA (L4 g h U),KA (L4 g h V),C,F,n,KC])/\(bT U (l1 V) (MV U V)/\bT U (l2 V) (MN U V))/\(bT V (l1 U) (MV V U)/\bT V (l2 U) (MN V U))) ?_ (λhu=>?_);rotate_left
 .refine #[7,7,LR rfl,7,7,LR rfl,LR rfl,λlp R=>#[[.tup [L4 g h U,L4 g h V],.tup [L4 g h V,L4 g h U]],ai,?_]];exists λi δ r=>(SD.Sub M r/\r lp=KA (.lst [.tup [L4 g h U,L4 g h V],.tup [L4 g h V,L4 g h U]]))/\(OJ λC F n=>δ=[KA (L4 g h U),KA (L4 g h V),C,F,n,KC])/\(0<i->bT U (l1 V) (MV U V)/\bT U (l2 V) (MN U V))/\(1<i->bT V (l1 U) (MV V U)/\bT V (l2 U) (MN V U)),#[#[.new R .refl,ai],#[_,_,7],λz=>absurd z ⋯,λz=>absurd z ⋯],λ_ _ _ _ q=>q.1.2,?_
  .rintro i d δ r Z hd ⟨⟨I,J⟩,⟨C,F,n,rfl⟩,S,p2⟩;let Z:i<2:=Z;let hd:[D.tup [L4 g h U,L4 g h V],.tup [L4 g h V,L4 g h U]][i]?=KA d:=hd
   let L:∃A B,d=.tup [L4 g h A,L4 g h B]/\L5 A/\L5 B/\((bT A (l1 B) (MV A B)/\bT A (l2 B) (MN A B))->(0<i+1->bT U (l1 V) (MV U V)/\bT U (l2 V) (MN U V))/\(1<i+1->bT V (l1 U) (MV V U)/\bT V (l2 U) (MN V U))):=by
    rcases(():i=0\/i=1)with rfl|rfl
    .cases hd;exact #[U,V,8,v,x,λz=>#[λ_=>z,λy=>absurd y ⋯]]
    .cases hd;exact #[V,U,8,x,v,λz=>#[λ_=>S ⋯,λ_=>z]]
   let[A,B,8,HA,HB,nxt]:=L;exists 7,8,_,7,_,7,8;exists 7,[gp g h (ea B),gp g h (eb B)],8;exists λj δ l=>l=r/\(∃n,δ=[KA (L4 g h U),KA (L4 g h V),KA (L4 g h A),KA (L4 g h B),n,KC])/\(0<j->bT A (l1 B) (MV A B))/\(1<j->bT A (l2 B) (MN A B)),#[8,#[_,rfl],λz=>absurd z ⋯,λz=>absurd z ⋯],λ_ _ _ _ _=>rfl,?_
   .rintro j d δ l hj hd ⟨e,⟨n,rfl⟩,W,q2⟩;subst l;let hj:j<2:=hj;let hd:[gp g h (ea B),gp g h (eb B)][j]?=KA d:=hd
    let pk:∃p:Vc,d=gp g h p/\Lh p/\(bT A (la p.1 p.2) (sd A p.1 p.2)->(0<j+1->bT A (l1 B) (MV A B))/\(1<j+1->bT A (l2 B) (MN A B))):=by
     rcases(():j=0\/j=1)with rfl|rfl
     .cases hd;exact #[7,HB.ea,λz=>#[λ_=>z,λy=>absurd y ⋯]]
     .cases hd;exact #[7,HB.eb,λz=>#[λ_=>W ⋯,λ_=>z]]
    let[p,8,hp,X]:=pk;walk_at "u"
    refine nt (decide (l1 A<=la p.1 p.2)&&(decide (la p.1 p.2<=l2 A)&&decide (sd A p.1 p.2=0))) (!(decide (ea A=p)||decide (eb A=p))) (λK t=>#[7,7,g,h,A,p,8,8,G,HA,hp,7,t]) (λ_ K t=>#[7,7,?_]) ?_
    .exists _,_,Pd.of rfl,.inr (Pd.of rfl),8,8,7;rw[K1,K1,List.any_nil,sR G.g0,sR G.g0,Bool.or_false];exact t
    refine aZ (λ_=>#[M,I,k KG (λz=>absurd z HF)]) (λO=>?_);refine #[8,#[_,rfl],X (wI HA hp.2 ?_)];let e1:decide (ea A=p)=decide (A.1=p.1/\A.2.1=p.2):=by rw[KN];exact #[λz=>by rw[<-z];exact #[8,rfl],λz=>Prod.ext z.1 z.2]
    let e2:decide (eb A=p)=decide (A.2.2.1=p.1/\A.2.2.2=p.2):=by rw[KN];exact #[λz=>by rw[<-z];exact #[8,rfl],λz=>Prod.ext z.1 z.2]
    let O:=eq_false_of_ne_true O;rw[e1,e2]at O;let key:∀a b c d:Bool,((a&&(b&&c))&&d)=KG->(d&&((a&&b)&&c))=KG:=⋯
    exact key _ _ _ _ O
   .rintro δ l ⟨e,⟨n,rfl⟩,W,q2⟩;subst l;exact #[#[I,J],#[_,_,7],nxt #[W (⋯:0<2),q2 (⋯:1<2)]]
  .rintro δ r ⟨⟨I,_⟩,⟨C,F,n,rfl⟩,S,p2⟩;exact hu _ _ #[I,#[_,_,7],S (⋯:0<2),p2 (⋯:1<2)]
 rintro δ r ⟨I,⟨C,F,n,rfl⟩,⟨e1,e2⟩,⟨e3,e4⟩⟩;exists 7,7,7,g,h,U,_,_,7,8,G,v,jL G U (ea V).1 (ea V).2;exists 7,7,7,g,h,U,_,_,7,8,G,v,jL G U (eb V).1 (eb V).2,a9 (BJ _),trivial;let N:∀b:Bool,b=(!PyData.eqv (.tuple [.tuple [.int (g*U.1-h),.int (g*U.2.1-h)],.tuple [.int (g*U.2.2.1-h),.int (g*U.2.2.2-h)]]) (.tuple [.tuple [.int (g*V.1-h),.int (g*V.2.1-h)],.tuple [.int (g*V.2.2.1-h),.int (g*V.2.2.2-h)]]))->b=KD->¬(l1 U=l1 V/\l2 U=l2 V):=λb e z ⟨z1,z2⟩=>by let[a1,a2]:=sC v.b x.b z1;let[a3,a4]:=sC v.d x.d z2;rw[e,a1,a2,a3,a4]at z;simp[Iy,IT]at z
 generalize Y:(!PyData.eqv (.tuple [.tuple [.int (g*U.1-h),.int (g*U.2.1-h)],.tuple [.int (g*U.2.2.1-h),.int (g*U.2.2.2-h)]]) (.tuple [.tuple [.int (g*V.1-h),.int (g*V.2.1-h)],.tuple [.int (g*V.2.2.1-h),.int (g*V.2.2.2-h)]]))=b1 at N;walk_at "u"
 refine yg b1 (!(decide (HW (MV U V)*HW (MN U V)<0)&&decide (HW (MV V U)*HW (MN V U)<0))) (λK t=>#[7,7,_,_,Pd.of rfl,Pd.of rfl,8,8,?_]) (λ_ K t=>?_) #[M,I,k _ λz=>?_]
 .rw[<-Y]at t;exact t
 .exact yg (decide (HW (MV U V)*HW (MN U V)<0)) (decide (HW (MV V U)*HW (MN V U)<0)) (λK' u=>#[7,u]) (λ_ K' u=>#[7,7,7,g,h,V,_,_,7,8,G,x,jL G V (ea U).1 (ea U).2,7,7,7,g,h,V,_,_,7,8,G,x,jL G V (eb U).1 (eb U).2,a9 (BJ _),trivial,u]) #[7,t]
 .rw[Je]at z;exists N b1 rfl z.1,e1,e2,e3,e4;have:=z.2;by_cases c1:HW (MV U V)*HW (MN U V)<0
  .by_cases c2:HW (MV V U)*HW (MN V U)<0
   .rw[KL c1,KL c2]at this;cases this
   .exact .inr ()
  .exact .inl ()
theorem fB:LN ["_law_pot_here","_law_shuts","_law_spots","_law_one","_law_other","_law_shut"] ["_law_pot_here","_law_shuts","_law_spots"] (ar iX):=⋯
inductive Na:Prop
 |mk (r l q:r4)(n:Nat)(ws:vp)(us:List Vc)(_:x_=.ref r)(_:y3=.ref l)(_:y4=.ref q)(_:r≠l)(_:q≠l)(_:q≠r)(_:M l=KA (.lst (ws.map (L4 6 24))))(_:(∀y4∈ws,L5 y4))(_:PF ws)(_:ws.length<=30)(_:M q=KA (.lst (us.map (gp 6 24))))(_:(∀x_∈us,Lh x_))(_:us.length<=6)(_:LY M r n)(_:n<600000)(_:∀(ws':vp) M',Kx [r,l] M M'->M' l=KA (.lst (ws'.map (L4 6 24)))->(∀y4∈ws',L5 y4)->PF ws'->ws'.length<=ws.length+5->LY M' r (n+6)->Q .non M')
def r9(T:Tx K mg):Cal P w K mg base 4 "_law_laid" (QD Na):=by
 refine m5 (k:=3) T.bI fB λf _ _ _ s H _ X=>#[_,(aq (bP HR rfl (D5 rfl T.rb (ae (dv 2) (ae (cn (dv 2) (cD ag) eD) af))) (bg rfl (ax (aw 3 fB.nd) (ax (aw 4 fB.nd) aS))) (aj (aA 5 fB.nd (aJ (ae (aI (uD rfl X.units) rfl T.pv zw (ae (dv 3) (ae (dv 4) af))) (ae (aI (pT rfl X.units) rfl T.pq sQ (ae (dv 3) (ae (dv 4) af))) af)))) (aq (aR (gQ (fg (aD (gL X.units) (dv 3) (dv 4)) (dj (aD (mJ (jK X)) iR (bS (LO.of (xs:=["_law_some"]) (js:=[5]) rfl) rfl (aQ (dv 1)) (λ_ _ _ _=>bD) (λ_ _ _ _=>(ao (qS T).m X (ae (dv 1) (ae (dv 0) af))))) (by with_unfolding_all rfl))))) (aq (cg (k9 (dv 1) (ae (ao (aC T).m X (ae (dv 0) (ae (av aL (aI bC rfl T.pa bA (ae (dv 1) af)) ag) af))) (ae (dv 5) af))))) aF))))),λ_ _ _ M Q h=>?_];let[r,l,q,n,ws,us,8,8,8,Z,c0,d0,hl,hU,hF,f0,hq,hB,g0,P0,hn,k]:=h;refine #[7,7,7,_,hq,λq2 C=>?_];rw[vR];let a0:∀{a o},M a=KA o->a≠q2:=λh=>az h C;let lq:r≠q2:=P0.ne C;exists q,q2,us.map (gp 6 24),(us.drop 1).map (gp 6 24),8,(by rw[ak (a0 hq)];exact hq),ai;let i0:min (us.map (gp 6 24)).length ((us.drop 1).map (gp 6 24)).length<=5:=by simp;omega
 exists λi δ B=>W9 λ(c:vp) (o3 o4 o5:v9)=>WX (δ=[KA (.ref r),KA (.ref l),KA (.ref q),o3,o4,o5]) (Kx [r,l] M B) (B q2=KA (.lst ((us.drop 1).map (gp 6 24)))) (B l=KA (.lst (c.map (L4 6 24)))) (∀w∈c,L5 w) (PF c) (c.length<=ws.length+i) (LY B r (n+i)),#[ws,_,_,7,Kx.refl.new C,ai,by rw[ak (a0 hl)];exact hl,hU,hF,(),P0.new C],λi δ B _ z=>by let[_,_,_,_,_,kx,h2,_]:=z;exact #[kx q _ (by simp[c0,d0]) hq,h2],?_;rotate_left
 .rintro δ B ⟨c,o3,o4,o5,rfl,kx,h2,F,J,L,G,Y⟩;let G:c.length<=ws.length+min (us.map (gp 6 24)).length ((us.drop 1).map (gp 6 24)).length:=G;let Y:LY B r (n+min (us.map (gp 6 24)).length ((us.drop 1).map (gp 6 24)).length):=Y;exact LW (k c B kx F J L () (Y.le ()))
 rintro i d δ B hi hd ⟨c,o3,o4,o5,rfl,kx,h2,F,J,L,G,Y⟩;let hi:i<min (us.map (gp 6 24)).length ((us.drop 1).map (gp 6 24)).length:=hi;let hd:((us.map (gp 6 24))[i]?).bind (λd=>(((us.drop 1).map (gp 6 24))[i]?).map λe=>D.tup [d,e])=KA d:=hd;let iu:i<us.length:=by simp at hi;omega
 let iv:1+i<us.length:=by simp at hi;omega
 obtain⟨u,v,rfl,bu,bv⟩:∃u v,d=.tup [gp 6 24 u,gp 6 24 v]/\Lh u/\Lh v:=by refine #[us[i],us[1+i],?_,hB _ (Iq iu),hB _ (Iq iv)];rw[Hv,Ht iu,Hv,List.getElem?_drop,Ht iv]at hd;cases hd;rfl
 exists 7,8,_,7,_,7,8;exists 7,7,[6*u.1-24,6*u.2-24],[6*v.1-24,6*v.2-24],8,8;exists 7,7,[6*u.1-24,6*u.2-24],[6*v.1-24,6*v.2-24],8,8,LR rfl;exists 7,7,_,_,Pd.of rfl,Pd.of rfl,8,8,7;rw[sR ⋯];refine aZ (λO=>?_) (λ_=>?_);rotate_left
 .refine gr rfl ?_;exact #[c,_,_,7,kx,h2,F,J,L,(),Y.le ()]
 let O:u≠v:=λz=>by rw[z]at O;simp at O
 let[w,hw,e1,e2]:=Al (g:=6) (h:=24) ⋯ bu bv O;rw[e1,e2];exists 7,c.map (L4 6 24),F;refine #[by simp;omega,λz hz=>?_];let nz:∀{a o},B a=KA o->a≠z:=λh=>az h hz;exists λj ys M2=>∃bs:List Bool,ys=bs.map D.bl/\bs.length=j/\(∀(t:Nat)(v:Wl),bs[t]?=KA KD->c[t]?=KA v->Mq w v)/\M2=au B z (.lst ys),#[[],8,8,λt v h=>by simp at h,rfl],?_,?_
 .rintro j ys M2 _ ⟨bs,_,_,_,rfl⟩;show(au B z _) l=_;rw[ak (nz F)];exact F
 .rintro j ys d M2 hj hd ⟨bs,rfl,p,hf,rfl⟩;let hd:(c.map (L4 6 24))[j]?=KA d:=hd;rw[Hv]at hd;cases ev:c[j]? with
  |none=>rw[ev]at hd;cases hd
  |some v=>
   rw[ev]at hd
   cases hd
   exists 7
   dsimp only[SD.d4]
   refine oJ ?_
   refine #[7,7,6,24,w,v,8,8,#[⋯,⋯,⋯,⋯],hw,J v (Hz ev),λb hb=>?_]
   refine #[_,.refl,ai,bs++[b],by simp,by simp[p],λt v' R S=>?_,by rw[cC]]
   rcases Nat.lt_trichotomy t bs.length with y|y|y
   .rw[Im y]at R;exact hf t v' R S
   .subst y;rw[Ij (Hu _)]at R;let e0:b=KD:=‹R›
    rw[p,ev]at S;cases S;exact hb e0
   .rw[List.getElem?_eq_none (by simp;omega)]at R;cases R
 rintro ys M2 ⟨bs,rfl,p,hf,rfl⟩;let U:bs.length=c.length:=by rw[p];simp
 let c2:∀{a o},B a=KA o->(au B z (.lst (bs.map D.bl))) a=KA o:=λh=>by rw[ak (nz h)];exact h
 exists _,_,.bl KG,.inl (.lst ai (xV bs)),8,xa bs,7;rw[Cn];let P2:LY (au B z (.lst (bs.map D.bl))) r (n+i):=Y.new hz;let V:Kx [r,l] M (au B z (.lst (bs.map D.bl))):=kx.new hz;let N:=c2 F;let W:=c2 h2;generalize au B z (.lst (bs.map D.bl))=M3 at P2 V N W ⊢;refine aZ (λI=>?_) (λ_=>#[c,_,_,7,V,W,N,J,L,(),P2.le ()]);exists 7,l,7,N;refine #[7,7,_,N,r,_,n+i,8,8,P2,(),(by rw[Ho];omega),aX (by rw[Ho];omega),λv o h0 h1 P3=>?_];rw[Ho]at h1;obtain⟨j,rfl⟩:∃j:Nat,v=(j:Int):=#[v.toNat,()];refine #[7,_,_,j,8,(by rw[ak Z.symm];exact N),(by rw[Ho];omega),(by rw[Ho];omega),?_];let b0:q2≠l:=λe=>by rw[e]at C;rw[hl]at C;cases C
 refine #[ic c j w,_,_,7,(V.upd (_)).upd (_),(by rw[ak b0,ak lq.symm];exact W),?_,λx hx=>?_,C9 L λt v hv=>hf t v ?_ hv,?_,P3.upd Z]
 .rw[ai];exact congrArg (λz=>KA (MO.lst z)) (pW (L4 6 24) c j w)
 .have:=(kQ c j w).mem_iff.mp hx;rcases Iw.mp this with z|z
  .rw[z];exact hw
  .exact J x z
 .have R:t<bs.length:=by rw[U];exact(Hw.mp hv).1
  rw[Ht R];let I:bs.any (λb=>b==KG)=KG:=‹I›
  rw[List.any_eq_false]at I;have:=I _ (Iq R);cases e:bs[t]with
  |true=>rfl
  |false=>rw[e]at this;simp at this
 .rw[(kQ c j w).length_eq,Ih];omega
theorem bz:LN ["_law_pot_here","_law_most","_law_shuts","_law_wide","_law_k","_law_spots"] ["_law_pot_here","_law_most"] (ar dz):=⋯
inductive MJ:Prop
 |mk (r:r4)(n:Nat)(m:Int)(_:x_=.ref r)(_:y3=.int m)(_:(0<=m/\m<=12))(_:LY M r n)(_:n<100000)(_:∀(l:r4)(ws:vp) M',r≠l->M l=KC->Kx [r] M M'->M' l=KA (.lst (ws.map (L4 6 24)))->(∀w∈ws,L5 w)->PF ws->ws.length<=15->LY M' r (n+400)->Q (.ref l) M')
def kO(T:Tx K mg):Cal P w K mg base 5 "_law_shuts_here" (Li MJ):=by
 refine bo (k:=4) T.b6 bz λf _ _ _ s H _ L=>#[_,(aj (aA 2 bz.nd (aV af)) (aj (aA 3 bz.nd (aB (aV (ae ag (ae ag (ae ag (ae ag af))))) (ao (aC T).m L (ae (dv 0) (ae ag af))))) (aj (gh HR rfl rfl T.p_ (ae (ao (aC T).m L (ae (dv 0) (ae (av aL (dv 1) ag) af))) af) (aw 4 bz.nd) (aj (iq 5 bz.nd (LO.of (xs:=["_law_j"]) (js:=[0,2,3]) rfl) rfl (iB rfl T.p_ (ae (av aL ag (ao (aC T).m L (ae (dv 0) (ae ag af)))) af)) (λ_ _ _ _=>bD) (λ_ _ _ _=>(ao (lP T).m L (ae (dv 1) (ae (dv 2) (ae (dv 3) af)))))) (aj (aR (aD (bj L.units) (ao (aC T).m L (ae (dv 0) (ae ag af))) ag) (aq (cg (bE (dv 5) (ae (aB (dv 5) ag) af)))) aF) (aj (aR (aD (bj L.units) (ao (aC T).m L (ae (dv 0) (ae ag af))) ag) (aq (aA 5 bz.nd (ao (pO T).m L (ae (dv 0) (ae (dv 3) af))))) aF) (aq (aR (aD (b4 L.units) (aI bC rfl T.pa bA (ae (dv 2) af)) ag) (aq (cg (ao (r9 T).m L (ae (dv 0) (ae (dv 2) (ae (dv 5) af)))))) aF)))))) (aq (ay (dv 2)))))),λ_ _ M Q h=>?_];let[r,n,m,8,8,hm,P0,hn,k]:=h;refine #[LR rfl,λl hl=>?_];let g:r≠l:=P0.ne hl;refine #[LR rfl,λz hz=>?_];let t0:r≠z:=(P0.new hl).ne hz;let v0:l≠z:=az ai hz;refine #[7,r,4,n,8,8,(P0.new hl).new hz,(),⋯,aX ⋯,λv o h0 h1 P1=>?_]
 obtain⟨U,w0,n0⟩:∃U:Int,atI [D.int 3,D.int 4,D.int 6,D.int 10] v=KA (.int U)/\(0<U/\U<=10):=by
  rcases(():v=0\/v=1\/v=2\/v=3)with rfl|rfl|rfl|rfl
  .exact #[3,8,⋯]
  .exact #[4,8,⋯]
  .exact #[6,8,⋯]
  .exact #[10,8,⋯]
 exists _,_,(by rw[ak t0.symm,ai]),w0;refine #[7,7,r,m+1,n+1,8,8,P1,(),(),aX (),λc o2 a0 a1 P2=>?_];let o0:(au (au (au (au M l (.lst [])) z (.lst [.int 3,.int 4,.int 6,.int 10])) r o) r o2) l=KA (.lst (([]:vp).map (L4 6 24))):=by rw[ak g.symm,ak g.symm,ak v0,ai];rfl
 let q0:Kx [r,l] M (au (au (au (au M l (.lst [])) z (.lst [.int 3,.int 4,.int 6,.int 10])) r o) r o2):=(((Kx.refl.new hl).new hz).upd (_)).upd (_);generalize au (au (au (au M l (.lst [])) z (.lst [.int 3,.int 4,.int 6,.int 10])) r o) r o2=M2 at P2 o0 q0 ⊢;exists c.toNat,?_,(),λi δ t=>OJ λ(ws:vp) (o4 o5:v9)=>Wa (δ=[KA (.ref r),KA (.int m),KA (.ref l),KA (.int U),o4,o5]) (Kx [r,l] M t) (t l=KA (.lst (ws.map (L4 6 24)))) (∀w∈ws,L5 w) (PF ws) (ws.length<=15) (LY t r (n+2+28*i)),#[[],_,7,q0,o0,λw hw=>absurd hw (_),D3,⋯,P2],?_
 .rw[Int.toNat_of_nonneg a0]
 rotate_left
 .rintro δ t ⟨ws,o4,o5,rfl,kx,c0,hU,hF,N,P'⟩;refine #[7,LW (k l ws t g hl (λa O R e=>?_) c0 hU hF N (P'.le ()))]
  exact kx a O (by
   intro hm
   rcases Iw.mp hm with rfl|hm
   .exact R (_)
   .have:a=l:=‹hm›
    subst this;rw[hl]at e;cases e) e
 rintro i δ t hi ⟨ws,o4,o5,rfl,kx,c0,hU,hF,N,P'⟩;let o1:i<=12:=()
 refine #[7,r,4,n+2+28*i,8,8,P',(),⋯,aX ⋯,λc2 o3 b0 b1 P3=>?_];let e0:(au t r o3) l=KA (.lst (ws.map (L4 6 24))):=by rw[ak g.symm];exact c0
 let V:Kx [r,l] M (au t r o3):=kx.upd (_);generalize au t r o3=M3 at P3 e0 V ⊢;exists 2+c2.toNat,(by rw[show((2+c2.toNat:Nat):Int)=2+c2 by omega]),();refine #[by show 2+c2.toNat<=1000000;omega,λp hp=>?_];let I:r≠p:=P3.ne hp;let W:l≠p:=az e0 hp;exists λj ys M2=>∃us:List Vc,ys=us.map (gp 6 24)/\us.length=j/\(∀u∈us,Lh u)/\Kx [r,l] M M2/\M2 l=KA (.lst (ws.map (L4 6 24)))/\M2 p=KA (.lst ys)/\LY M2 r (n+3+28*i+3*j),#[[],8,8,λu hu=>absurd hu (_),V.new hp,by rw[ak W];exact e0,ai,(P3.new hp).le ()],λ_ _ _ _ _=>trivial,?_
 .rintro j ys d M2 hj hd ⟨us,rfl,x0,hB,f0,X,g0,P4⟩;let hj:j<2+c2.toNat:=hj;exists 7;dsimp only[SD.d4];refine oJ ?_;refine #[7,7,7,r,l,n+3+28*i+3*j,U,ws,8,8,8,g,X,hU,(),P4,(),n0,λu M5 bu y Y=>?_];let B:=y p _ ‹I.symm› g0;refine #[M5,.refl,B,us++[u],by simp,by simp[x0],λx hx=>?_,?_,?_,ai,(Y.upd I).le ()]
  .rcases HQ.mp hx with z|z
   .exact hB x z
   .have:x=u:=‹z›
    subst this;exact bu
  .intro a O R e;let a1:=f0 a O R e
   let i0:a≠p:=λz=>by
    subst z
    have:=V a O R e
    rw[hp]at this;cases this
   rw[ak i0];exact y a O (λz=>R (by simp at z;simp[z])) a1
  .rw[ak W];exact y l _ ‹g.symm› X
 rintro ys M4 ⟨us,rfl,F,hB,f0,X,g0,P4⟩;let F:us.length=2+c2.toNat:=F;let P4:LY M4 r (n+3+28*i+3*(2+c2.toNat)):=P4;let P4:=P4.le (():_<=n+18+28*i);(try dsimp only[SD.aK])
 refine cE (λδ t=>∃(us:List Vc),Wa (δ=[KA (.ref r),KA (.int m),KA (.ref l),KA (.int U),KA (.int (i:Int)),KA (.ref p)]) (Kx [r,l] M t) (t l=KA (.lst (ws.map (L4 6 24)))) (t p=KA (.lst (us.map (gp 6 24)))) (us.length<=6) (∀u∈us,Lh u) (LY t r (n+19+28*i))) ?_ (λhu=>?_);rotate_left
 .refine #[7,r,2,n+18+28*i,8,8,P4,(),⋯,aX ⋯,λv1 C d0 d1 Y=>#[7,?_]];let S:(au M4 r C) l=KA (.lst (ws.map (L4 6 24))):=by rw[ak g.symm];exact X
  let B:(au M4 r C) p=KA (.lst (us.map (gp 6 24))):=by rw[ak I.symm];exact g0
  let y:Kx [r,l] M (au M4 r C):=f0.upd (_);generalize au M4 r C=M5 at Y S B y ⊢;let Y:=Y.le (():_<=n+19+28*i);refine aZ (λ_=>?_) (λ_=>hu _ _ #[us,8,y,S,B,(),hB,Y])
  obtain⟨u0,k0,rfl⟩:∃u0 k0,us=u0::k0:=by
   cases us with
   |nil=>rw[List.length_nil]at F;omega
   |cons a b=>exact #[a,b,rfl]
  refine #[7,p,7,B,7,_,_,B,(show atI _ ((0:Nat):Int)=_ from aW (by rfl)),_,7,B,(by rw[Ho];omega),?_];refine hu _ _ #[(u0::k0)++[u0],8,?_,(by rw[ak W];exact S),(by rw[ai,Ib];rfl),(by rw[Io];simp at F ⊢;omega),λx hx=>?_,Y.upd I]
  .intro a O R e
   let i0:a≠p:=λz=>by
    subst z
    have:=V a O R e
    rw[hp]at this;cases this
   rw[ak i0];exact y a O R e
  .rcases HQ.mp hx with z|z
   .exact hB x z
   .have:x=u0:=‹z›
    subst this;exact hB x (_)
 rintro δ M5 ⟨us,rfl,y,S,B,F,hB,Y⟩;refine cE (λδ t=>Po λ(q:r4) (us:List Vc)=>Yo (δ=[KA (.ref r),KA (.int m),KA (.ref l),KA (.int U),KA (.int (i:Int)),KA (.ref q)]) (r≠q) (l≠q) (Kx [r,l] M t) (t l=KA (.lst (ws.map (L4 6 24)))) (t q=KA (.lst (us.map (gp 6 24)))) (us.length<=6) (∀u∈us,Lh u) (LY t r (n+24+28*i))) ?_ (λhu=>?_);rotate_left
 .refine #[7,r,4,n+19+28*i,8,8,Y,(),⋯,aX ⋯,λv1 C d0 d1 P6=>#[7,?_]];let G:(au M5 r C) l=KA (.lst (ws.map (L4 6 24))):=by rw[ak g.symm];exact S
  let r0:(au M5 r C) p=KA (.lst (us.map (gp 6 24))):=by rw[ak I.symm];exact B
  let J:Kx [r,l] M (au M5 r C):=y.upd (_);generalize au M5 r C=M6 at P6 G r0 J ⊢;refine aZ (λ_=>?_) (λ_=>hu _ _ #[p,us,8,I,W,J,G,r0,F,hB,P6.le ()]);refine #[7,7,r,n+20+28*i,U,8,8,P6.le (),(),n0,λq y0 M7 Z m0 z0 c1 l5 e1 P7=>?_];refine hu _ _ #[q,y0,8,m0,az G z0,λa O R e=>Z a O (λz=>R (by simp at z;simp[z])) (J a O R e),Z l _ ‹g.symm› G,c1,(),e1,P7.le ()]
 rintro δ M6 ⟨q,us,rfl,m0,f1,J,G,g1,F,hB,P6⟩;exists 7,_,G,trivial,7;refine aZ (λs0=>?_) (λ_=>#[ws,_,7,J,G,hU,hF,N,P6.le ()])
 let s0:ws.length<11:=by
  have:(((ws.map (L4 6 24)).length:Nat):Int)<11:=‹s0›
  rw[Ho]at this;omega
 refine #[7,7,7,r,l,q,n+24+28*i,ws,us,8,8,8,g,f1.symm,m0.symm,G,hU,hF,(),g1,hB,F,P6,(),λi1 M7 Z j1 k1 m1 n1 P7=>?_];exact #[i1,_,7,J.trans Z,j1,k1,m1,(),P7.le ()]
theorem cZ:LN ["_law_shuts","_law_found","_law_shut"] ["_law_shuts"] (ar fO):=⋯
inductive Mi:Prop
 |mk (l:r4)(g h:Int)(ws:vp)(_:x_=.ref l)(_:Gs g h)(_:M l=KA (.lst (ws.map (L4 g h))))(_:(∀w∈ws,L5 w))(_:ws.length<=40)(_:(Lf ws ws.length).length<64)(_:∀(M':MH)(z:r4)(ps:List Vc),SD.Sub M M'->M z=KC->M' z=KA (.lst (ps.map (gp g h)))->ps.Perm (Lf ws ws.length)->ps.Pairwise Lj->Q (.ref z) M')
def nA(T:Tx K mg):Cal P w K mg base 1 "_law_corners" (Nl Mi):=by
 refine fH (k:=0) T.b9 cZ λf _ _ _ s H _ Y=>#[_,(aj (aA 1 cZ.nd (aV af)) (aj (bP HR rfl (aQ (dv 0)) (aw 2 cZ.nd) (aq (aA 1 cZ.nd (av aL (dv 1) (bS (LO.of (xs:=["_law_spot"]) (js:=[1]) rfl) rfl (aQ (dv 2)) (λ_ _ _ _=>(lY (aD (mJ (jK Y)) (dv 0) (dv 1) (by with_unfolding_all rfl)))) (λ_ _ _ _=>(dv 0))))))) (aq (ay (aI vM rfl T.q7 oh (ae (dv 1) af)))))),λ_ M Q h=>?_];let[l,g,h,ws,8,G,x,O,R,y,k]:=h;refine #[LR rfl,λc p=>?_];refine #[7,ws.map (L4 g h),(by show(au M c _) l=_;rw[ak (az x p)];exact x),?_];exists λj δ m=>Po λ(c:r4) (B:v9)=>δ=[KA (.ref l),KA (.ref c),B]/\SD.Sub M m/\m c=KA (.lst (((Lf ws j).map (gq g h)).map MD)),#[c,7,.new p .refl,ai],λj δ m _ q=>let⟨_,_,_,s,_⟩:=q;s _ _ x,?_
 .rintro j d δ m hj hd ⟨c,B,rfl,t,b⟩;let hd:(ws.map (L4 g h))[j]?=KA d:=hd;rw[Hv]at hd;cases r:ws[j]? with
  |none=>rw[r]at hd;cases hd
  |some w=>
   rw[r]at hd
   cases hd
   let jw:j<ws.length:=(Hw.mp r).1
   let Z:=O w (Hz r)
   let lc:=iC ws j
   let ne:gq g h (ea w)≠gq g h (eb w):=λe=>Z.eab (sD G.g0 e)
   let e:(Lf ws (j+1)).map (gq g h)=dw (dw ((Lf ws j).map (gq g h)) (gq g h (ea w))) (gq g h (eb w)):=by
    rw[uj G.g0,uj G.g0]
    show(match ws[j]? with|some w=>dw (dw (Lf ws j) (ea w)) (eb w)|none=>Lf ws j).map (gq g h)=_
    rw[r]
   rw[e]
   let lq:((Lf ws j).map (gq g h)).length<=2*j:=by rw[Ho];exact lc
   clear e
   generalize (Lf ws j).map (gq g h)=us at b lq ⊢
   refine #[7,7,[MD (gq g h (ea w)),MD (gq g h (eb w))],8,oF (λC=>if C=0 then(if gq g h (ea w)∈us then KC else KA (MD (gq g h (ea w))))else(if gq g h (eb w)∈us then KC else KA (MD (gq g h (eb w))))) (LR rfl) (λ_ _ _=>rfl) ?_ (λF i=>?_)]
   .intro a d M6 S hd I;let S:a<2:=S
    obtain⟨u,rfl,U⟩:∃u,d=MD u/\(if a=0 then(if gq g h (ea w)∈us then KC else KA (MD (gq g h (ea w))))else(if gq g h (eb w)∈us then KC else KA (MD (gq g h (eb w)))))=(if u∈us then KC else KA (MD u)):=by
     let hd:([MD (gq g h (ea w)),MD (gq g h (eb w))]:vu)[a]?=KA d:=hd;rcases(():a=0\/a=1)with rfl|rfl
     .cases hd;exact #[7,rfl]
     .cases hd;exact #[7,rfl]
    refine #[7,λK n=>?_,λv hv K n=>?_]
    .rw[U]at n;refine #[7,7,C5 u _ _ (I _ _ b) #[7,?_]];by_cases h:u∈us
     .rw[KI h]at n;rw[KL h];exact n
     .rw[KH h]at n;rw[KJ h];exact n
    .rw[U]at hv;by_cases h:u∈us
     .rw[KI h]at hv;cases hv
     .rw[KH h]at hv;cases hv;exact #[7,n _ .refl]
   .have J:∀{G},(au m F G) c=KA (.lst (us.map MD)):=λ{G}=>by rw[ak (az b i)];exact b
    let V:=List.length_filterMap_le (λC:Nat=>if C=0 then(if gq g h (ea w)∈us then KC else KA (MD (gq g h (ea w))))else(if gq g h (eb w)∈us then KC else KA (MD (gq g h (eb w))))) (HM 2);rw[List.length_range]at V;refine #[_,_,J,ai,?_,λq hq=>#[q,7,.new hq (.new i t),?_]]
    .have sz:1000000<=HK:=LR rfl;rw[Ho];exact Iv (Nat.add_le_add_left V _) ()
    .rw[ai];exact congrArg (λz=>KA (MO.lst z)) (zD us _ _ ne)
 .rintro δ m ⟨c,B,rfl,t,b⟩;let b:m c=KA (.lst (((Lf ws (ws.map (L4 g h)).length).map (gq g h)).map MD)):=b;rw[Ho]at b;let W:∀u∈Lf ws ws.length,Lh u:=ud O;refine #[7,_,b,Fb G W (ph ws _) y,λz vs X pm up=>?_];let[ps,8,L,N]:=zX G W pm up;exact LW (k _ z ps (.new X t) (by cases e:M z with|none=>rfl|some o=>have:=t _ _ e;rw[X]at this;cases this) (by rw[ai,DR]) L N)
theorem eK:LN ["_law_pot_here","_law_many","_law_kind","_law_far_here"] ["_law_pot_here","_law_many"] (ar gT):=⋯
inductive NF:Prop
 |mk (r:r4)(n:Nat)(m:Int)(_:x_=.ref r)(_:y3=.int m)(_:LY M r n)(_:n<700000)(_:∀(t b x y:Int) M',Lm t b x y->t<=10^20->b<=10^25->(-(10^27)<=x/\x<=10^27)->(-(10^27)<=y/\y<=10^27)->Kx [r] M M'->LY M' r (n+5)->Q (Q8 t b x y) M')
def qw(T:Tx K mg):Cal P w K mg base 2 "_law_frame" (Li NF):=by
 refine bo (k:=1) T.b_ eK λf _ _ _ s H _ S=>#[_,(aj (aA 2 eK.nd (ao (aC T).m S (ae (dv 0) (ae ag af)))) (aj (aR (aD (b4 S.units) (dv 2) ag) (aq (ay (aJ (ae ag (ae ag (ae ag (ae ag af))))))) aF) (aj (aR (gQ (fg (aD (bj S.units) (dv 2) ag) (dj (aD (b4 S.units) (dv 1) ag)))) (aj (iq 3 eK.nd (LO.of (xs:=["_law_k"]) (js:=[0]) rfl) rfl (iB rfl T.p_ (ae ag af)) (λ_ _ _ _=>bD) (λ_ _ _ _=>(av aU (ao (aC T).m S (ae (dv 1) (ae (av aL (av aP ag (av fP ag ag)) ag) af))) (av fP ag ag)))) (aq (ay (aJ (ae (av aL ag (ao (aC T).m S (ae (dv 0) (ae (av fP ag ag) af)))) (ae (av aL ag (ao (aC T).m S (ae (dv 0) (ae (av fP ag ag) af)))) (ae (aB (dv 3) ag) (ae (aB (dv 3) ag) af)))))))) aF) (aj (iq 3 eK.nd (LO.of (xs:=["_law_k"]) (js:=[0]) rfl) rfl (iB rfl T.p_ (ae ag af)) (λ_ _ _ _=>bD) (λ_ _ _ _=>(av aU (ao (aC T).m S (ae (dv 1) (ae (av aL (av aP ag (av fP ag ag)) ag) af))) (av fP ag ag)))) (aq (ay (aJ (ae (av aL ag (ao (aC T).m S (ae (dv 0) (ae (av fP ag ag) af)))) (ae (av aL ag (ao (aC T).m S (ae (dv 0) (ae (av fP ag ag) af)))) (ae (aB (dv 3) ag) (ae (aB (dv 3) ag) af))))))))))),λ_ _ M Q h=>?_];let[r,n,m,8,8,P0,hn,k]:=h;refine #[7,r,16,n,8,8,P0,(),⋯,aX ⋯,λkd o h0 h1 U=>?_];let q:Kx [r] M (au M r o):=Kx.refl.upd (_);generalize au M r o=M1 at U q ⊢;exists 7,trivial,7;refine aZ (λ_=>?_) (λ_=>?_)
 .exact #[LR rfl,LW (k 1 1 0 0 M1 #[⋯,⋯,⋯,⋯,⋯,⋯,⋯,⋯] ⋯ ⋯ ⋯ ⋯ q (U.le ()))]
 walk_at "u"
 exists 7,7;refine aZ (λ_=>?_) (λ_=>?_)
 .exists 7,trivial,7;refine aZ (λ_=>?_) (λ_=>?_)
  .exists 2,8,⋯;refine #[by show 2<=1000000;omega,λp G=>?_];let b:r≠p:=U.ne G;exists λj I c=>∃us:sy,I=us.map D.int/\us.length=j/\(∀u∈us,-(10^27)<=u/\u<=10^27)/\Kx [r] M c/\c p=KA (.lst I)/\LY c r (n+1+j),#[[],8,8,λu Z=>absurd Z (_),q.new G,ai,U.new G],λ_ _ _ _ _=>trivial,?_
   .rintro j I d c V hd ⟨us,rfl,L,hB,e,g,t⟩;let V:j<2:=V;exists 7;dsimp only[SD.d4];refine oJ ?_;refine #[7,#[⋯,⋯,⋯],a9 (aX ⋯),r,2*10^27+1,n+1+j,8,8,t,(),⋯,Bd.mono (m:=100) (by show(2*10^27+1:Int).natAbs<2^100;decide) ⋯,λv l a0 a1 J=>?_];let B:(au c r l) p=KA (.lst (us.map D.int)):=by rw[ak b.symm];exact g
    let C:Kx [r] M (au c r l):=e.upd (_);generalize au c r l=M5 at B C J ⊢;refine #[#[⋯,⋯,⋯],trivial,M5,.refl,B,us++[v-10^27],by simp,by simp[L],λx hx=>?_,?_,ai,J.upd b]
    .rcases HQ.mp hx with z|z
     .exact hB x z
     .have:x=v-10^27:=‹z›
      subst this;omega
    .intro a W X ea
     let N:a≠p:=λz=>by
      subst z
      have:=q a W X ea
      rw[G]at this;cases this
     rw[ak N];exact C a W X ea
   rintro I O ⟨us,rfl,i,hB,e,g,t⟩;let i:us.length=2:=i;let t:LY O r (n+3):=t
   obtain⟨x,y,rfl⟩:∃x y,us=[x,y]:=by
    match us,i with
    |[x,y],_=>exact #[x,y,rfl]
   let hx:=hB x (_);let hy:=hB y (_);refine #[7,#[⋯,⋯,⋯],r,10^20,n+3,8,8,t,(),⋯,Bd.mono (m:=100) (by show(10^20:Int).natAbs<2^100;decide) ⋯,λv l a0 a1 J=>?_];refine #[7,#[⋯,⋯,⋯],r,10^25,n+4,8,8,J,(),⋯,Bd.mono (m:=100) (by show(10^25:Int).natAbs<2^100;decide) ⋯,λv2 Y b0 b1 P6=>?_];let F:(au (au O r l) r Y) p=KA (.lst ([x,y].map D.int)):=by rw[ak b.symm,ak b.symm];exact g
   let R:Kx [r] M (au (au O r l) r Y):=(e.upd (_)).upd (_);exists 7,_,_,F,8,7,_,_,F,8,LR rfl;exact LW (k (1+v) (1+v2) x y _ #[(),(),(),(),(),(),(),()] () () () () R P6)
  .exists 2,8,⋯;refine #[by show 2<=1000000;omega,λp G=>?_];let b:r≠p:=U.ne G;exists λj I c=>∃us:sy,I=us.map D.int/\us.length=j/\(∀u∈us,-(10^6)<=u/\u<=10^6)/\Kx [r] M c/\c p=KA (.lst I)/\LY c r (n+1+j),#[[],8,8,λu Z=>absurd Z (_),q.new G,ai,U.new G],λ_ _ _ _ _=>trivial,?_
   .rintro j I d c V hd ⟨us,rfl,L,hB,e,g,t⟩;let V:j<2:=V;exists 7;dsimp only[SD.d4];refine oJ ?_;refine #[7,#[⋯,⋯,⋯],a9 (aX ⋯),r,2*10^6+1,n+1+j,8,8,t,(),⋯,Bd.mono (m:=100) (by show(2*10^6+1:Int).natAbs<2^100;decide) ⋯,λv l a0 a1 J=>?_];let B:(au c r l) p=KA (.lst (us.map D.int)):=by rw[ak b.symm];exact g
    let C:Kx [r] M (au c r l):=e.upd (_);generalize au c r l=M5 at B C J ⊢;refine #[#[⋯,⋯,⋯],trivial,M5,.refl,B,us++[v-10^6],by simp,by simp[L],λx hx=>?_,?_,ai,J.upd b]
    .rcases HQ.mp hx with z|z
     .exact hB x z
     .have:x=v-10^6:=‹z›
      subst this;omega
    .intro a W X ea
     let N:a≠p:=λz=>by
      subst z
      have:=q a W X ea
      rw[G]at this;cases this
     rw[ak N];exact C a W X ea
   rintro I O ⟨us,rfl,i,hB,e,g,t⟩;let i:us.length=2:=i;let t:LY O r (n+3):=t
   obtain⟨x,y,rfl⟩:∃x y,us=[x,y]:=by
    match us,i with
    |[x,y],_=>exact #[x,y,rfl]
   let hx:=hB x (_);let hy:=hB y (_);refine #[7,#[⋯,⋯,⋯],r,10^4,n+3,8,8,t,(),⋯,Bd.mono (m:=100) (by show(10^4:Int).natAbs<2^100;decide) ⋯,λv l a0 a1 J=>?_];refine #[7,#[⋯,⋯,⋯],r,10^4,n+4,8,8,J,(),⋯,Bd.mono (m:=100) (by show(10^4:Int).natAbs<2^100;decide) ⋯,λv2 Y b0 b1 P6=>?_];let F:(au (au O r l) r Y) p=KA (.lst ([x,y].map D.int)):=by rw[ak b.symm,ak b.symm];exact g
   let R:Kx [r] M (au (au O r l) r Y):=(e.upd (_)).upd (_);exists 7,_,_,F,8,7,_,_,F,8,LR rfl;exact LW (k (1+v) (1+v2) x y _ #[(),(),(),(),(),(),(),()] () () () () R P6)
 .exists 2,8,⋯;refine #[by show 2<=1000000;omega,λp G=>?_];let b:r≠p:=U.ne G;exists λj I c=>∃us:sy,I=us.map D.int/\us.length=j/\(∀u∈us,-(10^6)<=u/\u<=10^6)/\Kx [r] M c/\c p=KA (.lst I)/\LY c r (n+1+j),#[[],8,8,λu Z=>absurd Z (_),q.new G,ai,U.new G],λ_ _ _ _ _=>trivial,?_
  .rintro j I d c V hd ⟨us,rfl,L,hB,e,g,t⟩;let V:j<2:=V;exists 7;dsimp only[SD.d4];refine oJ ?_;refine #[7,#[⋯,⋯,⋯],a9 (aX ⋯),r,2*10^6+1,n+1+j,8,8,t,(),⋯,Bd.mono (m:=100) (by show(2*10^6+1:Int).natAbs<2^100;decide) ⋯,λv l a0 a1 J=>?_];let B:(au c r l) p=KA (.lst (us.map D.int)):=by rw[ak b.symm];exact g
   let C:Kx [r] M (au c r l):=e.upd (_);generalize au c r l=M5 at B C J ⊢;refine #[#[⋯,⋯,⋯],trivial,M5,.refl,B,us++[v-10^6],by simp,by simp[L],λx hx=>?_,?_,ai,J.upd b]
   .rcases HQ.mp hx with z|z
    .exact hB x z
    .have:x=v-10^6:=‹z›
     subst this;omega
   .intro a W X ea
    let N:a≠p:=λz=>by
     subst z
     have:=q a W X ea
     rw[G]at this;cases this
    rw[ak N];exact C a W X ea
  rintro I O ⟨us,rfl,i,hB,e,g,t⟩;let i:us.length=2:=i;let t:LY O r (n+3):=t
  obtain⟨x,y,rfl⟩:∃x y,us=[x,y]:=by
   match us,i with
   |[x,y],_=>exact #[x,y,rfl]
  let hx:=hB x (_);let hy:=hB y (_);refine #[7,#[⋯,⋯,⋯],r,10^4,n+3,8,8,t,(),⋯,Bd.mono (m:=100) (by show(10^4:Int).natAbs<2^100;decide) ⋯,λv l a0 a1 J=>?_];refine #[7,#[⋯,⋯,⋯],r,10^4,n+4,8,8,J,(),⋯,Bd.mono (m:=100) (by show(10^4:Int).natAbs<2^100;decide) ⋯,λv2 Y b0 b1 P6=>?_];let F:(au (au O r l) r Y) p=KA (.lst ([x,y].map D.int)):=by rw[ak b.symm,ak b.symm];exact g
  let R:Kx [r] M (au (au O r l) r Y):=(e.upd (_)).upd (_);exists 7,_,_,F,8,7,_,_,F,8,LR rfl;exact LW (k (1+v) (1+v2) x y _ #[(),(),(),(),(),(),(),()] () () () () R P6)
theorem ft:LN ["_law_top","_law_bottom","_law_one","_law_other"] ["_law_top","_law_bottom"] (ar ji):=⋯
inductive Nb:Prop
 |mk (t:_)(b:_)(_:x_=.int t)(_:y3=.int b)(_:0<b)(_:Bd 8000 t)(_:Bd 8000 b)(_:Q (LI (Rat.divInt t b)) M)
def mM(T:Tx K mg):Cal P w K mg base 1 "_law_frac" (Li Nb):=by
 refine bo (k:=0) T.cb ft λf _ _ _ s H _ j=>#[_,(aj (aA 2 ft.nd (aI tG rfl T.n7 sL (ae (dv 0) af))) (aj (aA 3 ft.nd (dv 1)) (aj (fX HR (aD (fM j.units) (dv 3) ag) (aq (fT 2 3 rfl ft.nd (ae (dv 3) (ae (av gE (dv 2) (dv 3)) af))))) (aq (ay (aJ (ae (av fy (dv 0) (dv 2)) (ae (av fy (dv 1) (dv 2)) af)))))))),λ_ _ M Q h=>?_];let[t,b,8,8,l,p,d,q]:=h;obtain⟨n,rfl⟩:∃n:Nat,b=(n:Int):=#[b.toNat,()];let r:=Ma.ua (t:=t) (show(n:Int)≠0 by omega);let c:Bd 8000 ((K9 t.natAbs (n:Int).natAbs:Nat):Int):=d.of_le ‹Nat.gcd_le_right t.natAbs (():0<(n:Int).natAbs)›;exists 7,7;exists λm δ i=>i=M/\∃x y:Nat,δ=[KA (.int t),KA (.int n),KA (.int x),KA (.int y)]/\K9 x y=K9 t.natAbs (n:Int).natAbs/\m=y,#[7,_,n,8,8,rfl];rintro m δ i ⟨rfl,x,y,rfl,a,o⟩;exists 7,trivial,7;refine aZ (λh=>?_) (λh=>?_)
 .have e:0<y:=by
   have:(0:Int)<(y:Int):=‹h›
   omega
  let g:(y:Int)≠0:=()
  exists 7,7,7,g,_,7;refine #[x%y,by rw[o];exact Nat.mod_lt _ e,8,y,x%y,?_,?_,rfl]
  .rw[<-Ma.uK];rfl
  .rw[<-a,Nat.gcd_comm x y,Nat.gcd_rec y x,Nat.gcd_comm]
 .have g:y=0:=by
   have:¬(0:Int)<(y:Int):=‹h›
   omega
  subst g;rw[Nat.gcd_zero_right]at a;subst a;let[e1,e2]:=Ma.uy (t:=t) l;exists 7,7,#[(),c],7,7,#[(),c],LR rfl;dsimp only;rw[e1,e2];exact LW q
theorem c9:LN ["_law_frame_here","_law_spot","_law_p","_law_q","_law_s","_law_t"] ["_law_frame_here","_law_spot"] (ar ie):=⋯
inductive ND:Prop
 |mk (t b x y p q:Int)(_:x_=Q8 t b x y)(_:y3=.tup [.int p,.int q])(_:Lm t b x y)(_:(-(10^6)<=p/\p<=10^6))(_:(-(10^6)<=q/\q<=10^6))(_:Q (LH (Kw t b x 1 p) (Kw t b y 1 q)) M)
def fD(T:Tx K mg):Cal P w K mg base 2 "_law_given" (Li ND):=by
 refine bo (k:=1) T.cc c9 λf _ _ _ s H _ c=>#[_,(aj (bG (dv 0) (bg rfl (ax (aw 2 c9.nd) (ax (aw 3 c9.nd) (ax (aw 4 c9.nd) (ax (aw 5 c9.nd) aS)))))) (aq (ay (aJ (ae (ao (mM T).m c (ae (av aL (av aP (aB (dv 1) ag) (dv 2)) (dv 4)) (ae (dv 3) af))) (ae (ao (mM T).m c (ae (av aL (av aP (aB (dv 1) ag) (dv 2)) (dv 5)) (ae (dv 3) af))) af)))))),λ_ _ M Q h=>?_];let[t,b,x,y,p,q,8,8,S,d,e,k]:=h;let i:Bd 100 t:=by have:=S.t0;have:=S.t1;show t.natAbs<2^100;omega
 let a:∀{z:Int},(-(10^6)<=z/\z<=10^6)->Bd 64 z:=λ{z} h=>by show z.natAbs<2^64;omega
 let g:Bd 8000 b:=by have:=S.b0;have:=S.b1;exact Bd.mono (m:=100) (by show b.natAbs<2^100;omega) ⋯
 let big:∀{z w:Int},(-(10^6)<=z/\z<=10^6)->(-(10^30)<=w/\w<=10^30)->Bd 8000 (z*t+w):=λ{z w} h1 h2=>by
  let e1:Bd 164 (z*t):=(a h1).mul i
  let e2:Bd 164 w:=by show w.natAbs<2^164;omega
  exact(e1.add e2).mono ⋯
 let j:b≠0:=by have:=S.b0;omega
 exists 7,7,8,_,7,_,7,_,7,_,7,8;exists 7,7,7,a9 (a d),7,7,p*t+x,b,8,8,S.b0,big d #[S.x0,S.x1],g;exists 7,7,7,a9 (a e),7,7,q*t+y,b,8,8,S.b0,big e #[S.y0,S.y1],g,LR rfl;rw[Ma.yo,Ma.yo];exact LW k
theorem qe:LN ["_law_frame_here","_law_shuts"] ["_law_frame_here","_law_shuts"] (ar i8):=⋯
inductive N9:Prop
 |mk (t b x y:Int)(l:r4)(ws:List (Int×Int×Int×Int))(_:x_=Q8 t b x y)(_:y3=.ref l)(_:M l=KA (.lst (ws.map uw)))(_:Lm t b x y)(_:ws.length<=1000)(_:(∀w∈ws,Y2 (10^6) w))(_:Q (.tup (ws.map (LQ t b x y))) M)
def sI(T:Tx K mg):Cal P w K mg base 3 "_law_plot" (Li N9):=by
 refine bo (k:=2) T.cp qe λf _ _ _ s H _ n=>#[_,(aq (ay (bJ mz rfl T.q_ mh (ae (qL (LO.of (xs:=["_law_first","_law_second"]) (js:=[0]) rfl) rfl (aQ (dv 1)) (λ_ _ _ _=>bD) (λ_ _ _ _=>(aJ (ae (ao (fD T).m n (ae (dv 2) (ae (dv 0) af))) (ae (ao (fD T).m n (ae (dv 2) (ae (dv 1) af))) af))))) af)))),λ_ _ M Q h=>?_];let[t,b,x,y,l,ws,8,8,g,S,C,o,k]:=h;refine #[7,ws.map uw,g,comp_map (λi=>((ws.map (LQ t b x y))[i]?).getD .non) (by simp;omega) (λp D j=>?_) ?_ (λp j=>#[_,ai,?_])]
 .show(au M p _) l=_;rw[ak (az g j)];exact g
 .intro i e q F a _;let a:(ws.map uw)[i]?=KA e:=a;rw[Hv]at a;cases d:ws[i]? with
  |none=>rw[d]at a;cases a
  |some w=>
   rw[d]at a
   cases a
   let[r,u,v,z]:=o w (Hz d)
   refine #[_,#[7,8,rfl],λK B=>?_]
   let c:=B q .refl
   rw[getD_map d]at c
   exists 7,7,t,b,x,y,w.1,w.2.1,8,8,S,r,u
   exact #[7,7,t,b,x,y,w.2.2.1,w.2.2.2,8,8,S,v,z,LR rfl,c]
 .exists _,.new j .refl
  let e:(HM (ws.map uw).length).map (λi=>((ws.map (LQ t b x y))[i]?).getD .non)=ws.map (LQ t b x y):=by
   have:=SD.range_getD (ws.map (LQ t b x y))
   rw[Ho]at this ⊢
   exact this
  dsimp only;rw[e];exact k
theorem jf:LN ["_law_pot_here","_law_shuts","_law_spot","_law_first","_law_second"] ["_law_pot_here","_law_shuts","_law_spot"] (ar kI):=⋯
inductive Nu:Prop
 |mk (r l:r4)(n:Nat)(g h:Int)(ws:vp)(p q:Int)(_:x_=.ref r)(_:y3=.ref l)(_:y4=.tup [.int p,.int q])(_:r≠l)(_:Gs g h)(_:M l=KA (.lst (ws.map (L4 g h))))(_:(∀w∈ws,L5 w))(_:ws.length<=40)(_:LY M r n)(_:n<700000)(_:(-1000<=p/\p<=1000))(_:(-1000<=q/\q<=1000))(_:∀(p q:Int) M',(-1000<=p/\p<=1000)->(-1000<=q/\q<=1000)->Kx [r] M M'->LY M' r (n+2)->Q (.tup [.int p,.int q]) M')
def vS(T:Tx K mg):Cal P w K mg base 2 "_law_far" (QD Nu):=by
 refine m5 (k:=1) T.c5 jf λf _ _ _ s H _ u=>#[_,(aj (aR (gQ (l9 (aD (bj u.units) (dv 1) (aV af)) (kZ (aD (fM u.units) (ao (aC T).m u (ae (dv 0) (ae ag af))) ag)))) (aq (ay (dv 2))) aF) (aj (bG (aB (dv 1) (ao (aC T).m u (ae (dv 0) (ae (aI bC rfl T.pa bA (ae (dv 1) af)) af)))) (bg rfl (ax (aw 3 jf.nd) (ax (aw 4 jf.nd) aS)))) (aq (ay (aJ (ae (av aU (av aP ag (aB (dv 4) ag)) (aB (dv 3) ag)) (ae (av aU (av aP ag (aB (dv 4) ag)) (aB (dv 3) ag)) af))))))),λ_ _ _ M Q h=>?_];let[r,l,n,g,a,ws,p,q,8,8,8,j,G,N,X,O,Y,hn,R,S,k]:=h;refine #[7,LR rfl,λz B=>?_];let b:(au M z (.lst [])) l=KA (.lst (ws.map (L4 g a))):=by rw[ak (az N B)];exact N
 let C:LY (au M z (.lst [])) r n:=Y.new B;let c:Kx [r] M (au M z (.lst [])):=Kx.refl.new B;exists _,_,.lst b (je g a ws),.lst ai .nil,eO g a ws,8,7;generalize au M z (.lst [])=x at b C c ⊢;rw[dH];refine aZ (λ_=>iK rfl #[7,LW (k p q x R S c (C.le ()))]) (λD=>?_)
 let U:0<ws.length:=by
  cases ws with
  |nil=>exact absurd rfl D
  |cons w ws=>simp
 refine #[7,r,3,n,8,8,C,(),⋯,aX ⋯,λv o h0 h1 F=>?_];let d:(au x r o) l=KA (.lst (ws.map (L4 g a))):=by rw[ak j.symm];exact b
 let i:Kx [r] M (au x r o):=c.upd (_);generalize au x r o=I at d F i ⊢;exists trivial,7;refine aZ (λ_=>#[7,LW (k p q I R S i (F.le ()))]) (λ_=>?_);refine #[7,7,7,_,d,r,_,n+1,8,8,F,(),(by rw[Ho];omega),aX (by rw[Ho];omega),λv2 V Z J W=>?_];let[w,hw,ew]:=lZ (g:=g) (h:=a) (ws:=ws) Z (by rw[Ho]at J;exact J);let t:Kx [r] M (au I r V):=i.upd (_);exists _,_,(by rw[ak j.symm];exact d),ew;generalize au I r V=M6 at W t ⊢;exists 7,8,_,7,_,7,8
 let y:∀{e:Int},(0<=e/\e<=20)->-24<=g*e-a/\g*e-a<=240:=λ{e} L=>by
  let J:0<=g*e:=Ko (by have:=G.g0;omega) L.1
  let a2:g*e<=12*20:=K8 G.g1 L.2 L.1 ⋯
  have:=G.h0
  have:=G.h1
  omega
 let[W1,W2,W3,W4,_]:=X w hw;let w1:=y W1;let w2:=y W2;let w3:=y W3;let w4:=y W4;exact #[7,7,a9 (aX ⋯),7,7,trivial,7,7,a9 (aX ⋯),7,7,trivial,LR rfl,LW (k _ _ _ (by dsimp only[ea,eb];omega) (by dsimp only[ea,eb];omega) t (W.le ()))]
theorem bw:LN ["_law_pot_here","_law_shuts","_law_kind","_law_x","_law_y","_law_first","_law_second","_law_k"] ["_law_pot_here","_law_shuts"] (ar gP):=⋯
inductive NG:Prop
 |mk (r l:r4)(n:Nat)(g h:Int)(ws:vp)(_:x_=.ref r)(_:y3=.ref l)(_:r≠l)(_:(0<=g/\g<=12))(_:(0<=h/\h<=24))(_:M l=KA (.lst (ws.map (L4 g h))))(_:(∀w∈ws,L5 w))(_:ws.length<=40)(_:LY M r n)(_:n<700000)(_:∀(p q:Int) M',(-1000<=p/\p<=1000)->(-1000<=q/\q<=1000)->Kx [r] M M'->LY M' r (n+9)->Q (.tup [.int p,.int q]) M')
def k7(T:Tx K mg):Cal P w K mg base 2 "_law_asked" (Li NG):=by
 refine bo (k:=1) T.c6 bw λf _ _ _ s H _ c=>#[_,(aj (aA 2 bw.nd (ao (aC T).m c (ae (dv 0) (ae ag af)))) (aj (fT 3 4 rfl bw.nd (ae (av aU (ao (aC T).m c (ae (dv 0) (ae ag af))) ag) (ae (av aU (ao (aC T).m c (ae (dv 0) (ae ag af))) ag) af))) (aj (aR (gQ (fg (aD (gL c.units) (dv 1) (aV af)) (dj (aD (b4 c.units) (dv 2) ag)))) (aj (bG (aB (dv 1) (ao (aC T).m c (ae (dv 0) (ae (aI bC rfl T.pa bA (ae (dv 1) af)) af)))) (bg rfl (ax (aw 5 bw.nd) (ax (aw 6 bw.nd) aS)))) (aj (bG (aB (aV (ae (dv 5) (ae (dv 6) af))) (ao (aC T).m c (ae (dv 0) (ae ag af)))) (bg rfl (ax (aw 3 bw.nd) (ax (aw 4 bw.nd) aS)))) (aj (aR (aD (bj c.units) (dv 2) ag) (aj (aA 7 bw.nd (av aL ag (ao (aC T).m c (ae (dv 0) (ae ag af))))) (aq (fT 3 4 rfl bw.nd (ae (av aL (aB (dv 5) ag) (av aP (av fy (av aU (aB (dv 6) ag) (aB (dv 5) ag)) ag) (dv 7))) (ae (av aL (aB (dv 5) ag) (av aP (av fy (av aU (aB (dv 6) ag) (aB (dv 5) ag)) ag) (dv 7))) af))))) aF) (aq (aR (aD (bj c.units) (dv 2) ag) (aq (fT 3 4 rfl bw.nd (ae (av aU (av aL (dv 3) (ao (aC T).m c (ae (dv 0) (ae ag af)))) ag) (ae (av aU (av aL (dv 4) (ao (aC T).m c (ae (dv 0) (ae ag af)))) ag) af)))) aF))))) aF) (aq (ay (aJ (ae (dv 3) (ae (dv 4) af)))))))),λ_ _ M Q h=>?_];let[r,l,n,g,a,ws,8,8,L,hg,hh,hl,hU,i0,P0,hn,k]:=h;refine #[7,r,5,n,8,8,P0,(),⋯,aX ⋯,λkd o h0 h1 P1=>?_];refine #[7,r,106,n+1,8,8,P1,(),⋯,aX ⋯,λx X x0 x1 P2=>?_];refine #[trivial,7,r,106,n+2,8,8,P2,(),⋯,aX ⋯,λy Y y0 y1 Z=>?_];let t:Kx [r] M (au (au (au M r o) r X) r Y):=((Kx.refl.upd (_)).upd (_)).upd (_);let u:(au (au (au M r o) r X) r Y) l=KA (.lst (ws.map (L4 g a))):=t _ _ ‹L.symm› hl;generalize au (au (au M r o) r X) r Y=U at t u Z ⊢;clear P0 P1 P2 hl;exists trivial,_,7;(try dsimp only[SD.aK])
 refine cE (λδ B=>Qe λ(p q:Int) (C d F:v9)=>Q4 (δ=[KA (.ref r),KA (.ref l),KA (.int kd),KA (.int p),KA (.int q),C,d,F]) (-1000<=p/\p<=1000) (-1000<=q/\q<=1000) (Kx [r] M B) (LY B r (n+9))) ?_ (λV=>?_)
 .rintro f0 B ⟨p,q,C,d,F,rfl,hp,hq,kx,P⟩;exact #[7,7,LR rfl,LW (k p q B hp hq kx P)]
 refine #[7,LR rfl,λz hz=>?_];let i:(au U z (.lst [])) l=KA (.lst (ws.map (L4 g a))):=by rw[ak (az u hz)];exact u
 let N:LY (au U z (.lst [])) r (n+3):=Z.new hz;let j:Kx [r] M (au U z (.lst [])):=t.new hz;exists _,_,.lst i (je g a ws),.lst ai .nil,eO g a ws,8,7;generalize au U z (.lst [])=M4 at i N j ⊢;clear u Z t;rw[dH];refine aZ (λg0=>?_) (λ_=>gr rfl (V _ _ #[_,_,_,_,7,(),(),j,N.le ()]))
 let k0:0<ws.length:=by
  cases ws with
  |nil=>simp at g0
  |cons w ws=>simp
 exists 7,trivial,7;refine aZ (λhk=>?_) (λ_=>V _ _ #[_,_,_,_,7,(),(),j,N.le ()]);refine #[7,7,7,_,i,r,_,n+3,8,8,N,(),(by rw[Ho];omega),aX (by rw[Ho];omega),λv2 o4 a0 a1 W=>?_];let[w,hw,ew]:=lZ (g:=g) (h:=a) (ws:=ws) a0 (by rw[Ho]at a1;exact a1);let G:Kx [r] M (au M4 r o4):=j.upd (_);exists _,_,(by rw[ak L.symm];exact i),ew;generalize au M4 r o4=M5 at W G ⊢;exists 7,8,_,7,_,7,8;refine #[7,7,LR rfl,λO v=>?_];refine #[7,r,2,n+4,8,8,W.new v,(),⋯,aX ⋯,λv3 d b0 b1 P6=>?_];let[p,bp,ep]:=uH (g:=g) (h:=a) (hU w hw) b0 b1;let I:Kx [r] M (au (au M5 O (.lst [gp g a (ea w),gp g a (eb w)])) r d):=(G.new v).upd (_);let R:(au (au M5 O (.lst [gp g a (ea w),gp g a (eb w)])) r d) O=KA (.lst [gp g a (ea w),gp g a (eb w)]):=by rw[ak (W.ne v).symm,ai]
 exists _,_,R,ep;generalize au (au M5 O (.lst [gp g a (ea w),gp g a (eb w)])) r d=M6 at P6 I ⊢;exists 7,8,_,7,_,7,8;clear R v W G N j i
 let J:∀{e:Int},(0<=e/\e<=20)->-24<=g*e-a/\g*e-a<=240:=λ{e} he=>by
  let a1:0<=g*e:=Ko hg.1 he.1
  let a2:g*e<=12*20:=K8 hg.2 he.2 he.1 ⋯
  omega
 let[W1,W2,W3,W4,_]:=hU w hw;let q1:=J bp.1;let q2:=J bp.2;let w1:=J W1;let w2:=J W2;let w3:=J W3;let w4:=J W4;(try dsimp only[SD.aK])
 refine cE (λδ B=>Qe λ(p q:Int) (C d F:v9)=>Q4 (δ=[KA (.ref r),KA (.ref l),KA (.int kd),KA (.int p),KA (.int q),C,d,F]) (-900<=p/\p<=900) (-900<=q/\q<=900) (Kx [r] M B) (LY B r (n+6))) ?_ (λS=>?_)
 .rintro f0 B ⟨p,q,C,d,F,rfl,hp,hq,kx,P⟩;exists 7,7;refine aZ (λ_=>?_) (λ_=>V _ _ #[p,q,C,d,F,8,(),(),kx,P.le ()]);refine #[7,7,r,3,n+6,8,8,P,(),⋯,aX ⋯,λv7 o8 c0 c1 P7=>?_];refine #[trivial,7,7,r,3,n+7,8,8,P7,(),⋯,aX ⋯,λv8 o9 d0 d1 P8=>?_];exact #[trivial,_,7,V _ _ #[_,_,C,d,F,8,(),(),(kx.upd (_)).upd (_),P8.le ()]]
 exists 7,7;refine aZ (λ_=>?_) (λ_=>S _ _ #[_,_,_,_,7,(),(),I,P6.le ()]);refine #[7,r,5,n+5,8,8,P6,(),⋯,aX ⋯,λb o9 e0 e1 P9=>?_];let fb:∀{e:Int},-264<=e->e<=264->-220<=e.fdiv 6*(1+b)/\e.fdiv 6*(1+b)<=220:=λ{e} z1 O=>by rw[Ir _ ⋯];rcases(():b=0\/b=1\/b=2\/b=3\/b=4)with rfl|rfl|rfl|rfl|rfl<;>omega
 let m9:∀{e:Int},PySem.IntMulOk e (1+b):=λ{e}=>tR (show(1+b).natAbs<2^64 by omega);let f1:-220<=(g*(eb w).1-a-(g*(ea w).1-a)).fdiv 6*(1+b)/\(g*(eb w).1-a-(g*(ea w).1-a)).fdiv 6*(1+b)<=220:=fb (by dsimp only[ea,eb];omega) (by dsimp only[ea,eb];omega);let f2:-220<=(g*(eb w).2-a-(g*(ea w).2-a)).fdiv 6*(1+b)/\(g*(eb w).2-a-(g*(ea w).2-a)).fdiv 6*(1+b)<=220:=fb (by dsimp only[ea,eb];omega) (by dsimp only[ea,eb];omega);exists 7,7,7,7,7,7,trivial,#[⋯,aX ⋯],7,m9;exact #[7,7,7,7,7,7,trivial,#[⋯,aX ⋯],7,m9,_,7,S _ _ #[_,_,_,_,7,by dsimp only[ea,eb]at f1 ⊢;omega,by dsimp only[ea,eb]at f2 ⊢;omega,I.upd (_),P9.le ()]]
theorem bK:LN ["_law_pot_here","_law_shuts","_law_corners_here","_law_spot","_law_looks","_law_k","_law_number"] ["_law_pot_here","_law_shuts","_law_corners_here","_law_spot"] (ar dE):=⋯
inductive MI:Prop
 |mk (r l zc:r4)(n:Nat)(g h:Int)(ws:vp)(ps:List Vc)(p q:Int)(_:x_=.ref r)(_:y3=.ref l)(_:y4=.ref zc)(_:y_=.tup [.int p,.int q])(_:r≠l)(_:r≠zc)(_:Gs g h)(_:M l=KA (.lst (ws.map (L4 g h))))(_:M zc=KA (.lst (ps.map (gp g h))))(_:(∀w∈ws,L5 w))(_:ws.length<=40)(_:ps.length<=80)(_:(ws≠[]->ps≠[]))(_:LY M r n)(_:n<600000)(_:∀(M':MH)(z:r4)(zs:List Lk),Kx [r] M M'->M z=KC->M' z=KA (.lst (zs.map L9))->zs.length<=13->LY M' r (n+40)->Q (.ref z) M')
def kT(T:Tx K mg):Cal P w K mg base 2 "_law_some_looks" (Qs MI):=by
 refine tU (k:=1) T.c_ bK λf _ _ _ s H _ J=>#[_,(aj (aA 4 bK.nd (aV af)) (aj (gh HR rfl rfl T.p_ (ae (ao (aC T).m J (ae (dv 0) (ae ag af))) af) (aw 5 bK.nd) (aq (aR (gQ (fg (aD (gL J.units) (dv 1) (aV af)) (dj (aD (bj J.units) (ao (aC T).m J (ae (dv 0) (ae ag af))) ag)))) (aj (aA 6 bK.nd (ao (aC T).m J (ae (dv 0) (ae (aI bC rfl T.pa bA (ae (dv 1) af)) af)))) (aq (cg (bE (dv 4) (ae (aJ (ae bF (ae (dv 6) (ae (ao (cP T).m J (ae (aB (dv 1) (dv 6)) (ae (dv 3) af))) af)))) af))))) (aq (aR (aD (gL J.units) (dv 1) (aV af)) (aj (aA 6 bK.nd (ao (aC T).m J (ae (dv 0) (ae (aI bC rfl T.pa bA (ae (dv 2) af)) af)))) (aq (cg (bE (dv 4) (ae (aJ (ae bF (ae (dv 6) (ae (av aU (bJ kj rfl T.oD jW (ae (bW (fM J.units) (dv 3) (aB (dv 2) (dv 6))) af)) (bJ kj rfl T.oD jW (ae (bW (b4 J.units) (dv 3) (aB (dv 2) (dv 6))) af))) af)))) af))))) aF))))) (aq (ay (dv 4))))),λ_ _ _ _ M Q h=>?_];let[r,l,zc,n,g,a,ws,ps,p,q,8,8,8,8,W,X,G,hl,r0,hU,t0,u0,s0,P0,hn,k]:=h;refine #[LR rfl,λz hz=>?_];let b:z≠r:=(P0.ne hz).symm;let Y:Kx [r] M (au M z (.lst [])):=Kx.refl.new hz;let P1:LY (au M z (.lst [])) r n:=P0.new hz;let Z:(au M z (.lst [])) z=KA (.lst (([]:List Lk).map L9)):=ai;generalize au M z (.lst [])=M1 at Y P1 Z ⊢;(try dsimp only[SD.aK])
 refine #[7,r,13,n,8,8,P1,(),⋯,aX ⋯,λm o m0 m1 P2=>?_];obtain⟨mm,rfl⟩:∃mm:Nat,m=(mm:Int):=#[m.toNat,()];exists mm,8,(),λi δ x=>OJ λ(d:List Lk) (o5 o6:v9)=>Q4 (δ=[KA (.ref r),KA (.ref l),KA (.ref zc),KA (.tup [.int p,.int q]),KA (.ref z),o5,o6]) (Kx [r] M x) (x z=KA (.lst (d.map L9))) (d.length<=i) (LY x r (n+1+2*i)),#[[],_,7,Y.upd (_),by rw[ak b];exact Z,Hu _,P2],?_;rotate_left
 .rintro δ x ⟨d,o5,o6,rfl,kx,N,zl,P⟩;exact #[7,LW (k x z d kx hz N () (P.le ()))]
 rintro i δ x hi ⟨d,o5,o6,rfl,kx,N,zl,P⟩;(try dsimp only[SD.aK])
 let b0:=kx l _ ‹W.symm› hl;let i0:=kx zc _ ‹X.symm› r0;refine #[7,LR rfl,λy t=>?_];let L:SD.Sub x (au x y (.lst [])):=.new t .refl;let P3:LY (au x y (.lst [])) r (n+1+2*i):=P.new t;exists _,_,.lst (L _ _ b0) (je g a ws),.lst ai .nil,eO g a ws,8,7;let B:=L _ _ b0;let c0:=L _ _ i0;let C:=L _ _ N;let O:=kx.sub L;generalize au x y (.lst [])=M3 at B c0 C O P3 ⊢;clear L b0 i0 N kx P t x P2 P1 Z Y M1;rw[dH];refine aZ (λR=>?_) (λR=>gr rfl ?_);rotate_left
 .refine #[7,LR rfl,λy t=>#[_,_,.lst (by rw[ak (az B t)];exact B) (je g a ws),.lst ai .nil,eO g a ws,8,7,?_]];rw[dH];refine gr (eq_false_of_ne_true R) ?_;exact #[d,_,7,O.new t,by rw[ak (az C t)];exact C,(),(P3.new t).le ()]
 let U:ws≠[]:=λe=>by subst e;simp at R
 let w0:=List.length_pos_iff.mpr U;let x0:=List.length_pos_iff.mpr (s0 U);refine #[7,r,2,n+1+2*i,8,8,P3,(),⋯,aX ⋯,λv o v0 v1 P4=>?_];let F:(au M3 r o) l=KA (.lst (ws.map (L4 g a))):=by rw[ak W.symm];exact B
 let k0:(au M3 r o) zc=KA (.lst (ps.map (gp g a))):=by rw[ak X.symm];exact c0
 let d0:(au M3 r o) z=KA (.lst (d.map L9)):=by rw[ak b];exact C
 let e0:Kx [r] M (au M3 r o):=O.upd (_);generalize au M3 r o=V at F k0 d0 e0 P4 ⊢;clear B c0 C O P3 M3;exists 7;let n0:(d.map L9).length<1000000:=by rw[Ho];omega
 refine aZ (λ_=>?_) (λ_=>?_)
 .refine #[7,7,_,F,r,_,n+1+2*i+1,8,8,P4,(),(by rw[Ho];omega),aX (by rw[Ho];omega),λv2 S a0 a1 P5=>?_];let[w,hw,ew]:=lZ (g:=g) (h:=a) (ws:=ws) a0 (by rw[Ho]at a1;exact a1);let o0:(au V r S) l=KA (.lst (ws.map (L4 g a))):=by rw[ak W.symm];exact F
  let c:(au V r S) z=KA (.lst (d.map L9)):=by rw[ak b];exact d0
  let I:Kx [r] M (au V r S):=e0.upd (_);generalize au V r S=M5 at o0 c I P5 ⊢;exists 7,z,7,c,7,7,7,_,_,o0,ew,7,g,a,w,p,q,7,8,G,hU w hw,8,LR rfl,_,7,c,n0;exact #[d++([(#["wall",xU (.inr rfl)],v2,HW (sd (raw g a w) p q))]:List Lk),_,7,I.up hz,by rw[ai,Ib];rfl,by simp;omega,(P5.upd b.symm).le ()]
 .refine #[7,LR rfl,λy t=>#[_,_,.lst (by rw[ak (az F t)];exact F) (je g a ws),.lst ai .nil,eO g a ws,8,7,?_]];rw[dH];refine iK R ?_;let L:SD.Sub V (au V y (.lst [])):=.new t .refl;let P5:LY (au V y (.lst [])) r (n+1+2*i+1):=P4.new t;let f0:=L _ _ k0;let c:=L _ _ d0;let I:=e0.sub L;generalize au V y (.lst [])=M5 at f0 c I P5 ⊢;refine #[7,7,_,f0,r,_,n+1+2*i+1,8,8,P5,(),(by rw[Ho];omega),aX (by rw[Ho];omega),λv2 S a0 a1 P6=>?_];obtain⟨j,rfl⟩:∃j:Nat,v2=(j:Int):=#[v2.toNat,()];let jl:j<ps.length:=by rw[Ho]at a1;omega
  let ej:=Ht jl;let ea:atI (ps.map (gp g a)) (j:Int)=KA (gp g a ps[j]):=aW (by rw[Hv,ej];rfl);generalize ps[j]=u at ea;let g0:(au M5 r S) zc=KA (.lst (ps.map (gp g a))):=by rw[ak X.symm];exact f0
  let h0:(au M5 r S) z=KA (.lst (d.map L9)):=by rw[ak b];exact c
  let q0:Kx [r] M (au M5 r S):=I.upd (_);generalize au M5 r S=M6 at g0 h0 q0 P6 ⊢;exists 7,z,7,h0,7,7,7,7,_,_,g0,ea,[p,q],[g*u.1-a,g*u.2-a],8,8,7,7,7,_,_,g0,ea,[p,q],[g*u.1-a,g*u.2-a],8,8,trivial,LR rfl,_,7,h0,n0;exact #[d++([(#["corner",xU (.inl rfl)],(j:Int),pG p q (gq g a u))]:List Lk),_,7,q0.up hz,by rw[ai,Ib];rfl,by simp;omega,(P6.upd b.symm).le ()]
theorem rM:LN ["one","other"] ["one","other"] (ar j5):=⋯
inductive Nv:Prop
 |mk (q r:Rat)(_:x_=LI q)(_:y3=LI r)(_:Ky 100000 q)(_:Ky 100000 r)(_:Q (.bl (decide (q<r))) M)
def nX(T:Tx K mg):Cal P w K mg base 1 "is_less" (Li Nv):=by refine bo (k:=0) T.dd rM λf _ _ _ s H _ a=>#[_,(aq (ay (bW (b4 a.units) (av aP (aB (dv 0) ag) (aB (dv 1) ag)) (av aP (aB (dv 1) ag) (aB (dv 0) ag))))),λ_ _ M Q h=>?_];let[q,r,8,8,h1,h2,k]:=h;exists 7,7,7,7,fE (h1.1.mono ⋯) (h2.2.mono ⋯);exists 7,7,7,7,fE (h2.1.mono ⋯) (h1.2.mono ⋯),trivial;dsimp only;rw[Ma.Fj];exact LW k
theorem pZ:LN ["one","other"] ["one","other"] (ar i9):=⋯
inductive Nf:Prop
 |mk (a b c d:Rat)(_:x_=LH a b)(_:y3=LH c d)(_:Ky 100000 a)(_:Ky 100000 b)(_:Ky 100000 c)(_:Ky 100000 d)(_:Q (.bl (decide (a<c\/a=c/\b<d))) M)
def cx(T:Tx K mg):Cal P w K mg base 2 "is_ahead" (Li Nf):=by
 refine bo (k:=1) T.dt pZ λf _ _ _ s H _ g=>#[_,(aj (aR (aD (bj g.units) (aB (dv 0) ag) (aB (dv 1) ag)) (aq (ay (ao (nX T).m g (ae (aB (dv 0) ag) (ae (aB (dv 1) ag) af))))) aF) (aq (ay (ao (nX T).m g (ae (aB (dv 0) ag) (ae (aB (dv 1) ag) af)))))),λ_ _ M Q h=>?_];let[a,b,c,d,8,8,h1,h2,i,j,k]:=h;exists 7,7,7,7,_,_,Pd.of rfl,Pd.of rfl,8,8;rw[Ma.rH];exists 7;refine aZ (λh=>?_) (λh=>?_)
 .have e:a=c:=‹h›
  subst e;exists 7,7,7,7,b,d,8,8,h2,j
  let z:(a<a\/a=a/\b<d)↔b<d:=by
   have:=Rat.lt_irrefl (a:=a)
   simp[this]
  rw[decide_eq_decide.mpr z]at k;exact LW k
 .have e:¬a=c:=‹h›
  exists 7,7,7,7,a,c,8,8,h1,i;let z:(a<c\/a=c/\b<d)↔a<c:=by simp[e]
  rw[decide_eq_decide.mpr z]at k;exact LW k
theorem jO:LN ["corner","spot"] ["corner","spot"] (ar dG):=⋯
inductive MG:Prop
 |mk (a b c d:Rat)(_:x_=LH a b)(_:y3=LH c d)(_:Ky 100000 a)(_:Ky 100000 b)(_:Ky 100000 c)(_:Ky 100000 d)(_:Q (.int (if decide (c<a\/c=a/\d<b)=KD then -1 else if decide (a<c\/a=c/\b<d)=KD then 1 else 0)) M)
def fZ(T:Tx K mg):Cal P w K mg base 3 "side_at_corner" (Li MG):=by
 refine bo (k:=2) T.dy jO λf _ _ _ s H _ g=>#[_,(aj (aR (dW (ao (cx T).m g (ae (dv 1) (ae (dv 0) af)))) (aq (ay (iO dO ag))) aF) (aq (ay (jj (dW (ao (cx T).m g (ae (dv 0) (ae (dv 1) af)))) ag ag)))),λ_ _ M Q h=>?_];let[a,b,c,d,8,8,i,j,l,hd,k]:=h;exists 7,7,c,d,a,b,8,8,l,hd,i,j,7;refine aZ (λe=>?_) (λe=>?_)
 .rw[KI e]at k;exact LW k
 rw[KH e]at k;exists 7,7,a,b,c,d,8,8,i,j,l,hd,7;refine aZ (λe=>?_) (λe=>?_)
 .rw[KI e]at k;exact LW k
 .rw[KH e]at k;exact LW k
theorem CP:LN ["one","other"] ["one","other"] (ar xX):=⋯
inductive Q2:Prop
 |mk (t1 b1 t2 b2:Int)(_:x_=.tup [.int t1,.int b1])(_:y3=.tup [.int t2,.int b2])(_:Bd 1000000 t1)(_:Bd 1000000 b1)(_:Bd 1000000 t2)(_:Bd 1000000 b2)(_:Q (.tup [.int (t1*b2-t2*b1),.int (b1*b2)]) M)
def rh(T:Tx K mg):Cal P w K mg base 1 "gap" (Li Q2):=by refine bo (k:=0) T.dV CP λf _ _ _ s H _ c=>#[_,(aq (ay (aJ (ae (av aU (av aP (aB (dv 0) ag) (aB (dv 1) ag)) (av aP (aB (dv 1) ag) (aB (dv 0) ag))) (ae (av aP (aB (dv 0) ag) (aB (dv 1) ag)) af))))),λ_ _ M Q h=>?_];let[t1,b1,d,e,8,8,h1,h2,b,a,k]:=h;exists 7,7,7,7,fE h1 a,7,7,7,7,fE b h2,trivial;exact #[7,7,7,7,fE h2 a,LR rfl,LW k]
theorem eE:LN ["wall","spot","a","b","c","d","x","y","across","up","along","high"] ["wall","spot"] (ar rY):=⋯
inductive QA:Prop
 |mk (n:Nat)(a b c d x y:Rat)(_:x_=Kv a b c d)(_:y3=LH x y)(_:Ky n a)(_:Ky n b)(_:Ky n c)(_:Ky n d)(_:Ky n x)(_:Ky n y)(_:n<=20000)(_:∀t e:Int,0<e->Rat.divInt t e=LB a b c d x y->Bd (8*n+3) t->Bd (8*n+3) e->Q (.tup [.int t,.int e]) M)
def CS(T:Tx K mg):Cal P w K mg base 2 "lean" (Li QA):=by
 refine bo (k:=1) T.d_ eE λf _ _ _ s H _ o=>#[_,(aj (bG (dv 0) (bg rfl (ax (bg rfl (ax (aw 2 eE.nd) (ax (aw 3 eE.nd) aS))) (ax (bg rfl (ax (aw 4 eE.nd) (ax (aw 5 eE.nd) aS))) aS)))) (aj (bG (dv 1) (bg rfl (ax (aw 6 eE.nd) (ax (aw 7 eE.nd) aS)))) (aj (fT 8 9 rfl eE.nd (ae (ao (rh T).m o (ae (dv 4) (ae (dv 2) af))) (ae (ao (rh T).m o (ae (dv 5) (ae (dv 3) af))) af))) (aj (fT 10 11 rfl eE.nd (ae (ao (rh T).m o (ae (dv 6) (ae (dv 2) af))) (ae (ao (rh T).m o (ae (dv 7) (ae (dv 3) af))) af))) (aq (ay (ao (rh T).m o (ae (aJ (ae (av aP (aB (dv 8) ag) (aB (dv 11) ag)) (ae (av aP (aB (dv 8) ag) (aB (dv 11) ag)) af))) (ae (aJ (ae (av aP (aB (dv 9) ag) (aB (dv 10) ag)) (ae (av aP (aB (dv 9) ag) (aB (dv 10) ag)) af))) af))))))))),λ_ _ M Q h=>?_];let[n,a,b,c,d,x,y,8,8,g,j,p,hd,hx,t,F,k]:=h;let e:∀{m:Nat}{i:Int},Bd m i->m<=1000000->Bd 1000000 i:=λz l=>z.mono l;let v:=p.tI g;let B:=hd.tI j;let C:=hx.tI g;let D:=t.tI j;let e1:=p.2.mul g.2;let e2:=hd.2.mul j.2;let e3:=hx.2.mul g.2;let e4:=t.2.mul j.2;refine #[7,7,8,_,7,#[7,8,_,7,_,7,8,?_]];refine #[_,7,#[7,8,_,7,_,7,8,?_]];exists 8,7,7,8,_,7,_,7,8;exists 7,7,_,_,_,7,8,e p.1 (),e p.2 (),e g.1 (),e g.2 ();exists 7,7,_,_,_,7,8,e hd.1 (),e hd.2 (),e j.1 (),e j.2 ();exists _,7;exists 7,7,_,_,_,7,8,e hx.1 (),e hx.2 (),e g.1 (),e g.2 ();exists 7,7,_,_,_,7,8,e t.1 (),e t.2 (),e j.1 (),e j.2 ();exists _,7;exists 7,7,7,7,fE (e v ()) (e D ());exists 7,7,7,7,fE (e e1 ()) (e e4 ()),LR rfl;exists 7,7,7,7,fE (e B ()) (e C ());exists 7,7,7,7,fE (e e2 ()) (e e3 ()),LR rfl;exists _,_,_,7,8,e (v.mul D) (),e (e1.mul e4) (),e (B.mul C) (),e (e2.mul e3) ();let u:∀q r:Rat,0<(q.den:Int)*(r.den:Int):=λq r=>IZ (LJ q) (LJ r);refine LW (k _ _ (IZ (IZ (u c a) (u y b)) (IZ (u d b) (u x a))) (Ma.AB a b c d x y) ?_ ?_)
 .exact((((v.mul D).mul (e2.mul e3)).mono (():_<=8*n+2)).sub (((B.mul C).mul (e1.mul e4)).mono (():_<=8*n+2)))
 .exact((e1.mul e4).mul (e2.mul e3)).mono ()
theorem mH:LN ["wall","spot","top"] ["wall","spot"] (ar kf):=⋯
inductive Nr:Prop
 |mk (n:Nat)(a b c d x y:Rat)(_:x_=Kv a b c d)(_:y3=LH x y)(_:Ky n a)(_:Ky n b)(_:Ky n c)(_:Ky n d)(_:Ky n x)(_:Ky n y)(_:n<=1900)(_:Q (.int (LC (LB a b c d x y))) M)
def cV(T:Tx K mg):Cal P w K mg base 3 "side_of" (Li Nr):=by
 refine bo (k:=2) T.ec mH λf _ _ _ s H _ g=>#[_,(aj (aA 2 mH.nd (aB (ao (CS T).m g (ae (dv 0) (ae (dv 1) af))) ag)) (aj (aR (aD (fM g.units) (dv 2) ag) (aq (ay ag)) aF) (aj (aR (aD (b4 g.units) (dv 2) ag) (aq (ay (iO dO ag))) aF) (aq (ay ag))))),λ_ _ M Q h=>?_];let[n,a,b,c,d,x,y,8,8,j,l,o,hd,hx,p,r,k]:=h;refine #[7,7,n,a,b,c,d,x,y,8,8,j,l,o,hd,hx,p,(),λt e q i _ _=>#[7,?_]];rw[<-i,Ma.AK q]at k;exists 7,trivial,7;refine aZ (λh=>?_) (λh=>?_)
 .rw[KI ‹h›]at k;exact LW k
 rw[KH ‹h›]at k;exists 7,trivial,7;refine aZ (λh=>?_) (λh=>?_)
 .rw[KI ‹h›]at k;exact LW k
 .rw[KH ‹h›]at k;exact LW k
theorem mZ:LN ["self","word","number","spot"] ["self","word","number","spot"] (ar fR):=⋯
def c8(K:Hm):Lo:=λd M Q=>match d with
 |[s,x,y,z]=>∃(a:r4) (t b X Y:Int) (ws:vp) (ps:List Vc) (g m r:D) (u:Str) (k:Nat) (e f:Rat),s=.ref a/\x=.str u/\y=.int (k:Int)/\z=LH e f/\M a=KA (dn (cl K "Steps") (Nx (.tup (ws.map (LQ t b X Y))) (ps.map (L6 t b X Y)) g m r))/\Lm t b X Y/\(∀w∈ws,L5 w)/\(∀c∈ps,(0<=c.1/\c.1<=20)/\(0<=c.2/\c.2<=20))/\Ky 400 e/\Ky 400 f/\(u="corner"/\k<ps.length\/u="wall"/\k<ws.length)/\∀s:Int,(s=-1\/s=0\/s=1)->Q (.int s) M
 |_=>False
theorem my(K:Hm):∀ds M Q,(c8 K) ds M Q->ds.length=4:=λds M Q h=>by
 unfold c8 at h;split at h
 .rfl
 .exact h.elim
def nJ(T:Tx K mg):tm P w K mg base 4 (cl K "Steps") "side_at" (c8 K):=by
 refine Ff (k:=3) (N:=["self","word","number","spot"]) (ps:=["self","word","number","spot"]) T.rf mZ (λ_ _ _ _ _ _ us q=>by let[_,_,_,_,8]:=SD.Fo q;rfl) (my K) λf _ _ _ s H _ j=>#[_,(aj (aR (aD (kJ j.units) (dv 1) bF) (aq (ay (ao (fZ T).m j (ae (aB (dN (dv 0)) (dv 2)) (ae (dv 3) af))))) aF) (aq (ay (ao (cV T).m j (ae (aB (dN (dv 0)) (dv 2)) (ae (dv 3) af)))))),λJ M Q h=>?r]
 case r=>
  unfold c8 at h
  split at h
  case h_2=>exact h.elim
  let[a,t,b,X,Y,ws,ps,g,m,r,u,i,e,f,8,8,8,8,n,S,v,x,o,p,y,k]:=h
  let one:(0:Int)<1/\(1:Int)<=10^6:=⋯
  let c:∀{z:Int},(0<=z/\z<=20)->-(10^6)<=z/\z<=10^6:=λh=>()
  rcases y with⟨rfl,d⟩|⟨rfl,d⟩
  .exists 7,7;refine iK (by rfl) ?_;let[B,C]:=x _ (Iq d);let l:(ps.map (L6 t b X Y))[i]?=KA (L6 t b X Y ps[i]):=by rw[Hv,Ht d];rfl
   exact #[7,a,_,_,7,n,T.cl_Steps,T.na_corners,8,7,_,aW l,7,_,_,e,f,8,8,(S.bx one (c B)).mono ⋯,(S.by' one (c C)).mono ⋯,o.mono ⋯,p.mono ⋯,LW (k _ (by split;exact .inl rfl;split;exact .inr (.inr rfl);exact .inr (.inl rfl)))]
  .exists 7,7;refine gr (by rfl) ?_;let[D,F,G,I,_]:=v _ (Iq d);let l:(ws.map (LQ t b X Y))[i]?=KA (LQ t b X Y ws[i]):=by rw[Hv,Ht d];rfl
   refine #[7,a,_,_,7,n,T.cl_Steps,T.na_plot,8,7,_,aW l,7,400,_,_,_,_,e,f,8,8,(S.bx one (c D)).mono ⋯,(S.by' one (c F)).mono ⋯,(S.bx one (c G)).mono ⋯,(S.by' one (c I)).mono ⋯,o,p,⋯,LW (k _ ?_)];unfold LC;split
   .exact .inr (.inr rfl)
   .split
    .exact .inl rfl
    .exact .inr (.inl rfl)
theorem ck:LN ["guide","side","word","number","before","past"] ["guide","side"] (ar fQ):=⋯
inductive Mj:Prop
 |mk (c w n:Nat)(k:Nat)(b p:D)(s:Int)(u:Str)(_:x_=.tup [.str "look",.str u,.int (k:Int),b,p])(_:y3=.int s)(_:Gd c w n b)(_:Gd c w n p)(_:(s=-1\/s=0\/s=1))(_:∀d,Gd c w n d->Q d M)
def nj(T:Tx K mg):Cal P w K mg base 1 "guide_after" (Li Mj):=by
 refine bo (k:=0) T.ef ck λf _ _ _ s H _ a=>#[_,(aj (bG (cn (dv 0) (cD ag) eD) (bg rfl (ax (aw 2 ck.nd) (ax (aw 3 ck.nd) (ax (aw 4 ck.nd) (ax (aw 5 ck.nd) aS)))))) (aj (aR (aD (bj a.units) (dv 1) ag) (aq (ay (aJ (ae bF (ae (aJ (ae (dv 2) (ae (dv 3) af))) af))))) aF) (aj (aR (aD (bj a.units) (dv 1) (iO dO ag)) (aq (ay (dv 4))) aF) (aj (aR (aD (bj a.units) (dv 1) ag) (aq (ay (dv 5))) aF) (aq (ay jt)))))),λ_ _ M Q h=>?_];let[c,w,n,g,b,p,s,u,8,8,d,e,i,k]:=h;exists 7,1,8,(λh=>absurd h.1 (⋯:¬(HT.sIx 5 0 (KA 1)=0))),7,8,_,7,_,7,_,7,_,7,8;exists 7,7;refine aZ (λ_=>?_) (λh0=>?_)
 .exact #[7,7,LR rfl,LR rfl,LW (k _ (.told _))]
 exists 7,7;refine aZ (λ_=>?_) (λh1=>?_)
 .exact #[7,LW (k _ d)]
 exists 7,7;refine aZ (λ_=>?_) (λh2=>?_)
 .exact #[7,LW (k _ e)]
 exfalso;let h0:¬s=0:=‹h0›
 let h1:¬s=-1:=‹h1›
 let h2:¬s=1:=‹h2›
 omega
theorem bU:LN ["self","spot","made","guide","word","number","side"] ["self","spot"] (ar gU):=⋯
def eJ(K:Hm):Lo:=λi M Q=>match i with
 |[s,z]=>∃(a:r4) (t b X Y:Int) (ws:vp) (ps:List Vc) (g m r:D) (n:Nat) (e f:Rat),s=.ref a/\z=LH e f/\M a=KA (dn (cl K "Steps") (Nx (.tup (ws.map (LQ t b X Y))) (ps.map (L6 t b X Y)) g m r))/\Lm t b X Y/\(∀w∈ws,L5 w)/\(∀c∈ps,(0<=c.1/\c.1<=20)/\(0<=c.2/\c.2<=20))/\Ky 400 e/\Ky 400 f/\Gd ps.length ws.length n g/\n<=1000/\∀(d:MH)(p:r4)(h:List Lk),SD.Sub M d->M p=KC->d p=KA (.lst (h.map L9))->h.length<=n->Q (.ref p) d
 |_=>False
theorem pU(K:Hm):∀ds M Q,(eJ K) ds M Q->ds.length=2:=λds M Q h=>by
 unfold eJ at h;split at h
 .rfl
 .exact h.elim
def qc(T:Tx K mg):tm P w K mg base 5 (cl K "Steps") "looks" (eJ K):=by
 refine Ff (k:=4) (N:=["self","spot","made","guide","word","number","side"]) (ps:=["self","spot"]) T.ri bU (λ_ _ _ _ _ _ us G=>by let[_,_,8]:=SD.pV G;rfl) (pU K) λf _ _ _ s H _ z=>#[_,(aj (aA 2 bU.nd (aV af)) (aj (aA 3 bU.nd (dN (dv 0))) (aj (fX HR (aD (kJ z.units) (aB (dv 3) ag) bF) (aj (bG (cn (dv 3) (cD ag) (cD ag)) (bg rfl (ax (aw 4 bU.nd) (ax (aw 5 bU.nd) aS)))) (aj (aA 6 bU.nd (ue T.cl_Steps ((nJ T).mono ⋯) z (dv 0) (ae (dv 4) (ae (dv 5) (ae (dv 1) af))))) (aj (cg (bE (dv 2) (ae (aJ (ae (dv 4) (ae (dv 5) (ae (dv 6) af)))) af))) (aq (aA 3 bU.nd (ao (nj T).m z (ae (dv 3) (ae (dv 6) af))))))))) (aq (ay (dv 2)))))),λds M Q h=>?r]
 case r=>
  unfold eJ at h
  split at h
  case h_2=>exact h.elim
  let[a,t,b,X,Y,ws,ps,g,m,r,n,e,f,8,8,B,S,O,R,U,V,W,hn,k]:=h
  refine #[LR rfl,λp u=>?_]
  let l:SD.Sub M (au M p (.lst [])):=.new u .refl
  exists 7,a,_,_,7,l _ _ B,T.cl_Steps,T.na_guide,8
  (try dsimp only[SD.aK])
  refine #[λj δ y=>Qe λ(gd:D) (xs:List Lk) (I J L:v9)=>Q4 (δ=[KA (.ref a),KA (LH e f),KA (.ref p),KA gd,I,J,L]) (∀c o,c≠p->M c=KA o->y c=KA o) (y p=KA (.lst (xs.map L9))) (Gd ps.length ws.length j gd) (j+xs.length<=n),#[n,g,[],_,_,7,λc o C h=>l _ _ h,ai,W,by simp],?_]
  rintro j δ y ⟨gd,xs,I,J,L,rfl,kM,i,Z,G⟩
  let F:a≠p:=az B u
  let q:=kM a _ F B
  exists 7
  cases Z with
  |told v=>
   exists 7,7
   refine gr ⋯ ?_
   exact #[7,LW (k y p xs (λc o h=>kM c o (az h u) h) u i ())]
  |@look j' b1 p1 x k' hk hb1 hp1=>
   exists 7,7
   refine iK ⋯ ?_
   exists 7,1,8,3,8,(λh=>absurd h.1 (⋯:¬(HT.sIx 5 0 (KA 1)=0))),7,8,_,7,_,7,8
   refine #[7,a,7,q,8,7,7,7,a,t,b,X,Y,ws,ps,g,m,r,x,k',e,f,8,8,8,8,q,S,O,R,U,V,hk,λs hs=>?_]
   refine #[7,p,7,i,7,7,7,LR rfl,_,7,i,(by rw[Ho];have:1000<=HK:=LR rfl;omega),?_]
   refine #[7,7,ps.length,ws.length,j',k',b1,p1,s,x,8,8,hb1,hp1,hs,λd hd=>?_]
   exact #[j',(),d,xs++[(#[x,xU (hk.imp And.left And.left)],(k':Int),s)],_,_,7,λc o C h=>by rw[ak C];exact kM c o C h,by rw[ai,Ib];rfl,hd,by simp;omega]
theorem d8:LN ["one","other"] ["one","other"] (ar cR):=⋯
inductive Lu:Prop
 |mk (a b:Nat)(_:x_=.int (a:Int))(_:y3=.int (b:Int))(_:Q (.int ((K9 a b:Nat):Int)) M)
def fm(T:Tx K mg):Cal P w K mg base 1 "greatest_divisor" (Li Lu):=by
 refine bo (k:=0) T.eh d8 λf _ _ _ s H _ i=>#[_,(aj (fX HR (aD (gL i.units) (dv 1) ag) (aq (fT 0 1 rfl d8.nd (ae (dv 1) (ae (av gE (dv 0) (dv 1)) af))))) (aq (ay (dv 0)))),λ_ _ M Q h=>?_];let[a,b,8,8,q]:=h;exists λm δ g=>g=M/\∃x y:Nat,δ=[KA (.int x),KA (.int y)]/\K9 x y=K9 a b/\m=y,#[7,_,7,8,rfl];rintro m δ g ⟨rfl,x,y,rfl,c,j⟩;exists 7,7;refine aZ (λh=>?_) (λh=>?_)
 .have d:(y:Int)≠0:=‹h›
  exists 7,7,7,d,_,7;let e:0<y:=()
  refine #[x%y,by rw[j];exact Nat.mod_lt _ e,8,y,x%y,?_,?_,rfl]
  .rw[<-Ma.uK];rfl
  .rw[<-c,Nat.gcd_comm x y,Nat.gcd_rec y x,Nat.gcd_comm]
 .have d:y=0:=‹h›
  subst d;rw[Nat.gcd_zero_right]at c;subst c;exact #[7,LW q]
theorem gZ:LN ["top","bottom","divisor"] ["top","bottom"] (ar jc):=⋯
inductive Nh:Prop
 |mk (t:_)(b:_)(_:x_=.int t)(_:y3=.int b)(_:b≠0)(_:Bd 8000 t)(_:Bd 8000 b)(_:Q (LI (Rat.divInt t b)) M)
def mR(T:Tx K mg):Cal P w K mg base 2 "fraction" (Li Nh):=by
 refine bo (k:=1) T.en gZ λf _ _ _ s H _ e=>#[_,(aj (aR (aD (bj e.units) (dv 1) ag) (aq zf) aF) (aj (aA 2 gZ.nd (ao (fm T).m e (ae (aI tG rfl T.n7 sL (ae (dv 0) af)) (ae (aI tG rfl T.n7 sL (ae (dv 1) af)) af)))) (aj (aR (aD (b4 e.units) (dv 1) ag) (aq (aA 2 gZ.nd (iO dO (dv 2)))) aF) (aq (ay (aJ (ae (av fy (dv 0) (dv 2)) (ae (av fy (dv 1) (dv 2)) af)))))))),λ_ _ M Q h=>?_];let[t,b,8,8,i,j,g,q]:=h;let l:=Ma.ua (t:=t) i;let a:Bd 8000 ((K9 t.natAbs b.natAbs:Nat):Int):=g.of_le ‹Nat.gcd_le_right t.natAbs (():0<b.natAbs)›;refine #[7,7,gr (KJ i) ?_];exists 7,7,t.natAbs,b.natAbs,8,8;exists 7,trivial,7;refine aZ (λh=>?_) (λh=>?_)
 .have c:b<0:=‹h›
  let[e1,e2]:=Ma.Aa (t:=t) c;exists 7,7,7,#[(),a.neg],7,7,#[(),a.neg],LR rfl;dsimp only;rw[e1,e2];exact LW q
 .have d:0<b:=by
   have:¬b<0:=‹h›
   omega
  let[e1,e2]:=Ma.uy (t:=t) d;exists 7,7,#[(),a],7,7,#[(),a],LR rfl;dsimp only;rw[e1,e2];exact LW q
theorem g9:LN ["spot","x","y"] ["spot"] (ar iY):=⋯
inductive N5:Prop
 |mk (a b:Rat)(_:x_=LH a b)(_:Ky 8000 a)(_:Ky 8000 b)(_:Q (LH a b) M)
def jg(T:Tx K mg):Cal P w K mg base 3 "own_spot" (Nl N5):=by refine fH (k:=2) T.eH g9 λf _ _ _ s H _ c=>#[_,(aj (bG (dv 0) (bg rfl (ax (aw 1 g9.nd) (ax (aw 2 g9.nd) aS)))) (aq (ay (aJ (ae (ao (mR T).m c (ae (aB (dv 1) ag) (ae (aB (dv 1) ag) af))) (ae (ao (mR T).m c (ae (aB (dv 2) ag) (ae (aB (dv 2) ag) af))) af)))))),λ_ M Q h=>?_];let[a,b,8,h1,h2,k]:=h;exists 7,7,8,_,7,_,7,8;exists 7,7,7,7,a.num,(a.den:Int),8,8,LK a,h1.1,h1.2;exists 7,7,7,7,b.num,(b.den:Int),8,8,LK b,h2.1,h2.2,LR rfl;rw[Rat.num_divInt_den,Rat.num_divInt_den];exact LW k
theorem qi:LN ["wall"] ["wall"] (ar jq):=⋯
inductive N4:Prop
 |mk (a b c d:Rat)(_:x_=Kv a b c d)(_:Ky 8000 a)(_:Ky 8000 b)(_:Ky 8000 c)(_:Ky 8000 d)(_:Q (Kv a b c d) M)
def m8(T:Tx K mg):Cal P w K mg base 4 "own_wall" (Nl N4):=by refine fH (k:=3) T.eL qi λf _ _ _ s H _ e=>#[_,(aq (ay (aJ (ae (ao (jg T).m e (ae (aB (dv 0) ag) af)) (ae (ao (jg T).m e (ae (aB (dv 0) ag) af)) af))))),λ_ M Q h=>?_];let[a,b,c,d,8,h1,h2,g,i,k]:=h;exact #[7,7,a,b,8,h1,h2,7,7,c,d,8,g,i,LR rfl,LW k]
theorem pX:LN ["walls"] ["walls"] (ar iV):=⋯
inductive N6:Prop
 |mk (t b X Y:Int)(ws:vp)(_:x_=.tup (ws.map (LQ t b X Y)))(_:Lm t b X Y)(_:ws.length<=40)(_:(∀w∈ws,L5 w))(_:∀M',SD.Sub M M'->Q x_ M')
def rq(T:Tx K mg):Cal P w K mg base 5 "own_plot" (Nl N6):=by
 refine fH (k:=4) T.eT pX λf _ _ _ s H _ l=>#[_,(aq (ay (bJ mz rfl T.q_ mh (ae (bS (LO.of (xs:=["wall"]) (js:=[]) rfl) rfl (aQ (dv 0)) (λ_ _ _ _=>bD) (λ_ _ _ _=>(ao (m8 T).m l (ae (dv 0) af)))) af)))),λ_ M Q h=>?_];let[t,b,X,Y,ws,8,S,d,n,k]:=h;refine #[7,ws.map (LQ t b X Y),8,comp_map (λi=>((ws.map (LQ t b X Y))[i]?).getD .non) (by show(ws.map (LQ t b X Y)).length<=1000000;rw[Ho];omega) (λp B g=>rfl) ?_ (λp g=>#[_,ai,?_])]
 .intro i e o C q _;let[w,j,8]:=jy q;refine #[7,λK r=>?_];let a:=r o .refl;rw[getD_map j]at a;let[u,v,x,y,_]:=n w (Hz j);let one:(0:Int)<1/\(1:Int)<=10^6:=⋯
  let c:∀{z:Int},(0<=z/\z<=20)->-(10^6)<=z/\z<=10^6:=λh=>()
  exact #[7,_,_,_,7,(S.bx one (c u)).mono ⋯,(S.by' one (c v)).mono ⋯,(S.bx one (c x)).mono ⋯,(S.by' one (c y)).mono ⋯,a]
 .dsimp only;let e:(HM (ws.map (LQ t b X Y)).length).map (λi=>((ws.map (LQ t b X Y))[i]?).getD .non)=ws.map (LQ t b X Y):=SD.range_getD (ws.map (LQ t b X Y));rw[e];exact LW (k _ (.new g .refl))
theorem cA:LN ["row","spot","low","high","middle"] ["row","spot"] (ar fI):=⋯
inductive Mh:Prop
 |mk (l:r4)(t b X Y:Int)(ps:List Vc)(u:Vc)(_:x_=.ref l)(_:y3=L6 t b X Y u)(_:M l=KA (.lst (ps.map (L6 t b X Y))))(_:Lm t b X Y)(_:ps.length<=200)(_:(∀p∈ps,Lh p))(_:Lh u)(_:ps.Pairwise Lj)(_:∀j:Nat,j<=ps.length->(∀i,i<j->Lj (p0 ps i) u)->(∀i,j<=i->i<ps.length->¬Lj (p0 ps i) u)->Q (.int (j:Int)) M)
def nk(T:Tx K mg):Cal P w K mg base 3 "place_among" (Li Mh):=by
 refine bo (k:=2) T.e_ cA λf _ _ _ s H _ r=>#[_,(aj (fT 2 3 rfl cA.nd (ae ag (ae (aI bC rfl T.pa bA (ae (dv 0) af)) af))) (aj (fX HR (aD (b4 r.units) (dv 2) (dv 3)) (aj (aA 4 cA.nd (av fy (av aL (dv 2) (dv 3)) ag)) (aq (aR (dW (ao (cx T).m r (ae (aB (dv 0) (dv 4)) (ae (dv 1) af)))) (aq (aA 2 cA.nd (av aL (dv 4) ag))) (aq (aA 3 cA.nd (dv 4))))))) (aq (ay (dv 2))))),λ_ _ M Q h=>?_];let[l,t,b,X,Y,ps,u,8,8,v,S,J,B,o,up,k]:=h;let C:(ps.map (L6 t b X Y)).length=ps.length:=by simp
 exists 7,_,v,_,7;refine #[λm δ x=>x=M/\OJ λ(g d:Nat) (y:v9)=>Yp (δ=[KA (.ref l),KA (L6 t b X Y u),KA (.int (g:Int)),KA (.int (d:Int)),y]) (g<=d) (d<=ps.length) (∀i,i<g->Lj (p0 ps i) u) (∀i,d<=i->i<ps.length->¬Lj (p0 ps i) u) (m=d-g),#[7,0,ps.length,_,by rw[C];rfl,IB _,Hu _,λi d=>(),λi h1 h2=>(),rfl],?_];rintro m δ x ⟨rfl,g,d,y,rfl,h1,h2,a,c,L⟩;exists 7,7,trivial,7;refine aZ (λh=>?_) (λh=>?_)
 .have F:g<d:=by
   have:(g:Int)<(d:Int):=‹h›
   omega
  let n:Int.fdiv ((g:Int)+(d:Int)) 2=(((g+d)/2:Nat):Int):=by rw[Ir _ ⋯];omega
  let j:(g+d)/2<ps.length:=()
  exists 7,7,#[⋯,aX ⋯];dsimp only;rw[n];generalize N:(g+d)/2=q at j ⊢;let G:ps[q]?=KA (p0 ps q):=by unfold p0;simp[j]
  let p:=B _ (jo j);exists 7,7,_,_,v,aW (by rw[Hv,G];rfl),7,_,_,_,7,8,(p.bx S).mono ⋯,(p.by' S).mono ⋯,(o.bx S).mono ⋯,(o.by' S).mono ⋯,7;let ah:=CW (X:=X) (Y:=Y) S.t0 S.b0 p o;refine aZ (λh=>?_) (λh=>?_)
  .have z:Lj (p0 ps q) u:=ah.mp (by simpa[Kz]using h);refine #[7,d-(q+1),(),8,q+1,d,7,(),h2,λi I=>?_,c,rfl];by_cases e:i=q
   .subst e;exact z
   .have:=Ja.mp up i q () j ();let e1:p0 ps i=ps[i]:=by unfold p0;simp[show i<ps.length by omega]
    let e2:p0 ps q=ps[q]:=by unfold p0;simp[j]
    rw[e2]at z;rw[e1];unfold Lj at z this ⊢;omega
  .have z:¬Lj (p0 ps q) u:=λw=>by
    have:=ah.mpr w
    simp[Kz]at h this
    exact absurd this ‹h›
   refine #[7,q-g,(),8,g,q,7,(),(),a,λi O R=>?_,rfl];by_cases e:i=q
   .subst e;exact z
   .have:=Ja.mp up q i j () ();let e1:p0 ps i=ps[i]:=by unfold p0;simp[show i<ps.length by omega]
    let e2:p0 ps q=ps[q]:=by unfold p0;simp[j]
    rw[e2]at z;rw[e1];unfold Lj at z this ⊢;omega
 .have:g=d:=by
   have:¬(g:Int)<(d:Int):=‹h›
   omega
  subst this;(repeat (first|refine #[7,?_]|refine #[trivial,?_]|refine #[_,7,?_]|refine #[8,?_]|refine #[LR rfl,?_]))
  exact LW (k g h2 a c)
theorem eV:LN ["spots","row","spot"] ["spots"] (ar fN):=⋯
inductive Mm:Prop
 |mk (l:r4)(t b X Y:Int)(us:List Vc)(_:x_=.ref l)(_:M l=KA (.lst (us.map (L6 t b X Y))))(_:Lm t b X Y)(_:us.length<=200)(_:(∀p∈us,Lh p))(_:us.Nodup)(_:∀(M':MH)(z:r4)(ps:List Vc),SD.Sub M M'->M z=KC->M' z=KA (.lst (ps.map (L6 t b X Y)))->ps.Perm us->ps.Pairwise Lj->Q (.ref z) M')
def iN(T:Tx K mg):Cal P w K mg base 4 "ahead_first" (Nl Mm):=by
 refine fH (k:=3) T.fC eV λf _ _ _ s H _ W=>#[_,(aj (aA 1 eV.nd (aV af)) (aj (bP HR rfl (aQ (dv 0)) (aw 2 eV.nd) (aq (cg (k9 (dv 1) (ae (ao (nk T).m W (ae (dv 1) (ae (dv 2) af))) (ae (dv 2) af)))))) (aq (ay (dv 1))))),λ_ M Q h=>?_];let[l,t,b,X,Y,us,8,G,S,hn,R,nd,k]:=h;refine #[LR rfl,λz C=>?_];let I:l≠z:=az G C;refine #[7,us.map (L6 t b X Y),(by show(au M z _) l=_;rw[ak I];exact G),?_];exists λi δ n=>Po λ(ps:List Vc) (J:v9)=>Q4 (δ=[KA (.ref l),KA (.ref z),J]) (SD.Sub M n) (n z=KA (.lst (ps.map (L6 t b X Y)))) (ps.Perm (us.take i)) (ps.Pairwise Lj),#[[],7,.new C .refl,ai,by simp,List.Pairwise.nil],λi δ n _ q=>by let[_,_,_,x,_]:=q;exact x _ _ G,?_
 .rintro i d δ n hi hd ⟨ps,J,rfl,x,g,r,up⟩;let hd:(us.map (L6 t b X Y))[i]?=KA d:=hd;rw[Hv]at hd;cases v:us[i]? with
  |none=>rw[v]at hd;cases hd
  |some u=>
   rw[v]at hd
   cases hd
   let Z:i<us.length:=(Hw.mp v).1
   let L:us[i]=u:=(Hw.mp v).2
   let U:=R u (Hz v)
   let N:∀p∈ps,p∈us:=λp y=>List.mem_of_mem_take (r.mem_iff.mp y)
   let B:∀p∈ps,Lh p:=λp y=>R p (N p y)
   let a0:ps.length=i:=by rw[r.length_eq,Iu];omega
   let nu:u∉ps:=λy=>by
    have:=r.mem_iff.mp y
    let[j,F,V]:=List.getElem_of_mem this
    let O:j<i:=by rw[Iu]at F;omega
    rw[List.getElem_take]at V
    have:=Ja.mp nd j i () Z O
    exact this (V.trans L.symm)
   refine #[7,z,7,g,7,7,z,t,b,X,Y,ps,u,8,8,g,S,(),B,U,up,λj F a c=>?_]
   let[i1,i2]:=BW up F a λi h1 h2=>Bc (B _ (jo h2)) U (λe=>nu (e▸jo h2)) (c i h1 h2)
   refine #[7,_,_,j,8,g,by rw[Ho];exact F,by rw[Ho];omega,ic ps j u,7,λa o h=>?_,by rw[ai,pW],?_,i1]
   .rw[ak (az h C)];exact x _ _ h
   .rw[List.take_succ,v];exact i2.trans ((List.Perm.cons u r).trans (List.perm_append_singleton u (us.take i)).symm)
 .rintro δ n ⟨ps,J,rfl,x,g,r,up⟩;let e:us.take (us.map (L6 t b X Y)).length=us:=by rw[Ho,List.take_length]
  exact #[7,n,.refl,k n z ps x C g (by rw[<-e];exact r) up]
theorem dI:LN ["plot","corners","wall","end"] ["plot"] (ar gK):=⋯
inductive Mx:Prop
 |mk (t b X Y:Int)(ws:vp)(_:x_=.tup (ws.map (LQ t b X Y)))(_:Lm t b X Y)(_:ws.length<=40)(_:(∀w∈ws,L5 w))(_:∀(M':MH)(z:r4)(ps:List Vc),SD.Sub M M'->M z=KC->M' z=KA (.lst (ps.map (L6 t b X Y)))->ps.Perm (Lf ws ws.length)->ps.Pairwise Lj->Q (.ref z) M')
def jM(T:Tx K mg):Cal P w K mg base 5 "corners_of" (Nl Mx):=by
 refine fH (k:=4) T.f_ dI λf _ _ _ s H _ I=>#[_,(aj (aA 1 dI.nd ql) (aj (bP HR rfl (aQ (dv 0)) (aw 2 dI.nd) (aq (bP HR rfl (aQ (dv 2)) (aw 3 dI.nd) (aq (yY (jK I) (dv 1) (ao (jg T).m I (ae (dv 3) af)) iR))))) (aq (ay (ao (iN T).m I (ae (bJ (md rfl) rfl T.pd oG (ae (dv 1) af)) af)))))),λ_ M Q h=>?_];let[t,b,X,Y,ws,8,S,hn,N,k]:=h;intro c O;exists 7,ws.map (LQ t b X Y),8;exists λi δ r=>Po λ(J v:v9)=>δ=[KA (.tup (ws.map (LQ t b X Y))),KA (.ref c),J,v]/\SD.Sub M r/\r c=KA (ME (OG t b X Y (Lf ws i))),#[_,7,.new O .refl,ai],λi δ r _ q=>rfl,?_
 .rintro i d δ r hi hd ⟨J,v,rfl,B,g⟩;let hd:(ws.map (LQ t b X Y))[i]?=KA d:=hd;rw[Hv]at hd;cases C:ws[i]? with
  |none=>rw[C]at hd;cases hd
  |some w=>
   rw[C]at hd
   cases hd
   let iw:i<ws.length:=(Hw.mp C).1
   let R:=N w (Hz C)
   let lc:=iC ws i
   exists 7,[L6 t b X Y (ea w),L6 t b X Y (eb w)],8
   exists λj δ n=>Po λ(us:List Vc) (v:v9)=>Wa (δ=[KA (.tup (ws.map (LQ t b X Y))),KA (.ref c),KA (LQ t b X Y w),v]) (SD.Sub M n) (n c=KA (ME (OG t b X Y us))) (us.length<=2*i+j) (j=0->us=Lf ws i) (j=1->us=dw (Lf ws i) (ea w)) (j=2->us=dw (dw (Lf ws i) (ea w)) (eb w)),#[Lf ws i,7,B,g,(),λ_=>rfl,λh=>(),λh=>()],λi δ r _ q=>rfl,?_
   .rintro j d δ n U hd ⟨us,v,rfl,l,y,lu,V,W,Z⟩;let U:j<2:=U
    obtain⟨u,rfl,bu,hu⟩:∃u,d=L6 t b X Y u/\Lh u/\(j=0->u=ea w)/\(j=1->u=eb w):=by
     let hd:([L6 t b X Y (ea w),L6 t b X Y (eb w)]:vu)[j]?=KA d:=hd;rcases(():j=0\/j=1)with rfl|rfl
     .cases hd;exact #[7,R.ea,λ_=>rfl,λh=>()]
     .cases hd;exact #[7,R.eb,λh=>(),λ_=>rfl]
    refine #[7,7,_,7,(bu.bx S).mono ⋯,(bu.by' S).mono ⋯,c,_,gk t b X Y u,8,rW t b X Y u,y,?_,dw us u,7,?_,by rw[ai,AH S.t0 S.b0],by have:=mY us u;omega,λh=>(),λh=>?_,λh=>?_]
    .show(OG t b X Y us).length<_;unfold OG;rw[Ho];omega
    .intro a o h;rw[ak (az h O)];exact l _ _ h
    .have:j=0:=()
     rw[V this,hu.1 this]
    .have:j=1:=()
     rw[W this,hu.2 this]
   .rintro δ n ⟨us,v,rfl,l,y,lu,V,W,Z⟩;exists _,7,l;rw[y,Z rfl]
    congr 3
    show _=(match ws[i]? with|some w=>dw (dw (Lf ws i) (ea w)) (eb w)|none=>Lf ws i);rw[C]
 .rintro δ r ⟨J,v,rfl,B,g⟩
  let g:r c=KA (ME (OG t b X Y (Lf ws ws.length))):=by
   let e:(ws.map (LQ t b X Y)).length=ws.length:=by simp
   rw[<-e];exact g
  refine #[7,.inr #[c,7,g,λp hp=>?_]];let ek:(OG t b X Y (Lf ws ws.length)).map (λx=>Ny x.1)=(Lf ws ws.length).map (L6 t b X Y):=by unfold OG;rw[Jj];rfl
  rw[ek];let lc:=iC ws ws.length;refine #[p,t,b,X,Y,Lf ws ws.length,8,ai,S,(),ud N,ph ws _,λM2 z ps l G L pm up=>?_];let zp:z≠p:=λe=>by subst e;rw[ai]at G;cases G
  let F:r z=KC:=by rw[ak zp]at G;exact G
  let zM:M z=KC:=by
   cases e:M z with
   |none=>rfl
   |some o=>rw[B _ _ e]at F;cases F
  exact #[M2,.refl,k M2 z ps (λa o h=>l _ _ (by rw[ak (az (B _ _ h) hp)];exact B _ _ h)) zM L pm up]
theorem lE:LN ["self","plot"] ["self","plot"] (ar eU):=⋯
def cK(K:Hm):Lo:=λd M Q=>match d with
 |[s,u]=>∃(a:r4) (t b X Y:Int) (ws:vp),s=.ref a/\u=.tup (ws.map (LQ t b X Y))/\M a=KA (dn (cl K "Steps") [])/\Lm t b X Y/\ws.length<=40/\(∀w∈ws,L5 w)/\
  ∀(c:MH)(ps:List Vc),lD a M c->c a=KA (dn (cl K "Steps") (Y8 (.tup (ws.map (LQ t b X Y))) (ps.map (L6 t b X Y)) .non .non))->ps.Perm (Lf ws ws.length)->ps.Pairwise Lj->Q .non c
 |_=>False
theorem lJ(K:Hm):∀ds M Q,(cK K) ds M Q->ds.length=2:=λds M Q h=>by
 unfold cK at h;split at h
 .rfl
 .exact h.elim
def nh(T:Tx K mg):vP P w K mg base 6 "Way" "__init__" (cK K):=by
 refine Gy (k:=5) (N:=["self","plot"]) (ps:=["self","plot"]) T.ro lE (λ_ _ _ _ _ _ us n=>by let[_,_,8]:=SD.pV n;rfl) (lJ K) λf _ _ _ s H _ j=>#[_,(aj (gn (ao (rq T).m j (ae (dv 1) af)) (dv 0)) (aj (gn (bJ mz rfl T.q_ mh (ae (ao (jM T).m j (ae (dN (dv 0)) af)) af)) (dv 0)) (aj (gn jt (dv 0)) (aq (gn jt (dv 0)))))),λx M Q h=>?r]
 case r=>
  unfold cK at h
  split at h
  case h_2=>exact h.elim
  let[a,t,b,X,Y,ws,8,8,p,S,d,l,k]:=h
  refine #[7,t,b,X,Y,ws,8,S,d,l,λy e=>#[7,a,_,[],8,e _ _ p,T.cl_Steps,T.na_plot,⋯,?_]]
  refine #[7,a,_,_,7,ai,T.cl_Steps,T.na_plot,8,t,b,X,Y,ws,8,S,d,l,λB z ps g C q u v=>#[_,q,?_]]
  exists 7,a,_,7,g _ _ ai,T.cl_Steps,T.na_corners,(⋯:1<1000)
  let e1:QT "corners" (D.tup (ps.map (L6 t b X Y))) (QT "plot" (D.tup (ws.map (LQ t b X Y))) [])=([("plot",D.tup (ws.map (LQ t b X Y))),("corners",D.tup (ps.map (L6 t b X Y)))]:List (Str×D)):=rfl
  rw[e1]
  exists 7,a,_,7,ai,T.cl_Steps,T.na_guide,(⋯:2<1000)
  exists 7,a,_,7,ai,T.cl_Steps,T.na_most_looks,(⋯:3<1000)
  refine LW (k _ ps (λc o i h=>?_) ai u v)
  rw[ak i,ak i,ak i]
  exact g _ _ (by rw[ak i];exact e _ _ h)
theorem gm:LN ["plot","face","first","second"] ["plot","face"] (ar ij):=⋯
inductive NI:Prop
 |mk (t b X Y:Int)(ws:vp)(f:Nat)(_:x_=.tup (ws.map (LQ t b X Y)))(_:y3=.int (f:Int))(_:f<2*ws.length)(_:ws.length<=1000)(_:Q (LQ t b X Y (fw ws f)) M)
def cu(T:Tx K mg):Cal P w K mg base 1 "face_ends" (Li NI):=by
 refine bo (k:=0) T.f' gm λf _ _ _ s H _ e=>#[_,(aj (bG (aB (dv 0) (av fy (dv 1) ag)) (bg rfl (ax (aw 2 gm.nd) (ax (aw 3 gm.nd) aS)))) (aq (ay (jj (aD (bj e.units) (av gE (dv 1) ag) ag) (aJ (ae (dv 2) (ae (dv 3) af))) (aJ (ae (dv 3) (ae (dv 2) af))))))),λ_ _ M Q h=>?_];let[t,b,X,Y,ws,f,8,8,j,c,k]:=h;let[d,l,m]:=eG (ws:=ws) (k:=((f/2:Nat):Int)) () ();let g:(f:Int).fdiv 2=((f/2:Nat):Int):=by rw[Ir _ ⋯];omega
 let i:(f:Int).fmod 2=((f%2:Nat):Int):=by rw[Int.fmod_eq_emod_of_nonneg _ ⋯];omega
 let a:atI (ws.map (LQ t b X Y)) ((f:Int).fdiv 2)=KA (LQ t b X Y (MA ws ((f/2:Nat):Int))):=by rw[g];refine aW ?_;rw[IJ]at d;rw[Hv,d];rfl
 exists 7,7,#[⋯,aX ⋯],_,a;exists 7,8,_,7,_,7,8;exists 7,(show(2:Int)≠0 by decide),7;dsimp only;rw[i];refine aZ (λh=>?_) (λh=>?_)
 .have h:f%2=0:=by have:((f%2:Nat):Int)=0:=‹h›
                   omega
  refine #[7,7,LR rfl,LW ?_];unfold fw at k;rw[KI h]at k;exact k
 .have h:¬f%2=0:=λz=>by rw[z]at h;simp at h
  refine #[7,7,LR rfl,LW ?_];unfold fw at k;rw[KH h]at k;exact k
theorem dk:LN ["plot","leaving","face"] ["plot"] (ar dD):=⋯
def Ph(t b X Y:Int)(p:Vc):Lc:=((Kw t b X 1 p.1).num,((Kw t b X 1 p.1).den:Int),(Kw t b Y 1 p.2).num,((Kw t b Y 1 p.2).den:Int))
def tX{t b X Y:Int}(a:0<t)(c:0<b){p q:Vc}(h:Ph t b X Y p=Ph t b X Y q):p=q:=by unfold Ph at h;injection h with h1 h;injection h with h2 h;injection h with d e;let e1:Kw t b X 1 p.1=Kw t b X 1 q.1:=Rat.ext h1 (by exact_mod_cast h2);let e2:Kw t b Y 1 p.2=Kw t b Y 1 q.2:=Rat.ext d (by exact_mod_cast e);let f:=(LF a c ⋯ ⋯).mp e1;let g:=(LF a c ⋯ ⋯).mp e2;exact Prod.ext () ()
def Md(ws:vp)(i:Nat)(p:Vc):sy:=((HM i).filter λg=>decide (fa ws g=p)).map λg:Nat=>(g:Int)
def qA(ws:vp)(i:Nat)(p:Vc):Md ws (i+1) p=Md ws i p++(if fa ws i=p then[(i:Int)]else[]):=by
 unfold Md;rw[Kb,List.filter_append,Ib];by_cases h:fa ws i=p
 .simp[h]
 .simp[h]
def Bg(ws:vp)(i:Nat)(p:Vc):(Md ws i p).length<=i:=by unfold Md;rw[Ho];have:=List.length_filter_le (λg=>decide (fa ws g=p)) (HM i);simpa using this
def zq{kvs:Lw}{k:Lc}(d:D)(h:dS kvs k=KC)(j:Lc):dS (putD kvs k d) j=if j=k then KA d else dS kvs j:=by
 let a:(kvs.any λx=>decide (x.1=k))=KG:=by unfold dS at h;rw[Option.map_eq_none_iff,List.find?_eq_none]at h;rw[List.any_eq_false];exact h
 unfold putD;rw[KH (by rw[a];decide)];unfold dS at *;rw[List.find?_append];by_cases e:j=k
 .subst e;rw[KI rfl];rw[Option.map_eq_none_iff]at h;rw[h];simp
 .rw[KH e];have:¬k=j:=λz=>e z.symm;cases kvs.find? λx=>decide (x.1=j)<;>simp[this]
structure QU(t b X Y:Int)(ws:vp)(i:Nat)(M M':MH)(ld:r4)(kvs:Lw)(L:Vc->r4):Prop where
 d:M' ld=KA (ME kvs)
 some:∀p,Md ws i p≠[]->dS kvs (Ph t b X Y p)=.some (.ref (L p))/\M' (L p)=.some (.lst ((Md ws i p).map D.int))/\L p≠ld/\M (L p)=KC
 none:∀p,Md ws i p=[]->dS kvs (Ph t b X Y p)=.none
 inj:∀p q,Md ws i p≠[]->Md ws i q≠[]->L p=L q->p=q
inductive ML:Prop
 |mk (t b X Y:Int)(ws:vp)(_:x_=.tup (ws.map (LQ t b X Y)))(_:Lm t b X Y)(_:ws.length<=40)(_:∀(M':MH)(ld:r4)(kvs:Lw)(L:Vc->r4),SD.Sub M M'->QU t b X Y ws (2*ws.length) M M' ld kvs L->Q (.ref ld) M')
def j6(T:Tx K mg):Cal P w K mg base 2 "faces_by_start" (Nl ML):=by
 refine fH (k:=1) T.gi dk λf _ _ _ s H _ hr=>#[_,(aj (aA 1 dk.nd ql) (aj (gh HR rfl rfl T.p_ (ae (av aP ag (aI bC rfl T.pa bA (ae (dv 0) af))) af) (aw 2 dk.nd) (aq (cg (bE (AD (jK hr) (dv 1) (ae (aB (ao (cu T).m hr (ae (dv 0) (ae (dv 2) af))) ag) (ae (aV af) af))) (ae (dv 2) af))))) (aq (ay (dv 1))))),λ_ M Q h=>?_];let[t,b,X,Y,ws,8,S,a0,k]:=h;let R:(ws.map (LQ t b X Y)).length=ws.length:=by simp
 refine λld J=>?_;exists 7,a9 (aX ⋯),2*ws.length,(by rw[R];simp),();exists λi δ l=>OJ λ(kvs:Lw) (L:Vc->r4) (U:v9)=>Wb (δ=[KA (.tup (ws.map (LQ t b X Y))),KA (.ref ld),U]) (SD.Sub M l) (kvs.length<=i) (QU t b X Y ws i M l ld kvs L),?_,?_
 .exact #[[],λ_=>0,7,.new J .refl,Hu _,ai,λp h=>absurd rfl h,λp _=>rfl,λp q h=>absurd rfl h]
 .rintro i δ l hi ⟨kvs,L,U,rfl,N,hk,V⟩;let W:∀{q:r4} {o},l q=KC->(au l q o) ld=KA (ME kvs):=λu=>by rw[ak (az V.d u)];exact V.d
  let c:∀p,fa ws i≠p->Md ws (i+1) p=Md ws i p:=λp h=>by rw[qA,KH h,Jm]
  let r:Md ws (i+1) (fa ws i)=Md ws i (fa ws i)++[(i:Int)]:=by rw[qA,KI rfl]
  let ll:=Bg ws i (fa ws i);refine #[7,ld,kvs,8,V.d,7,7,t,b,X,Y,ws,i,8,8,hi,(),7,LR rfl,λq u=>?_];refine #[kvs,Ph t b X Y (fa ws i),.ref q,8,W u,(),λd' hd=>?_,λhn=>?_]
  .have ne:Md ws i (fa ws i)≠[]:=λz=>by rw[V.none _ z]at hd;cases hd
   let[v1,v2,v3,v4]:=V.some _ ne;rw[v1]at hd;cases hd;let Z:∀{a o},l a=KA o->(au l q (.lst [])) a=KA o:=λh=>by rw[ak (az h u)];exact h
   refine #[L (fa ws i),7,Z v2,7,_,7,Z v2,(by rw[Ho];omega),?_];let C:∀{a o G},l a=KA o->a≠L (fa ws i)->(au (au l q (.lst [])) (L (fa ws i)) G) a=KA o:=λh n=>by rw[ak n];exact Z h
   refine #[kvs,L,7,λa o h=>C (N _ _ h) (λz=>by subst z;rw[v4]at h;cases h),(),C V.d v3.symm,λp h=>?_,λp h=>?_,λp v h F e=>?_]
   .by_cases z:fa ws i=p
    .subst z;refine #[v1,?_,v3,v4];rw[ai,r,Ib];rfl
    .rw[c p z]at h ⊢;let[u1,u2,O,u4]:=V.some p h;exact #[u1,C u2 (λy=>z (V.inj _ _ ne h y.symm)),O,u4]
   .by_cases z:fa ws i=p
    .subst z;rw[r]at h;simp at h
    .rw[c p z]at h;exact V.none p h
   .have g:∀p,Md ws (i+1) p≠[]->Md ws i p≠[]:=λp h=>by
     by_cases z:fa ws i=p
     .subst z;exact ne
     .rw[c p z]at h;exact h
    exact V.inj p v (g p h) (g v F) e
  .have em:Md ws i (fa ws i)=[]:=by
    cases z:Md ws i (fa ws i)with
    |nil=>rfl
    |cons x xs=>
     have:=(V.some _ (by rw[z];simp)).1
     rw[hn]at this;cases this
   let B:q≠ld:=(az V.d u).symm;let cq:(au (au l q (.lst [])) ld (ME (putD kvs (Ph t b X Y (fa ws i)) (.ref q)))) q=KA (.lst []):=by rw[ak B,ai]
   exists q,[],8,cq,7,_,7,cq,⋯;let C:∀{a o D' G},l a=KA o->a≠ld->(au (au (au l q (.lst [])) ld D') q G) a=KA o:=λh n=>by rw[ak (az h u),ak n,ak (az h u)];exact h
   let mq:M q=KC:=by
    cases z:M q with
    |none=>rfl
    |some o=>rw[N _ _ z]at u;cases u
   let vn:=λj=>zq (.ref q) hn j;refine #[putD kvs (Ph t b X Y (fa ws i)) (.ref q),λp=>if fa ws i=p then q else L p,7,λa o h=>C (N _ _ h) (λz=>by subst z;rw[J]at h;cases h),?_,(by rw[ak B.symm,ai]),λp h=>?_,λp h=>?_,λp v h F e=>?_]
   .have:(putD kvs (Ph t b X Y (fa ws i)) (.ref q)).length<=kvs.length+1:=by
     unfold putD;split
     .rw[Ho];omega
     .simp
    omega
   .by_cases z:fa ws i=p
    .subst z;refine #[by rw[vn,KI rfl,KI rfl],?_,by rw[KI rfl];exact B,by rw[KI rfl];exact mq];rw[KI rfl,ai,r,em];rfl
    .rw[c p z]at h ⊢;let[u1,u2,O,u4]:=V.some p h;rw[KH z];exact #[by rw[vn,KH (λy=>z (tX S.t0 S.b0 y).symm)];exact u1,C u2 O,O,u4]
   .by_cases z:fa ws i=p
    .subst z;rw[r]at h;simp at h
    .rw[c p z]at h;rw[vn,KH (λy=>z (tX S.t0 S.b0 y).symm)];exact V.none p h
   .by_cases z:fa ws i=p<;>by_cases I:fa ws i=v
    .rw[<-z,<-I]
    .rw[c v I]at F;rw[KI z,KH I]at e;have:=(V.some v F).2.1;rw[<-e,u]at this;cases this
    .rw[c p z]at h;rw[KH z,KI I]at e;have:=(V.some p h).2.1;rw[e,u]at this;cases this
    .rw[c p z]at h;rw[c v I]at F;rw[KH z,KH I]at e;exact V.inj p v h F e
 .rintro δ l ⟨kvs,L,U,rfl,N,hk,V⟩;exact #[7,#[l,.refl,k l ld kvs L N V]]
theorem dA:LN ["corner","came_from","one","other","turn","other_turn"] ["corner","came_from","one","other"] (ar dY):=⋯
inductive MS:Prop
 |mk (t b X Y:Int)(c p q r:Vc)(_:x_=LH (Kw t b X 1 c.1) (Kw t b Y 1 c.2))(_:y3=LH (Kw t b X 1 p.1) (Kw t b Y 1 p.2))(_:y4=LH (Kw t b X 1 q.1) (Kw t b Y 1 q.2))(_:y_=LH (Kw t b X 1 r.1) (Kw t b Y 1 r.2))(_:Lm t b X Y)(_:(0<=c.1/\c.1<=20))(_:(0<=c.2/\c.2<=20))(_:(0<=p.1/\p.1<=20))(_:(0<=p.2/\p.2<=20))(_:(0<=q.1/\q.1<=20))(_:(0<=q.2/\q.2<=20))(_:(0<=r.1/\r.1<=20))(_:(0<=r.2/\r.2<=20))(_:Q (.bl (Nz (p.1-c.1,p.2-c.2) (q.1-c.1,q.2-c.2) (r.1-c.1,r.2-c.2))) M)
def lN(T:Tx K mg):Cal P w K mg base 4 "is_met_sooner" (Qs MS):=by
 refine tU (k:=3) T.gw dA λf _ _ _ s H _ a=>#[_,(aj (aA 4 dA.nd (ao (cV T).m a (ae (aJ (ae (dv 0) (ae (dv 1) af))) (ae (dv 2) af)))) (aj (aA 5 dA.nd (ao (cV T).m a (ae (aJ (ae (dv 0) (ae (dv 1) af))) (ae (dv 3) af)))) (aj (aR (aD (gL a.units) (dv 4) (dv 5)) (aq (ay (bW (b4 a.units) (dv 4) (dv 5)))) aF) (aq (ay (bW (bj a.units) (ao (cV T).m a (ae (aJ (ae (dv 0) (ae (dv 2) af))) (ae (dv 3) af))) (iO dO ag))))))),λ_ _ _ _ M Q h=>?_];let[t,b,X,Y,c,p,q,r,8,8,8,8,S,d,g,i,j,l,n,o,u,k]:=h;let one:(0:Int)<1/\(1:Int)<=10^6:=⋯
 let v:∀{z:Int},(0<=z/\z<=20)->(-(10^6)<=z/\z<=10^6):=λ{z} h=>()
 let bx:∀{z:Int},(0<=z/\z<=20)->Ky 200 (Kw t b X 1 z):=λ{z} h=>S.bx one (v h);let by':∀{z:Int},(0<=z/\z<=20)->Ky 200 (Kw t b Y 1 z):=λ{z} h=>S.by' one (v h)
 let e1:=kR (X:=X) (Y:=Y) S.t0 S.b0 (c.1,c.2,p.1,p.2) q.1 q.2;let e2:=kR (X:=X) (Y:=Y) S.t0 S.b0 (c.1,c.2,p.1,p.2) r.1 r.2;let e3:=kR (X:=X) (Y:=Y) S.t0 S.b0 (c.1,c.2,q.1,q.2) r.1 r.2;let x:sd (c.1,c.2,p.1,p.2) q.1 q.2=vc (p.1-c.1,p.2-c.2) (q.1-c.1,q.2-c.2):=rfl;let y:sd (c.1,c.2,p.1,p.2) r.1 r.2=vc (p.1-c.1,p.2-c.2) (r.1-c.1,r.2-c.2):=rfl;let B:sd (c.1,c.2,q.1,q.2) r.1 r.2=vc (q.1-c.1,q.2-c.2) (r.1-c.1,r.2-c.2):=rfl;rw[x]at e1;rw[y]at e2;rw[B]at e3;dsimp only at e1 e2 e3;exists 7,7,LR rfl,7,200,_,_,_,_,_,7,8,bx d,by' g,bx i,by' j,bx l,by' n,⋯;rw[e1];exists 7,7,LR rfl,7,200,_,_,_,_,_,7,8,bx d,by' g,bx i,by' j,bx o,by' u,⋯;rw[e2];exists 7,7,7;unfold Nz at k;refine aZ (λh=>?_) (λh=>?_)
 .have ne:¬HW (vc (p.1-c.1,p.2-c.2) (q.1-c.1,q.2-c.2))=HW (vc (p.1-c.1,p.2-c.2) (r.1-c.1,r.2-c.2)):=λz=>by rw[z]at h;simp at h
  rw[KH ne]at k;exact #[7,7,trivial,LW k]
 .have eq:HW (vc (p.1-c.1,p.2-c.2) (q.1-c.1,q.2-c.2))=HW (vc (p.1-c.1,p.2-c.2) (r.1-c.1,r.2-c.2)):=‹h›
  rw[KI eq]at k;exists 7,7,LR rfl,7,200,_,_,_,_,_,7,8,bx d,by' g,bx l,by' n,bx o,by' u,⋯;rw[e3];let e:decide (vc (q.1-c.1,q.2-c.2) (r.1-c.1,r.2-c.2)<0)=decide (HW (vc (q.1-c.1,q.2-c.2) (r.1-c.1,r.2-c.2))=-1):=by rw[KN];rcases jA (vc (q.1-c.1,q.2-c.2) (r.1-c.1,r.2-c.2))with z|z|z<;>omega
  rw[e]at k;exact LW k
theorem bH:LN ["plot","leaving","face","came_from","corner","back","best","rival"] ["plot","leaving","face"] (ar fJ):=⋯
def eY(ws:vp)(f j:Nat):Option Nat:=((((HM (2*ws.length)).filter λg=>decide (fa ws g=fb ws f)).take j).filter λg=>decide (g≠fx f)).foldl (eB (Nk ws f)) KC
theorem n6(R:Nat->Nat->Bool):∀(l:sx)(o:Option Nat){h:Nat},l.foldl (eB R) o=KA h->h∈l\/o=KA h
 |[],o,h,e=>.inr e
 |g::l,o,h,e=>by
  rw[List.foldl_cons]at e
  rcases n6 R l _ e with z|z
  .exact .inl (by simp[z])
  .cases o with
   |none=>cases z;exact .inl (_)
   |some k=>
    unfold eB at z
    dsimp only at z
    by_cases r:R g k=KD
    .rw[KI r]at z;cases z;exact .inl (_)
    .rw[KH r]at z;exact .inr z
def rQ(ws:vp)(f j:Nat)(h:((HM (2*ws.length)).filter λg=>decide (fa ws g=fb ws f)).length<=j):eY ws f j=(jV ws f).foldl (eB (Nk ws f)) KC:=by
 unfold eY jV xP;rw[Jo h,List.filter_filter]
 congr 1
 apply List.filter_congr;intro x _;rw[Bool.and_comm]
def rz{ws:vp}{f j h:Nat}(e:eY ws f j=KA h):h∈jV ws f:=by
 unfold eY at e;rcases n6 _ _ _ e with z|z
 .have a:=J1.mp z;let b:=J1.mp (List.mem_of_mem_take a.1);exact c7.mpr #[‹b.1›,‹b.2›,‹a.2›]
 .cases z
inductive Ml:Prop
 |mk (t b X Y:Int)(ws:vp)(M0:MH)(ld:r4)(kvs:Lw)(L:Vc->r4)(f:Nat)(_:x_=.tup (ws.map (LQ t b X Y)))(_:y3=.ref ld)(_:y4=.int (f:Int))(_:Lm t b X Y)(_:ws.length<=40)(_:(∀y4∈ws,L5 y4))(_:f<2*ws.length)(_:QU t b X Y ws (2*ws.length) M0 M ld kvs L)(_:Q (.int (bh ws f:Int)) M)
def iP(T:Tx K mg):Cal P w K mg base 5 "face_behind" (QD Ml):=by
 refine m5 (k:=4) T.gx bH λf _ _ _ s H _ r=>#[_,(aj (bG (ao (cu T).m r (ae (dv 0) (ae (dv 2) af))) (bg rfl (ax (aw 3 bH.nd) (ax (aw 4 bH.nd) aS)))) (aj (aA 5 bH.nd (av CT (dv 2) ag)) (aj (aA 6 bH.nd (dv 5)) (aj (bP HR rfl (aQ (jH (jK r) (dv 1) (dv 4) (by intro _ _;with_unfolding_all rfl))) (aw 7 bH.nd) (aq (aR (gQ (fg (aD (gL r.units) (dv 7) (dv 5)) (dj (gQ (l9 (aD (bj r.units) (dv 6) (dv 5)) (kZ (dW (ao (lN T).m r (ae (dv 4) (ae (dv 3) (ae (aB (ao (cu T).m r (ae (dv 0) (ae (dv 7) af))) ag) (ae (aB (ao (cu T).m r (ae (dv 0) (ae (dv 6) af))) ag) af)))))))))))) (aq (aA 6 bH.nd (dv 7))) aF))) (aq (ay (dv 6))))))),λ_ _ _ M Q h=>?_];let[t,b,X,Y,ws,M0,ld,kvs,L,f,8,8,8,S,J,Z,u,V,k]:=h;let exf:Builtin.bitXor (f:Int) 1=((fx f:Nat):Int):=CJ f ()
 let n:∀g:Nat,g<2*ws.length->((0<=(fa ws g).1/\(fa ws g).1<=20)/\(0<=(fa ws g).2/\(fa ws g).2<=20))/\((0<=(fb ws g).1/\(fb ws g).1<=20)/\(0<=(fb ws g).2/\(fb ws g).2<=20)):=λg y=>by
  let[_,_,w3]:=eG (ws:=ws) (k:=((g/2:Nat):Int)) () ()
  let W:=Z _ w3
  unfold fa fb fw
  by_cases h:g%2=0
  .rw[KI h];exact #[#[W.a,W.b],W.c,W.d]
  .rw[KH h];exact #[#[W.c,W.d],W.a,W.b]
 let ne:Md ws (2*ws.length) (fb ws f)≠[]:=by
  unfold Md
  have:fx f∈(HM (2*ws.length)).filter λg=>decide (fa ws g=fb ws f):=J1.mpr #[List.mem_range.mpr (mN u),‹mO ws f›]
  intro z
  rw[List.map_eq_nil_iff]at z
  rw[z]at this
  cases this
 let[v1,N,v3,v4]:=V.some _ ne;exists 7,7,t,b,X,Y,ws,f,8,8,u,();exists 7,8,_,7,_,7,8;exists 7,trivial;dsimp only;rw[exf];exists 7;exists 7,7,ld,kvs,Ph t b X Y (fb ws f),7,8,V.d,v1,(Md ws (2*ws.length) (fb ws f)).map D.int,N;exists λj δ B=>B=M/\∃F,δ=[KA (.tup (ws.map (LQ t b X Y))),KA (.ref ld),KA (.int (f:Int)),KA (LH (Kw t b X 1 (fw ws f).1) (Kw t b Y 1 (fw ws f).2.1)),KA (LH (Kw t b X 1 (fw ws f).2.2.1) (Kw t b Y 1 (fw ws f).2.2.2)),KA (.int ((fx f:Nat):Int)),KA (.int (((eY ws f j).getD (fx f):Nat):Int)),F],#[8,7],λj δ B _ z=>by let[8,_]:=z;exact N,?_
 .rintro j d δ B hj hd ⟨rfl,F,rfl⟩;let hd:((((HM (2*ws.length)).filter λg=>decide (fa ws g=fb ws f)).map λg:Nat=>(g:Int)).map D.int)[j]?=KA d:=hd;rw[Hv,Hv]at hd;cases C:((HM (2*ws.length)).filter λg=>decide (fa ws g=fb ws f))[j]? with
  |none=>rw[C]at hd;cases hd
  |some g=>
   rw[C]at hd
   cases hd
   let v:=J1.mp (Hz C)
   let y:g<2*ws.length:=‹v.1›
   let G:fa ws g=fb ws f:=‹v.2›
   let nx:eY ws f (j+1)=if g=fx f then eY ws f j else eB (Nk ws f) (eY ws f j) g:=by
    unfold eY;rw[List.take_succ,C,Option.toList_some,List.filter_append,List.foldl_append];by_cases z:g=fx f
    .simp[z]
    .simp[z]
   let p:∀h,eY ws f j=KA h->h∈jV ws f:=λh e=>rz e
   generalize eY ws f j=o at nx p ⊢
   by_cases z:g=fx f
   ·walk_at "u"
    refine nt KG KG (λK l=>#[7,7,7,?_]) (λq=>absurd q ⋯) (gr rfl #[8,KA (.int (g:Int)),?_])
    .rw[show(!decide ((g:Int)=((fx f:Nat):Int)))=KG by rw[z];simp];exact l
    .rw[nx,KI z];rfl
   .rw[KH z]at nx
    let O:(!decide ((g:Int)=((fx f:Nat):Int)))=KD:=by
     have:¬((g:Int)=((fx f:Nat):Int)):=λq=>z ()
     rw[KJ this];rfl
    cases o with
    |none=>
     walk_at "u"
     refine nt KD KD (λK l=>#[7,7,7,by rw[O];exact l]) (λ_ K l=>QF KD KD (λR i=>#[7,7,7,?_]) (λq=>absurd q ⋯) l) (iK rfl #[7,8,KA (.int (g:Int)),?_])
     .rw[show decide ((((KC:Option Nat).getD (fx f):Nat):Int)=((fx f:Nat):Int))=KD by simp];exact i
     .rw[nx];rfl
    |some h=>
     let x:=c7.mp (p h rfl)
     let d1:fd ws (fx f)=((fa ws f).1-(fb ws f).1,(fa ws f).2-(fb ws f).2):=by unfold fd fa fb;rw[BI];rfl
     let U:∀g,fa ws g=fb ws f->fd ws g=((fb ws g).1-(fb ws f).1,(fb ws g).2-(fb ws f).2):=λg e=>by rw[<-e];rfl
     let es:Nk ws f g h=Nz ((fa ws f).1-(fb ws f).1,(fa ws f).2-(fb ws f).2) ((fb ws g).1-(fb ws f).1,(fb ws g).2-(fb ws f).2) ((fb ws h).1-(fb ws f).1,(fb ws h).2-(fb ws f).2):=by unfold Nk;rw[d1,U g G,U h x.2.1]
     let I:decide ((((KA h).getD (fx f):Nat):Int)=((fx f:Nat):Int))=KG:=KJ (λq=>x.2.2 (by let q':((h:Nat):Int)=((fx f:Nat):Int):=q;omega))
     walk_at "u"
     refine nt KD (KG||Nk ws f g h) (λK l=>#[7,7,7,by rw[O];exact l]) (λ_ K l=>QF KG (Nk ws f g h) (λR i=>#[7,7,7,by rw[I];exact i]) (λ_ R i=>?_) l) ?_
     .exists 7,7,7,7,t,b,X,Y,ws,g,8,8,y,(),7,7,7,t,b,X,Y,ws,h,8,8,x.1,(),7,t,b,X,Y,fb ws f,fa ws f,fb ws g,fb ws h,8,8,8,8,S,(n f u).2.1,(n f u).2.2,(n f u).1.1,(n f u).1.2,(n g y).2.1,(n g y).2.2,(n h x.1).2.1,(n h x.1).2.2,7;rw[<-es];exact i
     .refine aZ (λq=>?_) (λq=>?_)
      .exists 7,8,KA (.int (g:Int));let q:Nk ws f g h=KD:=‹q›
       let e:eB (Nk ws f) (KA h) g=KA g:=by unfold eB;simp[q]
       rw[nx,e];rfl
      .exists 8,KA (.int (g:Int));let q:¬Nk ws f g h=KD:=‹q›
       let e:eB (Nk ws f) (KA h) g=KA h:=by unfold eB;simp[q]
       rw[nx,e];rfl
 .rintro δ B ⟨rfl,F,rfl⟩;let e:=rQ ws f ((Md ws (2*ws.length) (fb ws f)).map D.int).length (by simp[Md]);dsimp only;rw[e];exact #[7,LW k]
theorem eM:LN ["plot","leaving","face","ring","at"] ["plot","leaving","face"] (ar g8):=⋯
theorem t6{t b X Y:Int}{ws:vp}{i:Nat}{f M:MH}{ld:r4}{kvs:Lw}{L:Vc->r4}{p:r4}{o:MO}(V:QU t b X Y ws i f M ld kvs L)(j:M p=KC):QU t b X Y ws i f (au M p o) ld kvs L:=#[by rw[ak (az V.d j)];exact V.d,λq h=>let⟨a,c,e,g⟩:=V.some q h;#[a,by rw[ak (az c j)];exact c,e,g],V.none,V.inj]
inductive NB:Prop
 |mk (t b X Y:Int)(ws:vp)(M0:MH)(ld:r4)(kvs:Lw)(L:Vc->r4)(f:Nat)(_:x_=.tup (ws.map (LQ t b X Y)))(_:y3=.ref ld)(_:y4=.int (f:Int))(_:Lm t b X Y)(_:ws.length<=40)(_:(∀y4∈ws,L5 y4))(_:PF ws)(_:f<2*ws.length)(_:QU t b X Y ws (2*ws.length) M0 M ld kvs L)(_:∀(p:r4)(kk:Nat),M p=KC->NR ws f kk->bh ws (Mz ws f kk)=f->Q (.ref p) (au M p (.lst ((rn ws f kk).map v_))))
def qz(T:Tx K mg):Cal P w K mg base 6 "ring_from" (QD NB):=by
 refine m5 (k:=5) T.gy eM λf _ _ _ s H _ n=>#[_,(aj (aA 3 eM.nd (aV (ae (dv 2) af))) (aj (aA 4 eM.nd (ao (iP T).m n (ae (dv 0) (ae (dv 1) (ae (dv 2) af))))) (aj (fX HR (aD (gL n.units) (dv 4) (dv 2)) (aj (cg (bE (dv 3) (ae (dv 4) af))) (aq (aA 4 eM.nd (ao (iP T).m n (ae (dv 0) (ae (dv 1) (ae (dv 4) af)))))))) (aq (ay (dv 3)))))),λ_ _ _ M Q h=>?_];let[t,b,X,Y,ws,r,ld,kvs,L,f,8,8,8,S,c,d,hF,i,V,k]:=h;refine #[7,LR rfl,λp o=>?_];exists 7,7,7,t,b,X,Y,ws,r,ld,kvs,L,f,8,8,8,S,c,d,i,t6 V o;exists λm δ j=>∃a,Wb (δ=[KA (.tup (ws.map (LQ t b X Y))),KA (.ref ld),KA (.int (f:Int)),KA (.ref p),KA (.int ((Mz ws f (a+1):Nat):Int))]) (j=au M p (.lst ((rn ws f a).map v_))) (NR ws f a) (m=2*ws.length-a),#[_,0,8,8,zE ws f,rfl];rintro m δ j ⟨a,rfl,rfl,q,rfl⟩;let v:=tM d hF i q;exists 7,7,7;refine aZ (λh=>?_) (λh=>?_)
 .have ne:bh ws (Mz ws f a)≠f:=λz=>by
   have:Mz ws f (a+1)=f:=z
   rw[this]at h;simp at h
  let l:=zW d hF i q ne;let u:=tM d hF i l;refine #[7,p,7,ai,7,_,7,ai,(by rw[Ho,kn];omega),?_];let e:au (au M p (.lst ((rn ws f a).map v_))) p (.lst (((rn ws f a).map v_)++[.int ((Mz ws f (a+1):Nat):Int)]))=au M p (.lst ((rn ws f (a+1)).map v_)):=by rw[cC,Ar,Ib];rfl
  rw[e];exists 7,7,7,t,b,X,Y,ws,r,ld,kvs,L,Mz ws f (a+1),8,8,8,S,c,d,j8 d hF i (a+1),t6 V o;exact #[2*ws.length-(a+1),(),a+1,8,8,l,rfl]
 .have eq:bh ws (Mz ws f a)=f:=by
   have:((Mz ws f (a+1):Nat):Int)=(f:Int):=‹h›
   let e:Mz ws f (a+1)=bh ws (Mz ws f a):=rfl
   omega
  exact #[7,#[_,.refl,k p a o q eq]]
theorem cw:LN ["plot","leaving","rings","gone_along","face","ring","part"] ["plot"] (ar iZ):=⋯
theorem zZ{t b X Y:Int}{ws:vp}{i:Nat}{f M j:MH}{ld:r4}{kvs:Lw}{L:Vc->r4}(V:QU t b X Y ws i f M ld kvs L)(s:SD.Sub M j):QU t b X Y ws i f j ld kvs L:=#[s _ _ V.d,λq h=>let⟨a,c,e,g⟩:=V.some q h;#[a,s _ _ c,e,g],V.none,V.inj]
def dU{M a:MH}(s:SD.Sub M a){p:r4}(h:a p=KC):M p=KC:=by
 cases z:M p with
 |none=>rfl
 |some o=>rw[s _ _ z]at h;cases h
inductive N3:Prop
 |mk (t b X Y:Int)(ws:vp)(_:x_=.tup (ws.map (LQ t b X Y)))(_:Lm t b X Y)(_:ws.length<=40)(_:(∀w∈ws,L5 w))(_:PF ws)(_:∀(M':MH)(lr:r4)(ps:t_)(rs:sq),SD.Sub M M'->M lr=KC->M' lr=KA (.lst (ps.map D.ref))->WQ ws (2*ws.length) rs->RL M' ps rs->(∀p∈ps,p≠lr/\M p=KC)->Q (.ref lr) M')
def sA(T:Tx K mg):Cal P w K mg base 7 "rings_of" (Nl N3):=by
 refine fH (k:=6) T.gB cw λf _ _ _ s H _ C=>#[_,(aj (aA 1 cw.nd (ao (j6 T).m C (ae (dv 0) af))) (aj (aA 2 cw.nd (aV af)) (aj (aA 3 cw.nd wL) (aj (gh HR rfl rfl T.p_ (ae (av aP ag (aI bC rfl T.pa bA (ae (dv 0) af))) af) (aw 4 cw.nd) (aq (aR (rE (jK C) (dv 4) (dv 3)) (aj (aA 5 cw.nd (ao (qz T).m C (ae (dv 0) (ae (dv 1) (ae (dv 4) af))))) (aj (cg (bE (dv 2) (ae (dv 5) af))) (aq (bP HR rfl (aQ (dv 5)) (aw 6 cw.nd) (aq (ye (jK C) (dv 3) (dv 6) iR)))))) aF))) (aq (ay (dv 2))))))),λ_ M Q h=>?_];let[t,b,X,Y,ws,8,S,W,hU,hF,k]:=h;let g0:(ws.map (LQ t b X Y)).length=ws.length:=by simp
 refine #[7,t,b,X,Y,ws,8,S,W,λM1 ld kvs L Z V=>?_];refine #[LR rfl,λl a0=>λy I=>?_];let J:y≠l:=λz=>by subst z;rw[ai]at I;cases I
 let c0:M1 y=KC:=by let h:=I;rw[ak J]at h;exact h
 exists 7,a9 (aX ⋯),2*ws.length,(by rw[g0];simp),();exists λi δ r=>Y4 λ(ps:t_) (x:sq) (n:Nat) (Sg:Int->Bool) (o4 o5 o6:v9)=>Q5 (δ=[KA (.tup (ws.map (LQ t b X Y))),KA (.ref ld),KA (.ref l),KA (.ref y),o4,o5,o6]) (SD.Sub M1 r) (r l=KA (.lst (ps.map D.ref))) (r y=KA (Pl n Sg)) (ps.length<=i) (n<=i*80) (∀g:Nat,Sg (g:Int)=decide (g∈x.flatten)) (WQ ws i x) (RL r ps x) (∀p∈ps,p≠l/\p≠y/\M1 p=KC),?_,?_
 .exact #[[],[],0,λ_=>KG,_,_,7,.new I (.new a0 .refl),(by rw[ak J.symm,ai];rfl),ai,Hu _,IB _,λg=>by simp,8,.nil,λp N=>by cases N]
 .rintro i δ r hi ⟨ps,x,n,Sg,o4,o5,o6,rfl,sb,C,hg,h0,i0,hS,R,O,u⟩;(try dsimp only[SD.aK])
  refine Qw λB hB=>?_;exists 7,7,(i:Int),y,n,Sg,8,8,hg,7;rw[hS];refine aZ (λh=>?_) (λh=>hB _ _ #[ps,x,n,Sg,_,_,7,sb,C,hg,(),(),hS,#[x,R,.inl #[‹h›,rfl]],O,u]);let k0:i∉x.flatten:=‹h›
  refine #[7,7,7,t,b,X,Y,ws,M,ld,kvs,L,i,8,8,8,S,W,hU,hF,hi,zZ V sb,λp j N nr eq=>?_];let kb:=tM hU hF hi nr;let c1:∀{a o G},r a=KA o->(au r p G) a=KA o:=λh=>by rw[ak (az h N)];exact h
  let d0:p≠l:=(az C N).symm;let b0:p≠y:=(az hg N).symm;refine #[7,l,7,c1 C,7,_,7,c1 C,(by simp;omega),?_];let c2:∀{a o G D'},r a=KA o->a≠l->(au (au r p G) l D') a=KA o:=λh n=>by rw[ak n];exact c1 h
  let e0:=c2 (G:=.lst ((rn ws i j).map v_)) (D':=.lst (ps.map D.ref++[.ref p])) hg J;let U:(au (au r p (.lst ((rn ws i j).map v_))) l (.lst (ps.map D.ref++[.ref p]))) p=KA (.lst ((rn ws i j).map v_)):=by rw[ak d0,ai]
  let f0:(au (au r p (.lst ((rn ws i j).map v_))) l (.lst (ps.map D.ref++[.ref p]))) l=KA (.lst (ps.map D.ref++[.ref p])):=ai;let c3:∀{a o},r a=KA o->a≠l->(au (au r p (.lst ((rn ws i j).map v_))) l (.lst (ps.map D.ref++[.ref p]))) a=KA o:=λh n=>c2 h n;clear c2;generalize au (au r p (.lst ((rn ws i j).map v_))) l (.lst (ps.map D.ref++[.ref p]))=N2 at e0 U f0 c3 ⊢;exists 7,(rn ws i j).map v_,U;exists λa δ v=>OJ λ(F:Nat) (S':Int->Bool) (o6:v9)=>Q4 (δ=[KA (.tup (ws.map (LQ t b X Y))),KA (.ref ld),KA (.ref l),KA (.ref y),KA (.int (i:Int)),KA (.ref p),o6]) (v y=KA (Pl F S')) (∀c,c≠y->v c=N2 c) (F<=n+a) (∀g:Nat,S' (g:Int)=(decide (g∈x.flatten)||decide (g∈(rn ws i j).take a))),#[n,Sg,7,e0,λ_ _=>rfl,Hu _,λg=>by rw[hS];simp],λa δ v _ z=>by let[_,_,_,_,_,z,_]:=z;show v p=_;rw[z p b0];exact U,?_
  .rintro a d δ v ha hd ⟨F,S',o6,rfl,h1,h2,h3,h4⟩;let n0:a<j+1:=by have:a<((rn ws i j).map v_).length:=ha;simpa[kn]using this
   let hd:((rn ws i j).map v_)[a]?=KA d:=hd;rw[Hv]at hd;cases eg:(rn ws i j)[a]? with
   |none=>rw[eg]at hd;cases hd
   |some g=>
    rw[eg]at hd
    cases hd
    exists 7,7,y,(g:Int),F,S',8,8,h1,()
    refine #[F+1,_,7,ai,λc hc=>by rw[ak hc];exact h2 c hc,(),λg'=>?_]
    rw[h4,List.take_succ,eg]
    let e:decide (((g':Nat):Int)=((g:Nat):Int))=decide (g'=g):=by rw[KN];omega
    rw[e]
    simp only[HQ,Option.toList_some,Jl,Bool.decide_or]
    cases decide (g'=g)<;>cases decide (g'∈x.flatten)<;>simp
  .rintro δ v ⟨F,S',o6,rfl,h1,h2,h3,h4⟩;let h3:F<=n+(j+1):=by simpa[kn]using h3
   let h4:∀g:Nat,S' (g:Int)=(decide (g∈x.flatten)||decide (g∈(rn ws i j).take ((rn ws i j).map v_).length)):=h4;let et:(rn ws i j).take ((rn ws i j).map v_).length=rn ws i j:=Jo (_);rw[et]at h4;let c4:∀{a o},r a=KA o->a≠l->a≠y->v a=KA o:=λh n F=>by rw[h2 _ F];exact c3 h n
   refine hB _ _ #[ps++[p],x++[rn ws i j],F,S',_,_,7,λa o h=>c4 (sb _ _ h) (λz=>by subst z;rw[a0]at h;cases h) (λz=>by subst z;rw[c0]at h;cases h),(by rw[h2 l J.symm,Ib];exact f0),h1,by simp;omega,(),λg=>?_,#[x,R,.inr #[k0,_,#[j,nr,eq,rfl],rfl]],?_,λp' m0=>?_]
   .rw[h4];simp only[List.flatten_append,HQ,Kf,List.flatten_nil,Jm,Bool.decide_or]
   .exact(O.mono λq hq o e=>c4 e (u q hq).1 (u q hq).2.1).snoc (by rw[h2 p b0];exact U)
   .rcases HQ.mp m0 with z|z
    .exact u p' z
    .have:p'=p:=‹z›
     subst this;exact #[d0,b0,dU sb N]
 .rintro δ r ⟨ps,x,n,Sg,o4,o5,o6,rfl,sb,C,hg,h0,i0,hS,R,O,u⟩;exact #[7,#[r,.refl,k r l ps x (SD.Sub.trans Z sb) (dU Z a0) C R O λp N=>#[(u p N).1,dU Z (u p N).2.2]]]
theorem cB:LN ["parts","common","part"] ["parts"] (ar dX):=⋯
inductive MU:Prop
 |mk (p:r4)(qs:List Rat)(b:Nat)(_:x_=.ref p)(_:M p=KA (.lst (qs.map LI)))(_:0<b)(_:b<=10^26)(_:(∀q∈qs,q.den ∣ b))(_:∀c:Nat,0<c->c ∣ b->(∀q∈qs,q.den ∣ c)->Q (.int (c:Int)) M)
def gM(T:Tx K mg):Cal P w K mg base 2 "common_bottom" (Nl MU):=by
 refine fH (k:=1) T.g_ cB λf _ _ _ s H _ F=>#[_,(aj (aA 1 cB.nd ag) (aj (bP HR rfl (aQ (dv 0)) (aw 2 cB.nd) (aq (aA 1 cB.nd (av aP (av fy (dv 1) (ao (fm T).m F (ae (dv 1) (ae (aB (dv 2) ag) af)))) (aB (dv 2) ag))))) (aq (ay (dv 1))))),λ_ M Q h=>?_];let[p,qs,b,8,C,a,u,l,k]:=h;exists 7,qs.map LI,C;exists λi δ o=>o=M/\Po λ(c:Nat) (v:v9)=>Wb (δ=[KA (.ref p),KA (.int (c:Int)),v]) (0<c) (c ∣ b) (∀q∈qs.take i,q.den ∣ c),#[8,1,7,⋯,Nat.one_dvd _,λq l=>by simp at l],λi δ o _ z=>by let[8,_]:=z;exact C,?_
 .rintro i d δ o L hd ⟨rfl,c,v,rfl,c0,r,x⟩;let hd:(qs.map LI)[i]?=KA d:=hd;rw[Hv]at hd;cases t:qs[i]? with
  |none=>rw[t]at hd;cases hd
  |some q=>
   rw[t]at hd
   cases hd
   let g:=Hz t
   let g0:0<K9 c q.den:=Nat.gcd_pos_of_pos_left _ c0
   let G:c<=b:=Nat.le_of_dvd a r
   let I:K9 c q.den<=c:=Nat.gcd_le_left _ c0
   let bd:∀{n:Nat},n<=10^26->Bd 100 (n:Int):=λ{n} h=>by show(n:Int).natAbs<2^100;omega
   let y:Bd 100 ((c:Int).fdiv ((K9 c q.den:Nat):Int)):=(bd (n:=c) ()).of_le (by rw[Ir _ ()];exact Int.natAbs_ediv_le_natAbs _ _)
   let J:(c:Int).fdiv ((K9 c q.den:Nat):Int)*(q.den:Int)=((Nat.lcm c q.den:Nat):Int):=by
    rw[Ir _ (),<-Int.natCast_ediv,<-Int.natCast_mul]
    congr 1
    rw[Nat.lcm,Nat.mul_comm c q.den,Nat.mul_div_assoc _ (Nat.gcd_dvd_left c q.den),Nat.mul_comm]
   exists 7,7,7,7,c,q.den,8,8,#[(),(bd ()).mono ⋯],7,7,fE (y.mono ⋯) ((bd (Iv (Nat.le_of_dvd a (l q g)) u)).mono ⋯)
   dsimp only
   rw[J]
   refine #[8,Nat.lcm c q.den,7,Nat.lcm_pos c0 q.den_pos,Nat.lcm_dvd r (l q g),λB j=>?_]
   rw[List.take_succ,t]at j
   rcases HQ.mp j with z|z
   .exact Nat.dvd_trans (x B z) (Nat.dvd_lcm_left c q.den)
   .have:B=q:=‹z›
    subst this;exact Nat.dvd_lcm_right c B.den
 .rintro δ o ⟨rfl,c,v,rfl,c0,r,x⟩;exact #[7,LW (k c c0 r (by let e:qs.take (qs.map LI).length=qs:=Jo (_);rw[<-e];exact x))]
theorem qP:LN ["part","bottom"] ["part","bottom"] (ar iW):=⋯
inductive N0:Prop
 |mk (q:Rat)(B:Int)(_:x_=LI q)(_:y3=.int B)(_:Ky 200 q)(_:0<B)(_:B<=10^26)(_:Q (.int (q.num*B.fdiv (q.den:Int))) M)
def gA(T:Tx K mg):Cal P w K mg base 1 "top_over" (Li N0):=by
 refine bo (k:=0) T.hH qP λf _ _ _ s H _ d=>#[_,(aq (ay (av aP (aB (dv 0) ag) (av fy (dv 1) (aB (dv 0) ag))))),λ_ _ M Q h=>?_];let[q,B,8,8,a,h0,h1,k]:=h;let b:Bd 100 B:=by show B.natAbs<2^100;omega
 let c:(B.fdiv (q.den:Int)).natAbs<=B.natAbs:=by rw[Ir _ ()];exact Int.natAbs_ediv_le_natAbs _ _
 exact #[7,7,7,7,7,#[LK q,a.2.mono ⋯],fE (a.1.mono ⋯) ((b.of_le c).mono ⋯),LW k]
theorem aT:LN ["plot","ring","ways","x_bottom","y_bottom","total","x","y","next_x","next_y"] ["plot","ring"] (ar gH):=⋯
def nN{I:OI}{js:sx}{k:MP}{te:TD}{δ:DS}{b:MH}{Q:DK}(c0 a g0 g1:Nat->D)(o:I.n<=1000)(hC:∀p ys,b p=KC->I.C (au b p (.lst ys)))(h:∀i d,i<I.n->I.item i=KA d->d=.tup [c0 i,a i]) (hw:∀i M R,i<I.n->R #[2,λj=>[c0 i,a i][j]?,λM=>Ce M (.tup [c0 i,a i]) [c0 i,a i]] M->k (cδ [KA (.tup [c0 i,a i]),KC] js δ) M R) (h0:∀i M (K:DK),i<I.n->K (g0 i) M->te (cδ [KA (.tup [c0 i,a i]),KA (c0 i)] js δ) M K) (h1:∀i M (K:DK),i<I.n->K (g1 i) M->te (cδ [KA (.tup [c0 i,a i]),KA (a i)] js δ) M K) (q:∀p,b p=KC->Q (.ref p) (au b p (.lst ((HM I.n).flatMap λi=>[g0 i,g1 i])))):FZ I js k te δ b Q:=by
 refine #[o,λp l=>#[λi ys M=>ys=(HM i).flatMap (λi=>[g0 i,g1 i])/\M=au b p (.lst ys),#[8,rfl],?_,?_,?_]]
 .rintro i ys M _ ⟨_,rfl⟩;exact hC p ys l
 .rintro i ys d M c hd ⟨rfl,rfl⟩;obtain rfl:=h i d c hd;refine hw i _ _ c #[LR rfl,λj f M=>f=(HM i).flatMap (λi=>[g0 i,g1 i])++[g0 i,g1 i].take j/\M=au b p (.lst f),#[by simp,rfl],λ_ _ _ _ _=>rfl,?_,?_]
  .rintro j f e M m g ⟨rfl,rfl⟩;let m:j<2:=m;let g:[c0 i,a i][j]?=KA e:=g;rcases(():j=0\/j=1)with rfl|rfl
   .cases g;exact h0 i _ _ c #[_,.refl,ai,by simp,by rw[cC]]
   .cases g;exact h1 i _ _ c #[_,.refl,ai,by simp,by rw[cC]]
  .rintro f M ⟨rfl,rfl⟩;refine #[?_,rfl];rw[Kb,List.flatMap_append];simp
 .rintro ys M ⟨rfl,rfl⟩;exact q p l
inductive Mr:Prop
 |mk (t b X Y:Int)(ws:vp)(p:r4)(r:sx)(_:x_=.tup (ws.map (LQ t b X Y)))(_:y3=.ref p)(_:M p=KA (.lst (r.map v_)))(_:Lm t b X Y)(_:(∀w∈ws,L5 w))(_:ws.length<=40)(_:r.length<=80)(_:(∀g∈r,g<2*ws.length))(_:∀tot B:Int,Q (.tup [.int tot,.int B]) M)
def pC(T:Tx K mg):Cal P w K mg base 3 "twice_area" (Li Mr):=by
 refine bo (k:=2) T.hJ aT λf _ _ _ s H _ J=>#[_,(aj (iq 2 aT.nd (LO.of (xs:=["face"]) (js:=[0]) rfl) rfl (aQ (dv 1)) (λ_ _ _ _=>bD) (λ_ _ _ _=>(ao (cu T).m J (ae (dv 1) (ae (dv 0) af))))) (aj (aA 3 aT.nd (ao (gM T).m J (ae (wu (LO.of (xs:=["way","corner"]) (js:=[]) rfl) rfl (aQ (dv 2)) (λ_ _ _ _=>(aQ (dv 0))) (λ_ _ _ _=>(aB (dv 1) ag))) af))) (aj (aA 4 aT.nd (ao (gM T).m J (ae (wu (LO.of (xs:=["way","corner"]) (js:=[]) rfl) rfl (aQ (dv 2)) (λ_ _ _ _=>(aQ (dv 0))) (λ_ _ _ _=>(aB (dv 1) ag))) af))) (aj (aA 5 aT.nd ag) (aj (bP HR rfl (aQ (dv 2)) (bg rfl (ax (bg rfl (ax (aw 6 aT.nd) (ax (aw 7 aT.nd) aS))) (ax (bg rfl (ax (aw 8 aT.nd) (ax (aw 9 aT.nd) aS))) aS))) (aj (tw 5 aT.nd wK (av aP (ao (gA T).m J (ae (dv 6) (ae (dv 3) af))) (ao (gA T).m J (ae (dv 9) (ae (dv 4) af))))) (aq (tw 5 aT.nd Df (av aP (ao (gA T).m J (ae (dv 8) (ae (dv 3) af))) (ao (gA T).m J (ae (dv 7) (ae (dv 4) af)))))))) (aq (ay (aJ (ae (dv 5) (ae (av aP (dv 3) (dv 4)) af)))))))))),λ_ _ M Q h=>?_];let[t,b,X,Y,ws,p,r,8,8,hp,S,hU,y0,z0,J,k]:=h;refine #[7,_,hp,comp_map (λj=>LQ t b X Y (fw ws ((r[j]?).getD 0))) (by show(r.map v_).length<=1000000;simp;omega) (λq ys V=>by show(au M q _) p=_;rw[ak (az hp V)];exact hp) ?_ (λF u0=>?_)]
 .intro j d M6 hj hd sb;let hd:(r.map v_)[j]?=KA d:=hd;rw[Hv]at hd;cases y:r[j]? with
  |none=>rw[y]at hd;cases hd
  |some g=>
   rw[y]at hd
   cases hd
   exact #[7,λK hK=>#[7,7,t,b,X,Y,ws,g,8,8,J g (Hz y),(),hK _ .refl]]
 let e1:(HM (r.map v_).length).map (λj=>LQ t b X Y (fw ws ((r[j]?).getD 0)))=r.map λg=>LQ t b X Y (fw ws g):=by
  rw[Ho];apply List.ext_getElem
  .simp
  .intro i h1 h2;simp at h1;simp[h1]
 dsimp only;rw[e1];let C:(au M F (.lst (r.map λg=>LQ t b X Y (fw ws g)))) F=KA (.lst (r.map λg=>LQ t b X Y (fw ws g))):=ai;let c0:SD.Sub M (au M F (.lst (r.map λg=>LQ t b X Y (fw ws g)))):=.new u0 .refl;generalize au M F (.lst (r.map λg=>LQ t b X Y (fw ws g)))=M1 at C c0 ⊢;let d0:(r.map λg=>LQ t b X Y (fw ws g)).length=r.length:=by simp
 refine #[7,_,C,nN (λi=>LH (Kw t b X 1 (fa ws ((r[i]?).getD 0)).1) (Kw t b Y 1 (fa ws ((r[i]?).getD 0)).2)) (λi=>LH (Kw t b X 1 (fb ws ((r[i]?).getD 0)).1) (Kw t b Y 1 (fb ws ((r[i]?).getD 0)).2)) (λi=>LI (Kw t b X 1 (fa ws ((r[i]?).getD 0)).1)) (λi=>LI (Kw t b X 1 (fb ws ((r[i]?).getD 0)).1)) (by show(r.map λg=>LQ t b X Y (fw ws g)).length<=1000;omega) (λq ys V=>by show(au M1 q _) F=_;rw[ak (az C V)];exact C) (λi d L hd=>?_) (λi M R L h=>#[7,7,h]) (λi M K L h=>#[7,7,h]) (λi M K L h=>#[7,7,h]) (λpx e0=>?_)]
 .have hd:(r.map λg=>LQ t b X Y (fw ws g))[i]?=KA d:=hd;rw[Hv]at hd;cases y:r[i]? with
  |none=>rw[y]at hd;cases hd
  |some g=>
   rw[y]at hd
   cases hd
   rfl
 obtain⟨e,rfl⟩:∃e:Nat,b=(e:Int):=#[b.toNat,by have:=S.b0;omega];let N:0<e:=by have:=S.b0;omega
 let dv:∀(Z x:Int),(Kw t (e:Int) Z 1 x).den ∣ e:=λZ x=>by
  let h:=zT (n:=x*t+Z*1) (d:=(e:Int)*1) ()
  rw[Int.mul_one (e:Int)]at h
  unfold Kw
  rw[Int.mul_one (e:Int)]
  exact Int.ofNat_dvd.mp h
 let eX:∀(Z:Int)(O:Vc->Int)(n:Nat),((HM n).flatMap λi=>[LI (Kw t (e:Int) Z 1 (O (fa ws ((r[i]?).getD 0)))),LI (Kw t (e:Int) Z 1 (O (fb ws ((r[i]?).getD 0))))])=((HM n).flatMap λi=>[Kw t (e:Int) Z 1 (O (fa ws ((r[i]?).getD 0))),Kw t (e:Int) Z 1 (O (fb ws ((r[i]?).getD 0)))]).map LI:=λZ O n=>by rw[List.map_flatMap];rfl
 let U:∀(Z:Int)(O:Vc->Int)(n:Nat)(q:Rat),q∈((HM n).flatMap λi=>[Kw t (e:Int) Z 1 (O (fa ws ((r[i]?).getD 0))),Kw t (e:Int) Z 1 (O (fb ws ((r[i]?).getD 0)))])->q.den ∣ e:=λZ O n q V=>by
  let[i,_,L]:=List.mem_flatMap.mp V;rcases Iw.mp L with z|z
  .rw[z];exact dv _ _
  .rw[show q=_ from by simpa using z];exact dv _ _
 let f0:e<=10^26:=by have:=S.b1;omega
 refine #[px,_,e,8,(by rw[ai];dsimp only;rw[d0];exact congrArg (λz=>KA (MO.lst z)) (eX X (λv=>v.1) r.length)),N,f0,U X (λv=>v.1) _,λxb a1 v0 c1=>?_];let G:∀{o},(au M1 px o) F=KA (.lst (r.map λg=>LQ t (e:Int) X Y (fw ws g))):=λ{o}=>by rw[ak (az C e0)];exact C
 let w0:∀{o},SD.Sub M (au M1 px o):=λ{o}=>.new e0 c0;refine #[7,_,G,nN (λi=>LH (Kw t (e:Int) X 1 (fa ws ((r[i]?).getD 0)).1) (Kw t (e:Int) Y 1 (fa ws ((r[i]?).getD 0)).2)) (λi=>LH (Kw t (e:Int) X 1 (fb ws ((r[i]?).getD 0)).1) (Kw t (e:Int) Y 1 (fb ws ((r[i]?).getD 0)).2)) (λi=>LI (Kw t (e:Int) Y 1 (fa ws ((r[i]?).getD 0)).2)) (λi=>LI (Kw t (e:Int) Y 1 (fb ws ((r[i]?).getD 0)).2)) (by show(r.map λg=>LQ t (e:Int) X Y (fw ws g)).length<=1000;omega) (λq ys V=>by show(au _ q _) F=_;rw[ak (az G V)];exact G) (λi d L hd=>?_) (λi M R L h=>#[7,7,h]) (λi M K L h=>#[7,7,h]) (λi M K L h=>#[7,7,h]) (λpy g0=>?_)]
 .have hd:(r.map λg=>LQ t (e:Int) X Y (fw ws g))[i]?=KA d:=hd;rw[Hv]at hd;cases y:r[i]? with
  |none=>rw[y]at hd;cases hd
  |some g=>
   rw[y]at hd
   cases hd
   rfl
 refine #[py,_,e,8,(by rw[ai];dsimp only;rw[d0];exact congrArg (λz=>KA (MO.lst z)) (eX Y (λv=>v.2) r.length)),N,f0,U Y (λv=>v.2) _,λyb d1 x0 f1=>?_];let i0:∀{o o'},py≠F->(au (au M1 px o) py o') F=KA (.lst (r.map λg=>LQ t (e:Int) X Y (fw ws g))):=λne=>by rw[ak ne.symm];exact G
 let k0:py≠F:=(az G g0).symm;exists 7,_,i0 k0;let a0:=SD.Sub.new (o:=MO.lst ((HM (r.map λg=>LQ t (e:Int) X Y (fw ws g)).length).flatMap λi=>[LI (Kw t (e:Int) Y 1 (fa ws ((r[i]?).getD 0)).2),LI (Kw t (e:Int) Y 1 (fb ws ((r[i]?).getD 0)).2)])) g0 w0;dsimp only at a0 ⊢;let m0:=i0 (o:=MO.lst ((HM (r.map λg=>LQ t (e:Int) X Y (fw ws g)).length).flatMap λi=>[LI (Kw t (e:Int) X 1 (fa ws ((r[i]?).getD 0)).1),LI (Kw t (e:Int) X 1 (fb ws ((r[i]?).getD 0)).1)])) (o':=MO.lst ((HM (r.map λg=>LQ t (e:Int) X Y (fw ws g)).length).flatMap λi=>[LI (Kw t (e:Int) Y 1 (fa ws ((r[i]?).getD 0)).2),LI (Kw t (e:Int) Y 1 (fb ws ((r[i]?).getD 0)).2)])) k0;generalize au (au M1 px (MO.lst ((HM (r.map λg=>LQ t (e:Int) X Y (fw ws g)).length).flatMap λi=>[LI (Kw t (e:Int) X 1 (fa ws ((r[i]?).getD 0)).1),LI (Kw t (e:Int) X 1 (fb ws ((r[i]?).getD 0)).1)]))) py (MO.lst ((HM (r.map λg=>LQ t (e:Int) X Y (fw ws g)).length).flatMap λi=>[LI (Kw t (e:Int) Y 1 (fa ws ((r[i]?).getD 0)).2),LI (Kw t (e:Int) Y 1 (fb ws ((r[i]?).getD 0)).2)]))=M3 at a0 m0 ⊢;let l:(0:Int)<(xb:Int)/\(xb:Int)<=10^26:=by have:=Nat.le_of_dvd N v0;omega
 let u:(0:Int)<(yb:Int)/\(yb:Int)<=10^26:=by have:=Nat.le_of_dvd N x0;omega
 exists λi δ M'=>M'=M3/\Qe λ(I:Int) (o6 o7 o8 o9:v9)=>δ=[KA (.tup (ws.map (LQ t (e:Int) X Y))),KA (.ref p),KA (.ref F),KA (.int (xb:Int)),KA (.int (yb:Int)),KA (.int I),o6,o7,o8,o9],#[8,0,_,_,_,7],λi δ M' _ z=>by let[8,_]:=z;exact m0,?_
 .rintro i d δ M' L hd ⟨rfl,I,o6,o7,o8,o9,rfl⟩;let hd:(r.map λg=>LQ t (e:Int) X Y (fw ws g))[i]?=KA d:=hd;rw[Hv]at hd;cases y:r[i]? with
  |none=>rw[y]at hd;cases hd
  |some g=>
   rw[y]at hd
   cases hd
   let hg:=J g (Hz y)
   let[_,_,w3]:=eG (ws:=ws) (k:=((g/2:Nat):Int)) () ()
   let W:=hU _ w3
   let W6:∀{z:Int},(0<=z/\z<=20)->(-(10^6)<=z/\z<=10^6):=λ{z} h=>()
   let one:(0:Int)<1/\(1:Int)<=10^6:=⋯
   let rg:((0<=(fa ws g).1/\(fa ws g).1<=20)/\(0<=(fa ws g).2/\(fa ws g).2<=20))/\((0<=(fb ws g).1/\(fb ws g).1<=20)/\(0<=(fb ws g).2/\(fb ws g).2<=20)):=by
    unfold fa fb fw;by_cases h:g%2=0
    .rw[KI h];exact #[#[W.a,W.b],W.c,W.d]
    .rw[KH h];exact #[#[W.c,W.d],W.a,W.b]
   let n0:Ky 200 (Kw t (e:Int) X 1 (fa ws g).1):=S.bx one (W6 rg.1.1)
   let o0:Ky 200 (Kw t (e:Int) Y 1 (fa ws g).2):=S.by' one (W6 rg.1.2)
   let q0:Ky 200 (Kw t (e:Int) X 1 (fb ws g).1):=S.bx one (W6 rg.2.1)
   let r0:Ky 200 (Kw t (e:Int) Y 1 (fb ws g).2):=S.by' one (W6 rg.2.2)
   let tb:∀{q:Rat}{B:Int},Ky 200 q->0<B->B<=10^26->Bd 300 (q.num*B.fdiv (q.den:Int)):=λ{q B} h h0 h1=>by
    let bB:Bd 100 B:=by show B.natAbs<2^100;omega
    let dB:(B.fdiv (q.den:Int)).natAbs<=B.natAbs:=by rw[Ir _ ()];exact Int.natAbs_ediv_le_natAbs _ _
    exact h.1.mul (bB.of_le dB)
   let m6:∀{z:Int},Bd 300 z->Bd 1000000 z:=λh=>h.mono ⋯
   exists 7,8,_,7,7,8,_,7,_,7,8,_,7,7,8,_,7,_,7,8,8
   (try dsimp only[SD.aK])
   refine Qw λB hB=>?_
   exists I,8,7,7,Kw t (e:Int) X 1 (fa ws g).1,(xb:Int),8,8,n0,l.1,l.2,7,7,Kw t (e:Int) Y 1 (fb ws g).2,(yb:Int),8,8,r0,u.1,u.2,fE (m6 (tb n0 l.1 l.2)) (m6 (tb r0 u.1 u.2)),7
   exists 7,7,7,Kw t (e:Int) X 1 (fb ws g).1,(xb:Int),8,8,q0,l.1,l.2,7,7,Kw t (e:Int) Y 1 (fa ws g).2,(yb:Int),8,8,o0,u.1,u.2,fE (m6 (tb q0 l.1 l.2)) (m6 (tb o0 u.1 u.2)),7
   exact hB _ _ #[8,_,_,_,_,7]
 .rintro δ M' ⟨rfl,I,o6,o7,o8,o9,rfl⟩;let s0:Bd 100 (xb:Int):=by show(xb:Int).natAbs<2^100;omega
  let t0:Bd 100 (yb:Int):=by show(yb:Int).natAbs<2^100;omega
  exact #[7,7,7,fE (s0.mono ⋯) (t0.mono ⋯),LR rfl,#[M,a0,k I _]]
theorem cS:LN ["plot","outers","inners","ring"] ["plot"] (ar df):=⋯
inductive Lz:Prop
 |mk (t b X Y:Int)(ws:vp)(_:x_=.tup (ws.map (LQ t b X Y)))(_:Lm t b X Y)(_:ws.length<=40)(_:(∀w∈ws,L5 w))(_:PF ws)(_:∀(M':MH)(lo li:r4)(ps qs:t_)(us vs:sq),SD.Sub M M'->(∀r∈us++vs,W5 ws r)->us.length<=80->vs.length<=80->M' lo=KA (.lst (ps.map D.ref))->M' li=KA (.lst (qs.map D.ref))->RL M' ps us->RL M' qs vs->M lo=KC->M li=KC->(∀p∈ps++qs,M p=KC)->Q (.tup [.ref lo,.ref li]) M')
def jz(T:Tx K mg):Cal P w K mg base 8 "outer_and_inner" (Nl Lz):=by
 refine fH (k:=7) T.hQ cS λf cdv A outer s H E N=>#[_,(aj (fT 1 2 rfl cS.nd (ae (aV af) (ae (aV af) af))) (aj (bP HR rfl (aQ (ao (sA T).m N (ae (dv 0) af))) (aw 3 cS.nd) (aq (aR (aD (fM N.units) (aB (ao (pC T).m N (ae (dv 0) (ae (dv 3) af))) ag) ag) (aq (cg (bE (dv 1) (ae (dv 3) af)))) (aq (cg (bE (dv 2) (ae (dv 3) af))))))) (aq (ay (aJ (ae (dv 1) (ae (dv 2) af))))))),λ_ M Q h=>?_];let[t,b,X,Y,ws,8,S,G,hU,hF,k]:=h;refine #[LR rfl,λy O=>#[LR rfl,λn U=>?_]];let q:y≠n:=az ai U;let I:M n=KC:=by let h:=U;rw[ak q.symm]at h;exact h
 exists _,7;refine #[7,t,b,X,Y,ws,8,S,G,hU,hF,λV lr pr rs W C b0 R c0 f0=>?_];let d0:V y=KA (.lst []):=W _ _ (by rw[ak q,ai]);let e0:V n=KA (.lst []):=W _ _ ai;let g0:SD.Sub M V:=SD.Sub.trans (.new U (.new O .refl)) W;let h0:lr≠y:=λz=>by subst z;rw[ak q,ai]at C;cases C
 let i0:lr≠n:=λz=>by subst z;rw[ai]at C;cases C
 let pn:∀p∈pr,p≠y/\p≠n/\M p=KC:=λp g=>by
  let h:=(f0 p g).2
  let a:p≠n:=λz=>by subst z;rw[ai]at h;cases h
  rw[ak a]at h
  let c:p≠y:=λz=>by subst z;rw[ai]at h;cases h
  rw[ak c]at h
  exact #[c,a,h]
 let k0:=uI R;let m0:=c0.len;let J:=oI hU hF (Hu _) R;exists _,b0;exists λi δ F=>Qe λ(ps qs:t_) (us vs:sq) (o3:v9)=>Q5 (δ=[KA (.tup (ws.map (LQ t b X Y))),KA (.ref y),KA (.ref n),o3]) (∀c,c≠y->c≠n->F c=V c) (F y=KA (.lst (ps.map D.ref))) (F n=KA (.lst (qs.map D.ref))) (RL V ps us) (RL V qs vs) (∀r∈us++vs,r∈rs) (ps.length<=i) (qs.length<=i) (∀p∈ps++qs,p∈pr),#[[],[],[],[],7,λ_ _ _=>rfl,d0,e0,.nil,.nil,(λr N=>by cases N),Hu _,Hu _,λp g=>by cases g],λi δ F _ z=>by let[_,_,_,_,_,_,z,_]:=z;show F lr=_;rw[z lr h0 i0];exact b0,?_
 .rintro i d δ F hi hd ⟨ps,qs,us,vs,o3,rfl,l,u,v,R1,R2,L,l1,l2,j⟩;let hi:i<pr.length:=by have:i<(pr.map D.ref).length:=hi;simpa using this
  let hd:(pr.map D.ref)[i]?=KA d:=hd;rw[Hv,Ht hi]at hd;cases hd;let[r,er,Z]:=c0.get hi;let a0:pr[i]∈pr:=Iq hi;let[p1,p2,p3]:=pn _ a0;let A:=J r (Hz er);refine #[7,7,t,b,X,Y,ws,pr[i],r,8,8,(by rw[l _ p1 p2];exact Z),S,hU,G,by have:=A.len;omega,A.lt,λn0 B=>?_];exists 7,trivial,7;let mr:=Hz er;refine aZ (λh=>?_) (λh=>?_)
  .refine #[7,y,7,u,7,_,7,u,(by rw[Ho];omega),?_];refine #[ps++[pr[i]],qs,us++[r],vs,7,λc a c2=>by rw[ak a];exact l c a c2,by rw[ai,Ib];rfl,by rw[ak q.symm];exact v,R1.snoc Z,R2,λx hx=>by simp only[HQ,Jl]at hx L;exact hx.elim (λh=>h.elim (λh=>L x (.inl h)) λh=>h▸mr) λh=>L x (.inr h),by simp;omega,(),λp g=>?_];rcases HQ.mp g with z|z
   .rcases HQ.mp z with z|z
    .exact j p (HQ.mpr (.inl z))
    .rw[show p=pr[i] by simpa using z];exact a0
   .exact j p (HQ.mpr (.inr z))
  .refine #[7,n,7,v,7,_,7,v,(by rw[Ho];omega),?_];refine #[ps,qs++[pr[i]],us,vs++[r],7,λc a c2=>by rw[ak c2];exact l c a c2,by rw[ak q];exact u,by rw[ai,Ib];rfl,R1,R2.snoc Z,λx hx=>by simp only[HQ,Jl]at hx L;exact hx.elim (λh=>L x (.inl h)) λh=>h.elim (λh=>L x (.inr h)) λh=>h▸mr,(),by simp;omega,λp g=>?_];rcases HQ.mp g with z|z
   .exact j p (HQ.mpr (.inl z))
   .rcases HQ.mp z with z|z
    .exact j p (HQ.mpr (.inr z))
    .rw[show p=pr[i] by simpa using z];exact a0
 .rintro δ F ⟨ps,qs,us,vs,o3,rfl,l,u,v,R1,R2,L,l1,l2,j⟩;let l1:ps.length<=(pr.map D.ref).length:=l1;rw[Ho]at l1;let l2:qs.length<=(pr.map D.ref).length:=l2;rw[Ho]at l2;let kp:∀p∈ps++qs,F p=V p:=λp g=>let z:=pn p (j p g);l p z.1 z.2.1
  refine #[7,7,LR rfl,LW (k F y n ps qs us vs (λa o h=>?_) (λr N=>J r (L r N)) (by have:=R1.len;omega) (by have:=R2.len;omega) u v (R1.mono λp g o e=>by rw[kp p (HQ.mpr (.inl g))];exact e) (R2.mono λp g o e=>by rw[kp p (HQ.mpr (.inr g))];exact e) O I λp g=>(pn p (j p g)).2.2)];rw[l a (λz=>by subst z;rw[O]at h;cases h) (λz=>by subst z;rw[I]at h;cases h)];exact g0 _ _ h
theorem nv:LN ["one","other"] ["one","other"] (ar gD):=⋯
inductive Mw:Prop
 |mk (c d g h:Rat)(_:x_=LH c d)(_:y3=LH g h)(_:Ky 100000 c)(_:Ky 100000 d)(_:Ky 100000 g)(_:Ky 100000 h)(_:∀s:Rat×Rat,s=(if Kz c d g h then(c,d)else(g,h))->Q (LH s.1 s.2) M)
def jD(T:Tx K mg):Cal P w K mg base 3 "earlier_of" (Li Mw):=by
 refine bo (k:=2) T.hV nv λf _ _ _ s H _ b=>#[_,(aq (ay (jj (dW (ao (cx T).m b (ae (dv 0) (ae (dv 1) af)))) (dv 0) (dv 1)))),λ_ _ M Q h=>?_];let[c,d,g,a,8,8,h1,h2,e,i,k]:=h;exists 7,7,c,d,g,a,8,8,h1,h2,e,i,7;refine aZ (λh=>?_) (λh=>?_)
 .have z:Kz c d g a:=by simpa[Kz]using h
  have:=k (c,d) (by rw[KI z]);exact #[7,LW this]
 .have z:¬Kz c d g a:=by simpa[Kz]using h
  have:=k (g,a) (by rw[KH z]);exact #[7,LW this]
theorem cL:LN ["plot","ring","first","face"] ["plot","ring"] (ar fh):=⋯
inductive MX:Prop
 |mk (t b X Y:Int)(ws:vp)(p:r4)(r:sx)(_:x_=.tup (ws.map (LQ t b X Y)))(_:y3=.ref p)(_:M p=KA (.lst (r.map v_)))(_:Lm t b X Y)(_:(∀w∈ws,L5 w))(_:ws.length<=40)(_:0<r.length)(_:(∀g∈r,g<2*ws.length))(_:∀c,Lh c->Q (L6 t b X Y c) M)
def mx(T:Tx K mg):Cal P w K mg base 4 "first_corner" (Li MX):=by
 refine bo (k:=3) T.hY cL λf _ _ _ s H _ e=>#[_,(aj (aA 2 cL.nd (aB (ao (cu T).m e (ae (dv 0) (ae (aB (dv 1) ag) af))) ag)) (aj (bP HR rfl (aQ (dv 1)) (aw 3 cL.nd) (aq (aA 2 cL.nd (ao (jD T).m e (ae (dv 2) (ae (aB (ao (cu T).m e (ae (dv 0) (ae (dv 3) af))) ag) af)))))) (aq (ay (dv 2))))),λ_ _ M Q h=>?_];let[t,b,X,Y,ws,p,r,8,8,v,S,C,F,j,e,k]:=h
 obtain⟨g0,G,x⟩:∃g0 G,r=g0::G:=by
  cases r with
  |nil=>simp at j
  |cons a l=>exact #[a,l,rfl]
 let o:∀{z:Vc},Lh z->Ky 100000 (Kw t b X 1 z.1)/\Ky 100000 (Kw t b Y 1 z.2):=λ{z} h=>by
  let one:(0:Int)<1/\(1:Int)<=10^6:=⋯
  exact #[(S.bx one (by have:=h.1;omega)).mono ⋯,(S.by' one (by have:=h.2;omega)).mono ⋯]
 exists 7,7,_,_,v,(show atI _ ((0:Nat):Int)=KA (.int (g0:Int))from aW (by rw[x];rfl)),t,b,X,Y,ws,g0,8,8,e g0 (by rw[x];simp),(),7;exists 7,_,v;exists λi δ q=>q=M/\Po λ(c:Vc) (y:v9)=>Lh c/\δ=[KA (.tup (ws.map (LQ t b X Y))),KA (.ref p),KA (L6 t b X Y c),y],#[8,fa ws g0,_,yu C (e g0 (by rw[x];simp)),rfl],λi δ q _ z=>by let[8,_]:=z;exact v,?_
 .rintro i d δ q u hd ⟨rfl,c,y,b1,rfl⟩;let u:i<r.length:=by have:i<(r.map v_).length:=u;simpa using this
  let hd:(r.map v_)[i]?=KA d:=hd;rw[Hv,Ht u]at hd;cases hd;let I:=e r[i] (Iq u);let B:=yu C I;exists 7,7,7,t,b,X,Y,ws,r[i],8,8,I,(),7;refine #[_,_,_,7,8,(o b1).1,(o b1).2,(o B).1,(o B).2,λs n=>?_];let n:s=if Kz (Kw t b X 1 c.1) (Kw t b Y 1 c.2) (Kw t b X 1 (fa ws r[i]).1) (Kw t b Y 1 (fa ws r[i]).2)then(Kw t b X 1 c.1,Kw t b Y 1 c.2)else(Kw t b X 1 (fa ws r[i]).1,Kw t b Y 1 (fa ws r[i]).2):=n;split at n
  .subst n;exact #[8,c,_,b1,rfl]
  .subst n;exact #[8,fa ws r[i],_,B,rfl]
 .rintro δ q ⟨rfl,c,y,b1,rfl⟩;exact #[7,LW (k c b1)]
theorem xj:LN ["wall","spot"] ["wall","spot"] (ar oQ):=⋯
inductive Pe:Prop
 |mk (n:Nat)(a b c d x y:Rat)(_:x_=Kv a b c d)(_:y3=LH x y)(_:Ky n a)(_:Ky n b)(_:Ky n c)(_:Ky n d)(_:Ky n x)(_:Ky n y)(_:n<=100000)(_:Q (.bl (!decide (Kz x y a b)&&decide (Kz x y c d))) M)
def zF(T:Tx K mg):Cal P w K mg base 3 "spans" (Li Pe):=by
 refine bo (k:=2) T.h_ xj λf _ _ _ s H _ i=>#[_,(aq (ay (l7 (yN (ao (cx T).m i (ae (dv 1) (ae (aB (dv 0) ag) af)))) (oV (ao (cx T).m i (ae (dv 1) (ae (aB (dv 0) ag) af))))))),λ_ _ M Q h=>?_];let[n,a,b,c,d,x,y,8,8,l,o,p,hd,hx,j,r,k]:=h;let e:∀{q:Rat},Ky n q->Ky 100000 q:=λz=>z.mono r;walk_at "u"
 exact yg (!decide (Kz x y a b)) (decide (Kz x y c d)) (λK g=>#[7,7,7,x,y,a,b,8,8,e hx,e j,e l,e o,7,g]) (λ_ K g=>#[7,7,7,x,y,c,d,8,8,e hx,e j,e p,e hd,g]) (LW k)
theorem p5:LN ["one","other"] ["one","other"] (ar iU):=⋯
inductive Nd:Prop
 |mk (a b e f:Rat)(_:x_=LH a b)(_:y3=LH e f)(_:Ky 100000 a)(_:Ky 100000 b)(_:Ky 100000 e)(_:Ky 100000 f)(_:∀s:Rat×Rat,s=(if Kz e f a b then(a,b)else(e,f))->Q (LH s.1 s.2) M)
def rp(T:Tx K mg):Cal P w K mg base 3 "later_of" (Li Nd):=by
 refine bo (k:=2) T.ia p5 λf _ _ _ s H _ c=>#[_,(aq (ay (jj (dW (ao (cx T).m c (ae (dv 1) (ae (dv 0) af)))) (dv 0) (dv 1)))),λ_ _ M Q h=>?_];let[a,b,e,f,8,8,h1,h2,d,g,k]:=h;exists 7,7,e,f,a,b,8,8,d,g,h1,h2,7;refine aZ (λh=>?_) (λh=>?_)
 .have z:Kz e f a b:=by simpa[Kz]using h
  have:=k (a,b) (by rw[KI z]);exact #[7,LW this]
 .have z:¬Kz e f a b:=by simpa[Kz]using h
  have:=k (e,f) (by rw[KH z]);exact #[7,LW this]
theorem fu:LN ["one","other","start","end","place","deciding"] ["one","other"] (ar jk):=⋯
inductive Ng:Prop
 |mk (t b X Y:Int)(U V:Wl)(_:x_=LQ t b X Y U)(_:y3=LQ t b X Y V)(_:Lm t b X Y)(_:L5 U)(_:L5 V)(_:Q (.bl (MQ U V)) M)
def mS(T:Tx K mg):Cal P w K mg base 4 "is_above" (Li Ng):=by
 refine bo (k:=3) T.ib fu λf _ _ _ s H _ x=>#[_,(aj (fT 2 3 rfl fu.nd (ae (ao (rp T).m x (ae (aB (dv 0) ag) (ae (aB (dv 1) ag) af))) (ae (ao (jD T).m x (ae (aB (dv 0) ag) (ae (aB (dv 1) ag) af))) af))) (aj (aR (yU (dW (ao (cx T).m x (ae (dv 2) (ae (dv 3) af))))) (aq (ay iR)) aF) (aj (bG (jj (aD (bj x.units) (aB (dv 0) ag) (aB (dv 1) ag)) (aJ (ae ag (ae (dv 3) af))) (aJ (ae ag (ae (dv 2) af)))) (bg rfl (ax (aw 4 fu.nd) (ax (aw 5 fu.nd) aS)))) (aj (aR (aD (bj x.units) (dv 5) (aB (dv 0) (dv 4))) (aq (ay (bW (bj x.units) (ao (cV T).m x (ae (dv 1) (ae (dv 5) af))) ag))) aF) (aq (ay (bW (bj x.units) (ao (cV T).m x (ae (dv 0) (ae (dv 5) af))) (iO dO ag)))))))),λ_ _ M Q h=>?_];let[t,b,X,Y,U,V,8,8,S,g,i,k]:=h;let C:=S.t0;let F:=S.b0;let one:(0:Int)<1/\(1:Int)<=10^6:=⋯
 let W6:∀{z:Int},(0<=z/\z<=20)->(-(10^6)<=z/\z<=10^6):=λ{z} h=>()
 let bx:∀{z:Int},(0<=z/\z<=20)->Ky 200 (Kw t b X 1 z):=λ{z} h=>S.bx one (W6 h);let by':∀{z:Int},(0<=z/\z<=20)->Ky 200 (Kw t b Y 1 z):=λ{z} h=>S.by' one (W6 h)
 let n:∀{q:Rat},Ky 200 q->Ky 100000 q:=λz=>z.mono ⋯
 let W:∃r u:Int,(if Kz (Kw t b X 1 V.1) (Kw t b Y 1 V.2.1) (Kw t b X 1 U.1) (Kw t b Y 1 U.2.1)then(Kw t b X 1 U.1,Kw t b Y 1 U.2.1)else(Kw t b X 1 V.1,Kw t b Y 1 V.2.1))=(Kw t b X 1 r,Kw t b Y 1 u)/\(0<=r/\r<=20)/\(0<=u/\u<=20)/\la r u=max (l1 U) (l1 V)/\((l1 V<l1 U/\r=U.1/\u=U.2.1)\/(¬l1 V<l1 U/\r=V.1/\u=V.2.1)):=by
  let z:=pb (X:=X) (Y:=Y) (p:=V.1) (q:=V.2.1) (e:=U.1) (f:=U.2.1) C F i.b g.b
  by_cases y:la V.1 V.2.1<la U.1 U.2.1
  .exact #[U.1,U.2.1,by rw[KI (z.mpr y)],g.a,g.b,by unfold l1;omega,.inl #[y,8,rfl]]
  .exact #[V.1,V.2.1,by rw[KH (λq=>y (z.mp q))],i.a,i.b,by unfold l1;omega,.inr #[y,8,rfl]]
 let G:∃ex v:Int,(if Kz (Kw t b X 1 U.2.2.1) (Kw t b Y 1 U.2.2.2) (Kw t b X 1 V.2.2.1) (Kw t b Y 1 V.2.2.2)then(Kw t b X 1 U.2.2.1,Kw t b Y 1 U.2.2.2)else(Kw t b X 1 V.2.2.1,Kw t b Y 1 V.2.2.2))=(Kw t b X 1 ex,Kw t b Y 1 v)/\(0<=ex/\ex<=20)/\(0<=v/\v<=20)/\la ex v=min (l2 U) (l2 V)/\((l2 U<l2 V/\ex=U.2.2.1/\v=U.2.2.2)\/(¬l2 U<l2 V/\ex=V.2.2.1/\v=V.2.2.2)):=by
  let z:=pb (X:=X) (Y:=Y) (p:=U.2.2.1) (q:=U.2.2.2) (e:=V.2.2.1) (f:=V.2.2.2) C F g.d i.d
  by_cases y:la U.2.2.1 U.2.2.2<la V.2.2.1 V.2.2.2
  .exact #[U.2.2.1,U.2.2.2,by rw[KI (z.mpr y)],g.c,g.d,by unfold l2;omega,.inl #[y,8,rfl]]
  .exact #[V.2.2.1,V.2.2.2,by rw[KH (λq=>y (z.mp q))],i.c,i.d,by unfold l2;omega,.inr #[y,8,rfl]]
 let[r,u,es,Z,I,ls,cs]:=W;let[ex,v,ee,a0,J,le,ce]:=G;refine #[7,7,7,7,_,_,_,7,8,n (bx g.a),n (by' g.b),n (bx i.a),n (by' i.b),λs1 c0=>?_];rw[es]at c0;subst c0;refine #[7,7,7,7,_,_,_,7,8,n (bx g.c),n (by' g.d),n (bx i.c),n (by' i.d),λs2 d0=>?_];rw[ee]at d0;subst d0;exists _,7;exists 7,7,Kw t b X 1 r,Kw t b Y 1 u,Kw t b X 1 ex,Kw t b Y 1 v,8,8,n (bx Z),n (by' I),n (bx a0),n (by' J),7;let L:=pb (X:=X) (Y:=Y) (p:=r) (q:=u) (e:=ex) (f:=v) C F I J;rw[ls,le]at L;refine aZ (λh=>?_) (λh=>?_)
 .have N:¬(max (l1 U) (l1 V)<min (l2 U) (l2 V)):=λz=>by
   let z':=L.mpr z
   unfold Kz at z'
   simp[z']at h
  let e:MQ U V=KG:=by unfold MQ;rw[KH N]
  rw[e]at k;exact LW k
 let N:max (l1 U) (l1 V)<min (l2 U) (l2 V):=L.mp (Decidable.byContradiction λz=>h ((Bool.not_eq_true' _).mpr (KJ z)));dsimp only[SD.cz];refine cE (λδ M'=>M'=M/\Y4 λ(pl j l O B:Int) (o2 o3:v9)=>δ=[KA (LQ t b X Y U),KA (LQ t b X Y V),o2,o3,KA (.int pl),KA (LH (Kw t b X 1 j) (Kw t b Y 1 l))]/\atI [LH (Kw t b X 1 U.1) (Kw t b Y 1 U.2.1),LH (Kw t b X 1 U.2.2.1) (Kw t b Y 1 U.2.2.2)] pl=KA (LH (Kw t b X 1 O) (Kw t b Y 1 B))/\(0<=j/\j<=20)/\(0<=l/\l<=20)/\(0<=B/\B<=20)/\(la j l=la O B->decide (0<sd V j l)=MQ U V)/\(la j l≠la O B->decide (sd U j l<0)=MQ U V)) ?_ (λhu=>?_);rotate_left
 .exists 7,7,7,7,_,_,Pd.of rfl,Pd.of rfl,8,8;rw[LG];exists 7;let q1:=jI (X:=X) (Y:=Y) (p:=U.1) (q:=U.2.1) (e:=V.1) (f:=V.2.1) C F g.b i.b;refine aZ (λh=>?_) (λh=>?_)
  .have e1:l1 U=l1 V:=q1.mp ‹h›;exists 7,LR rfl;exists 7,8,_,7,_,7,8;refine hu _ _ #[8,1,ex,v,U.2.2.1,U.2.2.2,_,7,8,a0,J,g.d,λz=>?_,λz=>?_]
   .rcases ce with⟨o,rfl,rfl⟩|⟨o,rfl,rfl⟩
    .unfold MQ;rw[KI N,KI e1,KI o];rfl
    .have y1:MN U V=0:=BS g i z.symm;let y2:sd V V.2.2.1 V.2.2.2=0:=BS i i rfl;unfold MQ;rw[KI N,KI e1,KH o,y1,y2]
   .rcases ce with⟨o,rfl,rfl⟩|⟨o,rfl,rfl⟩
    .exact absurd rfl z
    .unfold MQ;rw[KI N,KI e1,KH o];rfl
  .have e1:¬l1 U=l1 V:=λz=>h ‹q1.mpr z›;exists 7,LR rfl;exists 7,8,_,7,_,7,8;refine hu _ _ #[8,0,r,u,U.1,U.2.1,_,7,8,Z,I,g.b,λz=>?_,λz=>?_]
   .rcases cs with⟨o,rfl,rfl⟩|⟨o,rfl,rfl⟩
    .unfold MQ;rw[KI N,KH e1,KI o];rfl
    .exact absurd z.symm e1
   .rcases cs with⟨o,rfl,rfl⟩|⟨o,rfl,rfl⟩
    .exact absurd rfl z
    .unfold MQ;rw[KI N,KH e1,KH o];rfl
 rintro δ M' ⟨rfl,pl,j,l,O,B,o2,o3,rfl,f0,e0,R,g0,c1,c2⟩;exists 7,7,7,_,f0,_,_,Pd.of rfl,Pd.of rfl,8,8;rw[LG];let q2:=jI (X:=X) (Y:=Y) (p:=j) (q:=l) (e:=O) (f:=B) C F R g0;exists 7;refine aZ (λh=>?_) (λh=>?_)
 .have z:la j l=la O B:=q2.mp ‹h›;exists 7,7,200,_,_,_,_,_,7,8,bx i.a,by' i.b,bx i.c,by' i.d,bx e0,by' R,⋯;rw[kR C F];let e:decide (HW (sd V j l)=1)=MQ U V:=by rw[<-c1 z,KN];exact ZO _
  show Pu Q (.bl (decide _)) _;rw[e];exact LW k
 .have z:la j l≠la O B:=λq=>h ‹q2.mpr q›;exists 7,7,200,_,_,_,_,_,7,8,bx g.a,by' g.b,bx g.c,by' g.d,bx e0,by' R,⋯;rw[kR C F];let e:decide (HW (sd U j l)=-1)=MQ U V:=by rw[<-c2 z,KN];exact Gu _
  show Pu Q (.bl (decide _)) _;rw[e];exact LW k
theorem fG:LN ["walls","upper","wall"] ["walls"] (ar jm):=⋯
inductive NZ:Prop
 |mk (a:r4)(t b X Y:Int)(us:vp)(_:x_=.ref a)(_:M a=KA (.lst (us.map (LQ t b X Y))))(_:Lm t b X Y)(_:(∀w∈us,L5 w))(_:us≠[])(_:∀w∈us,Q (LQ t b X Y w) M)
def rV(T:Tx K mg):Cal P w K mg base 5 "upper_of" (Nl NZ):=by
 refine fH (k:=4) T.ip fG λf _ _ _ s H _ q=>#[_,(aj (aA 1 fG.nd (aB (dv 0) ag)) (aj (bP HR rfl (aQ (dv 0)) (aw 2 fG.nd) (aq (aR (dW (ao (mS T).m q (ae (dv 2) (ae (dv 1) af)))) (aq (aA 1 fG.nd (dv 2))) aF))) (aq (ay (ao (m8 T).m q (ae (dv 1) af)))))),λ_ M Q h=>?_];let[a,t,b,X,Y,us,8,n,S,o,ne,k]:=h;cases us with
 |nil=>exact absurd rfl ne
 |cons g us=>
  exists 7,_,_,n,aW (j:=0) (v:=LQ t b X Y g) rfl
  exists 7,(g::us).map (LQ t b X Y),n
  exists λi δ l=>l=M/\Po λup p=>δ=[KA (.ref a),KA (LQ t b X Y up),p]/\up∈g::us,#[8,g,7,by simp],λi δ l _ z=>by let[8,_]:=z;exact n,?_
  .rintro i d δ l y hd ⟨rfl,up,p,rfl,e⟩;let[w,x,8]:=jy hd;let r:w∈g::us:=Hz x;exists 7,7,t,b,X,Y,w,up,8,8,S,o w r,o up e,7;exact aZ (λh=>#[7,8,w,7,r]) (λh=>#[8,up,7,e])
  .rintro δ l ⟨rfl,up,p,rfl,e⟩;let W:=o up e;let one:(0:Int)<1/\(1:Int)<=10^6:=⋯
   let u:∀{z:Int},(0<=z/\z<=20)->(-(10^6)<=z/\z<=10^6):=λ{z} h=>()
   let bx:∀{z:Int},(0<=z/\z<=20)->Ky 8000 (Kw t b X 1 z):=λ{z} h=>(S.bx one (u h)).mono ⋯;let by':∀{z:Int},(0<=z/\z<=20)->Ky 8000 (Kw t b Y 1 z):=λ{z} h=>(S.by' one (u h)).mono ⋯
   exact #[7,_,_,_,7,bx W.a,by' W.b,bx W.c,by' W.d,LW (k up e)]
theorem gV:LN ["walls","spot","below"] ["walls","spot"] (ar fU):=⋯
inductive Mg:Prop
 |mk (t b X Y p q:Int)(ws:vp)(_:x_=.tup (ws.map (LQ t b X Y)))(_:y3=LH (Kw t b X 1 p) (Kw t b Y 1 q))(_:Lm t b X Y)(_:(∀w∈ws,L5 w))(_:ws.length<=40)(_:(0<=p/\p<=20))(_:(0<=q/\q<=20))(_:Q .non M)(_:∀w∈ws,Q (LQ t b X Y w) M)
def nM(T:Tx K mg):Cal P w K mg base 6 "upper_below" (Li Mg):=by
 refine bo (k:=5) T.i7 gV λf _ _ _ s H _ o=>#[_,(aj (iq 2 gV.nd (LO.of (xs:=["wall"]) (js:=[1]) rfl) rfl (aQ (dv 0)) (λ_ _ _ _=>(lY (gQ (fg (dW (ao (zF T).m o (ae (dv 0) (ae (dv 1) af)))) (dj (aD (bj o.units) (ao (cV T).m o (ae (dv 0) (ae (dv 1) af))) ag)))))) (λ_ _ _ _=>(dv 0))) (aq (ay (jj (B8 (dv 2)) (ao (rV T).m o (ae (dv 2) af)) jt)))),λ_ _ M Q h=>?_];let[t,b,X,Y,p,q,ws,8,8,S,y,B,C,D,J,L]:=h;let g:(ws.map (LQ t b X Y)).length=ws.length:=by simp
 let one:(0:Int)<1/\(1:Int)<=10^6:=⋯
 let F:∀{z:Int},(0<=z/\z<=20)->(-(10^6)<=z/\z<=10^6):=λ{z} h=>()
 let bx:∀{z:Int},(0<=z/\z<=20)->Ky 200 (Kw t b X 1 z):=λ{z} h=>S.bx one (F h);let by':∀{z:Int},(0<=z/\z<=20)->Ky 200 (Kw t b Y 1 z):=λ{z} h=>S.by' one (F h)
 obtain⟨T,N⟩:∃T:Wl->Bool,∀w,T w=((!decide (Kz (Kw t b X 1 p) (Kw t b Y 1 q) (Kw t b X 1 w.1) (Kw t b Y 1 w.2.1))&&decide (Kz (Kw t b X 1 p) (Kw t b Y 1 q) (Kw t b X 1 w.2.2.1) (Kw t b Y 1 w.2.2.2)))&&decide (LC (LB (Kw t b X 1 w.1) (Kw t b Y 1 w.2.1) (Kw t b X 1 w.2.2.1) (Kw t b Y 1 w.2.2.2) (Kw t b X 1 p) (Kw t b Y 1 q))=1)):=#[_,λ_=>rfl];refine #[7,ws.map (LQ t b X Y),8,oF (λj=>(ws[j]?).bind λw=>if T w=KD then KA (LQ t b X Y w)else KC) (by show(ws.map (LQ t b X Y)).length<=1000000;rw[g];omega) (λ_ _ _=>rfl) ?_ (λG i=>?_)]
 .intro a d O V hd Z;let[w,I,8]:=jy hd;let W:=y _ (Hz I);let R:((ws[a]?).bind λw=>if T w=KD then KA (LQ t b X Y w)else KC)=if T w=KD then KA (LQ t b X Y w)else KC:=by rw[I];rfl
  rw[R];refine #[7,λK r=>?_,λv hv K r=>?_]
  .have n:K (T w) O:=by cases z:T w<;>rw[z]at r<;>exact r
   rw[N]at n;exact nt _ _ (λU e=>#[7,7,200,_,_,_,_,_,7,8,bx W.a,by' W.b,bx W.c,by' W.d,bx C,by' D,⋯,7,e]) (λ_ U e=>#[7,7,200,_,_,_,_,_,7,8,bx W.a,by' W.b,bx W.c,by' W.d,bx C,by' D,⋯,7,e]) n
  .cases z:T w with
   |false=>rw[z]at hv;cases hv
   |true=>
    rw[z]at hv
    cases hv
    exact #[7,r _ .refl]
 dsimp only;rw[g,qt,iE];exists 7,G,7,ai;by_cases u:ws.filter T=[]
 .rw[u];exact gr rfl #[_,.new i .refl,J]
 .refine iK (by
   cases z:ws.filter T with
   |nil=>exact absurd z u
   |cons a l=>rfl) ?_
  exact #[7,G,t,b,X,Y,ws.filter T,8,ai,S,λw x=>y w (J1.mp x).1,u,λw x=>#[_,.new i .refl,L w (J1.mp x).1]]
theorem iQ:LN ["plot","lands","corner","wall"] ["plot","lands","corner"] (ar gu):=⋯
inductive Mv:Prop
 |mk (t b X Y:Int)(ws:vp)(l:r4)(L:sy)(c:Vc)(_:x_=.tup (ws.map (LQ t b X Y)))(_:y3=.ref l)(_:y4=L6 t b X Y c)(_:M l=KA (.lst (L.map D.int)))(_:L.length=2*ws.length)(_:Lm t b X Y)(_:(∀w∈ws,L5 w))(_:PF ws)(_:ws.length<=40)(_:Lh c)(_:∀n:Int,Q (.int n) M)
def pF(T:Tx K mg):Cal P w K mg base 7 "land_about" (QD Mv):=by
 refine m5 (k:=6) T.i_ iQ λf _ _ _ s H _ o=>#[_,(aj (aA 3 iQ.nd (ao (nM T).m o (ae (dv 0) (ae (dv 2) af)))) (aq (ay (jj (aD BD (dv 3) jt) ag (aB (dv 1) (av aP ag (sG (jK o) (dv 0) (ae (dv 3) af)))))))),λ_ _ _ M Q h=>?_];let[t,b,X,Y,ws,l,L,c,8,8,8,r,x,S,g,hF,a,p,k]:=h;refine #[7,7,t,b,X,Y,c.1,c.2,ws,8,8,S,g,a,p.1,p.2,?_,λw q=>?_]
 .exact #[7,7,7,iK rfl (LW (k 0))]
 .obtain⟨n,j⟩:=List.getElem?_of_mem q;let tn:=(Hw.mp j).1;let h2:2*n<L.length:=()
  refine #[7,7,7,gr rfl ?_];refine #[7,7,7,7,_,QE t b X Y w,n,8,(by simp;omega),Pd.of rfl,8,λi y z u=>?_,?_]
  .obtain⟨U,d,rfl⟩:=jy u;exists QE t b X Y U,Pd.of rfl,8;by_cases e:i=n
   .subst e;rw[j]at d;cases d;rw[zu,KL rfl]
   .rw[KJ e];exact CN S.t0 S.b0 (g _ (Hz d)) (g _ q) (hF i n _ _ e d j).ne
  .refine #[a9 (aX ⋯),_,_,r,(by rw[show(2:Int)*((n:Nat):Int)=((2*n:Nat):Int) by omega];exact aW (v:=D.int L[2*n]) (by rw[Hv,Ht h2];rfl)),LW (k _)]
theorem aO:LN ["plot","outers","inners","lands","number","ring","face","ring_at","corner","land"] ["plot"] (ar du):=⋯
inductive MK:Prop
 |mk (t b X Y:Int)(ws:vp)(_:x_=.tup (ws.map (LQ t b X Y)))(_:Lm t b X Y)(_:ws.length<=40)(_:(∀w∈ws,L5 w))(_:PF ws)(_:∀(M':MH)(z:r4)(L:sy),SD.Sub M M'->M z=KC->M' z=KA (.lst (L.map D.int))->L.length=2*ws.length->Q (.ref z) M')
def kr(T:Tx K mg):Cal P w K mg base 9 "lands_of_faces" (Nl MK):=by
 refine fH (k:=8) T.j_ aO λf cdv A outer s H E U=>#[_,(aj (bG (ao (jz T).m U (ae (dv 0) af)) (bg rfl (ax (aw 1 aO.nd) (ax (aw 2 aO.nd) aS)))) (aj (aA 3 aO.nd (av AL (aV (ae ag af)) (av aP ag (aI bC rfl T.pa bA (ae (dv 0) af))))) (aj (bP HR rfl (yV rfl T.oy (ae (dv 1) af)) (bg rfl (ax (aw 4 aO.nd) (ax (aw 5 aO.nd) aS))) (aq (bP HR rfl (aQ (dv 5)) (aw 6 aO.nd) (aq (bG (dv 4) (oM (dv 3) (dv 6))))))) (aj (ve 7 aO.nd (jK U) (LO.of (xs:=["ring"]) (js:=[0]) rfl) rfl (aQ (dv 2)) (λ_ _ _ _=>bD) (λ_ _ _ _=>(ao (mx T).m U (ae (dv 1) (ae (dv 0) af)))) (λ_ _ _ _=>(dv 0))) (aj (bP HR rfl (aQ (ao (iN T).m U (ae (bJ (md rfl) rfl T.pd oG (ae (dv 7) af)) af))) (aw 8 aO.nd) (aj (aA 9 aO.nd (ao (pF T).m U (ae (dv 0) (ae (dv 3) (ae (dv 8) af))))) (aq (bP HR rfl (aQ (jH (jK U) (dv 7) (dv 8) (by intro _ _;with_unfolding_all rfl))) (aw 6 aO.nd) (aq (bG (dv 9) (oM (dv 3) (dv 6)))))))) (aq (ay (dv 3)))))))),λ_ M Q h=>?_];let[t,b,X,Y,ws,8,S,N,hU,hF,k]:=h;let d0:(ws.map (LQ t b X Y)).length=ws.length:=by simp
 refine #[7,t,b,X,Y,ws,8,S,N,hU,hF,λW lo li ps qs m0 ins n0 hA k1 m1 ho hi RO RI n1 o1 p1=>?_];exists 7,8,_,7,_,7,8;let o0:∀r∈m0,W5 ws r:=λr U=>hA r (List.mem_append_left _ U);let c0:∀r∈ins,W5 ws r:=λr U=>hA r (HP _ U);let q1:=RO.len;let r1:=RI.len;refine #[LR rfl,λz0 q0=>#[7,a9 (aX ⋯),.int 0,ai,by rw[d0];omega,by rw[d0];omega,λz hz=>?_]];let O:SD.Sub W (au (au W z0 (.lst [.int 0])) z (.lst (Ic ((2:Int)*((ws.map (LQ t b X Y)).length:Nat)).toNat (.int 0)))):=.new hz (.new q0 .refl);let r0:(au (au W z0 (.lst [.int 0])) z (.lst (Ic ((2:Int)*((ws.map (LQ t b X Y)).length:Nat)).toNat (.int 0)))) z=KA (.lst ((Ic (2*ws.length) (0:Int)).map D.int)):=by rw[ai,d0,show((2:Int)*(ws.length:Nat)).toNat=2*ws.length by omega,List.map_replicate]
 let nz:∀{a o},W a=KA o->a≠z:=λh e=>by
  subst e
  let h0:=SD.Sub.new (o:=.lst [.int 0]) q0 .refl _ _ h
  rw[hz]at h0;cases h0
 let fz:M z=KC:=by
  cases e:M z with
  |none=>rfl
  |some o=>exact absurd rfl (nz (n0 _ _ e))
 generalize au (au W z0 (.lst [.int 0])) z (.lst (Ic ((2:Int)*((ws.map (LQ t b X Y)).length:Nat)).toNat (.int 0)))=M2 at O r0 ⊢;(try dsimp only[SD.aK])
 refine cE (λδ n=>∃o4 o5 I:v9,δ=[KA (.tup (ws.map (LQ t b X Y))),KA (.ref lo),KA (.ref li),KA (.ref z),o4,o5,I,KC,KC,KC]/\(∀c,c≠z->n c=M2 c)/\∃L:sy,L.length=2*ws.length/\n z=KA (.lst (L.map D.int))) ?_ (λhu=>?_);rotate_left
 .exists 7,lo,ps.map D.ref,8,O _ _ ho,λi δ n=>∃o4 o5 I:v9,δ=[KA (.tup (ws.map (LQ t b X Y))),KA (.ref lo),KA (.ref li),KA (.ref z),o4,o5,I,KC,KC,KC]/\(∀c,c≠z->n c=M2 c)/\∃L:sy,L.length=2*ws.length/\n z=KA (.lst (L.map D.int)),#[_,_,7,λ_ _=>rfl,_,List.length_replicate ..,r0],λi δ n _ q=>by let[_,_,_,_,q,_]:=q;show n lo=_;rw[q lo (nz ho)];exact O _ _ ho,?_
  .rintro i d δ n hi hd ⟨o4,o5,I,rfl,kM,L,hL,F⟩;let hi:i<ps.length:=by have:i<(ps.map D.ref).length:=hi;simpa using this
   let hd:((ps.map D.ref)[i]?).map (λd=>D.tup [.int ((i+1:Nat):Int),d])=KA d:=hd;rw[Hv,Ht hi]at hd;cases hd;let[r,er,e0]:=RO.get hi;let A:=o0 r (Hz er);let R:M2 ps[i]=KA (.lst (r.map v_)):=O _ _ e0;exists 7,8,_,7,_,7,8;(try dsimp only[SD.aK])
   refine Qw λB hB=>?_;exists 7,r.map v_,(by show n ps[i]=_;rw[kM _ (nz e0)];exact R),λj δ l=>∃I:v9,δ=[KA (.tup (ws.map (LQ t b X Y))),KA (.ref lo),KA (.ref li),KA (.ref z),KA (.int ((i+1:Nat):Int)),KA (.ref ps[i]),I,KC,KC,KC]/\(∀c,c≠z->l c=M2 c)/\∃L:sy,L.length=2*ws.length/\l z=KA (.lst (L.map D.int)),#[7,kM,L,hL,F],λj δ l _ q=>by let[_,_,q,_]:=q;show l ps[i]=_;rw[q _ (nz e0)];exact R,?_
   .rintro j d δ l hj hd ⟨I,rfl,J,L',C,u⟩;let hj:j<r.length:=by have:j<(r.map v_).length:=hj;simpa using this
    let hd:(r.map v_)[j]?=KA d:=hd;rw[Hv,Ht hj]at hd;cases hd;refine #[7,7,7,_,r[j],u,tJ (by rw[Ho,C];exact A.lt _ (Iq hj)),?_];exact #[7,λc hc=>by rw[ak hc];exact J c hc,L'.set r[j] ((i+1:Nat):Int),by rw[List.length_set];exact C,by rw[ai,List.map_set]]
   .rintro δ l ⟨I,rfl,J,L',C,u⟩;exact hB _ _ #[_,_,7,J,L',C,u]
  .rintro δ n ⟨o4,o5,I,rfl,kM,L,hL,F⟩;exact hu _ _ #[_,_,7,kM,L,hL,F]
 rintro δ M3 ⟨o4,o5,I,rfl,a1,L3,b1,f0⟩;let G:∀{a o},W a=KA o->M3 a=KA o:=λ{a o} h=>by rw[a1 a (nz h)];exact O _ _ h
 refine #[7,qs.map D.ref,G hi,by show(qs.map D.ref).length<=900000;rw[Ho];omega,λp hp=>?_];let np:∀{a o},M3 a=KA o->a≠p:=λh=>az h hp;exists λi kvs n=>(∃cs,Px t b X Y qs i kvs cs)/\n=au M3 p (ME kvs),#[#[_,Px.nil ..],rfl],λi kvs n _ q=>by let[_,8]:=q;show(au M3 p _) li=_;rw[ak (np (G hi))];exact G hi,?_
 .rintro i kvs d n y hd ⟨⟨cs,V⟩,rfl⟩;let y:i<qs.length:=by have:i<(qs.map D.ref).length:=y;simpa using this
  let hd:(qs.map D.ref)[i]?=KA d:=hd;rw[Hv,Ht y]at hd;cases hd;let[r,er,s0]:=RI.get y;let A:=c0 r (Hz er);exists 7;dsimp only[SD.d4];refine oJ ?_;refine #[7,7,t,b,X,Y,ws,qs[i],r,8,8,(by rw[ak (np (G s0))];exact G s0),S,hU,N,A.pos,A.lt,λc hc=>?_];exact #[7,gk t b X Y c,rW ..,ai,by have:=V.len;have:=V.kl;omega,V.put S.t0 S.b0 hc (Iq y),by rw[cC]]
 rintro kvs M4 ⟨⟨ks,V⟩,rfl⟩;let Z:(au M3 p (ME kvs)) z=KA (.lst (L3.map D.int)):=by rw[ak (np f0)];exact f0
 let g0:∀{a o},W a=KA o->(au M3 p (ME kvs)) a=KA o:=λ{a o} h=>by rw[ak (np (G h))];exact G h
 let i0:(au M3 p (ME kvs)) p=KA (ME kvs):=ai
 let fp:W p=KC:=by
  cases e:W p with
  |none=>rfl
  |some o=>rw[G e]at hp;cases hp
 generalize au M3 p (ME kvs)=M4 at Z g0 i0 ⊢;refine #[7,.inr #[p,kvs,8,i0,λp2 R=>?_]]
 let ek:kvs.map (λx=>Ny x.1)=ks.map (L6 t b X Y):=by
  have:=congrArg (Jp Ny) V.ks
  rw[Jj,Jj]at this
  exact this
 let kl:ks.length<=(qs.map D.ref).length:=V.len;rw[Ho]at kl;let kl:ks.length<=80:=()
 refine #[p2,t,b,X,Y,ks,8,(by rw[ai,ek]),S,(),V.bd,V.nd,λM5 zc cs c1 k0 u0 pm up=>?_];let a0:∀{a o},M4 a=KA o->M5 a=KA o:=λ{a o} h=>c1 _ _ (by rw[ak (az h R)];exact h);let d1:=a0 Z;let e1:=a0 i0;let f1:zc≠z:=λe=>by subst e;rw[ak (az Z R)]at k0;rw[Z]at k0;cases k0
 let g1:p≠z:=λe=>by subst e;rw[f0]at hp;cases hp
 exists _,u0;exists λi δ n=>∃I o8 o9:v9,δ=[KA (.tup (ws.map (LQ t b X Y))),KA (.ref lo),KA (.ref li),KA (.ref z),o4,o5,I,KA (.ref p),o8,o9]/\(∀c,c≠z->n c=M5 c)/\∃L:sy,L.length=2*ws.length/\n z=KA (.lst (L.map D.int)),#[_,_,7,λ_ _=>rfl,L3,b1,d1],λi δ n _ q=>by let[_,_,_,_,q,_]:=q;show n zc=_;rw[q zc f1];exact u0,?_
 .rintro i d δ n y hd ⟨i1,o8,o9,rfl,kM,L,hL,F⟩;let y:i<cs.length:=by have:i<(cs.map (L6 t b X Y)).length:=y;simpa using this
  let hd:(cs.map (L6 t b X Y))[i]?=KA d:=hd;rw[Hv,Ht y]at hd;cases hd;let v0:=pm.mem_iff.mp (Iq y);let[q,hq,ev]:=V.vs _ v0;let[j,ej]:=List.getElem?_of_mem hq;let[j1,ej]:=Hw.mp ej;subst ej;let[r,er,w0]:=RI.get j1;let A:=c0 r (Hz er);let x0:M5 qs[j]=KA (.lst (r.map v_)):=a0 (g0 w0);let y0:=nz w0;(try dsimp only[SD.aK])
  refine Qw λB hB=>?_;refine #[7,7,7,t,b,X,Y,ws,z,L,cs[i],8,8,8,F,hL,S,hU,hF,N,V.bd _ v0,λv=>?_];refine #[7,7,p,kvs,gk t b X Y cs[i],.ref qs[j],8,rW ..,(by rw[kM p g1];exact e1),ev,r.map v_,(by show n qs[j]=_;rw[kM _ y0];exact x0),?_];exists λa δ l=>∃I:v9,δ=[KA (.tup (ws.map (LQ t b X Y))),KA (.ref lo),KA (.ref li),KA (.ref z),o4,o5,I,KA (.ref p),KA (L6 t b X Y cs[i]),KA (.int v)]/\(∀c,c≠z->l c=M5 c)/\∃L:sy,L.length=2*ws.length/\l z=KA (.lst (L.map D.int)),#[7,kM,L,hL,F],λa δ l _ q=>by let[_,_,q,_]:=q;show l qs[j]=_;rw[q _ y0];exact x0,?_
  .rintro a d δ l ha hd ⟨I,rfl,J,L',C,u⟩;let ha:a<r.length:=by have:a<(r.map v_).length:=ha;simpa using this
   let hd:(r.map v_)[a]?=KA d:=hd;rw[Hv,Ht ha]at hd;cases hd;refine #[7,7,7,_,r[a],u,tJ (by rw[Ho,C];exact A.lt _ (Iq ha)),?_];exact #[7,λc hc=>by rw[ak hc];exact J c hc,L'.set r[a] v,by rw[List.length_set];exact C,by rw[ai,List.map_set]]
  .rintro δ l ⟨I,rfl,J,L',C,u⟩;exact hB _ _ #[_,_,7,J,L',C,u]
 .rintro δ n ⟨i1,o8,o9,rfl,kM,L,hL,F⟩;refine #[7,LW (k n _ _ (λa o h=>?_) fz F hL)];let h1:=n0 _ _ h;rw[kM a (nz h1)];exact a0 (g0 h1)
theorem fv:LN ["plot","corners","numbers"] ["plot","corners"] (ar dC):=⋯
inductive MM:Prop
 |mk (t b X Y:Int)(ws:vp)(ps:List Vc)(_:x_=.tup (ws.map (LQ t b X Y)))(_:y3=.tup (ps.map (L6 t b X Y)))(_:Lm t b X Y)(_:ws.length<=40)(_:(∀x_,x_∈ps↔x_∈Lf ws ws.length))(_:ps.Nodup)(_:ps.length<=1000)(_:∀(M':MH)(z:r4),SD.Sub M M'->M z=KC->M' z=KA (.lst (ws.map (Pj ps)))->Q (.ref z) M')
def jZ(T:Tx K mg):Cal P w K mg base 1 "ends_by_number" (Li MM):=by
 refine bo (k:=0) T.ke fv λf _ _ _ s H _ r=>#[_,(aj (aA 2 fv.nd (uP (jK r) (LO.of (xs:=["number","corner"]) (js:=[]) rfl) rfl (y8 rfl T.oy (ae (dv 1) af)) (λ_ _ _ _=>bD) (λ_ _ _ _=>(dv 1)) (λ_ _ _ _=>(dv 0)))) (aq (ay (qL (LO.of (xs:=["first","second"]) (js:=[2]) rfl) rfl (aQ (dv 0)) (λ_ _ _ _=>bD) (λ_ _ _ _=>(aJ (ae (jH (jK r) (dv 2) (dv 0) (by intro _ _;with_unfolding_all rfl)) (ae (jH (jK r) (dv 2) (dv 1) (by intro _ _;with_unfolding_all rfl)) af)))))))),λ_ _ M Q h=>?_];let[t,b,X,Y,ws,ps,8,8,S,F,G,nd,L,k]:=h;let cl:(ps.map (L6 t b X Y)).length=ps.length:=Ho ..;refine #[7,ps.map (L6 t b X Y),8,by show(ps.map (L6 t b X Y)).length<=_;omega,λp u=>?_];exists λi kvs g=>Q0 t b X Y ps i kvs/\g=au M p (ME kvs),#[.nil t b X Y ps,rfl],λi kvs g _ q=>trivial,?_
 .rintro i kvs d g I hd ⟨c,rfl⟩;let hd:((ps.map (L6 t b X Y))[i]?).map (λd=>D.tup [.int (i:Int),d])=KA d:=hd;rw[Hv]at hd;cases n:ps[i]? with
  |none=>rw[n]at hd;cases hd
  |some v=>
   rw[n]at hd
   cases hd
   exists _,#[7,8,rfl]
   dsimp only[SD.d4]
   rw[KI rfl]
   let I:i<ps.length:=(Hw.mp n).1
   exists 7,7,gk t b X Y v,8,ai,by have:=c.len;omega,c.put S.t0 S.b0 nd n
   rw[cC]
 .rintro kvs g ⟨c,rfl⟩;let c:Q0 t b X Y ps ps.length kvs:=by rw[<-cl];exact c
  let J:SD.Sub M (au M p (ME kvs)):=.new u .refl;refine #[7,ws.map (LQ t b X Y),8,comp_map (λi=>((ws.map (Pj ps))[i]?).getD .non) (by show(ws.map (LQ t b X Y)).length<=1000000;rw[Ho];omega) (λp W L=>rfl) ?_ (λq x=>?_)]
  .intro i e g I N y;let[w,j,8]:=jy N;refine #[_,#[7,8,rfl],λK O=>?_];let l:=O _ .refl;rw[getD_map j]at l;let m:=y _ _ ai;let B:ea w∈ps:=(G _).mpr ((gI _).mpr #[i,w,(Hw.mp j).1,j,.inl rfl]);let C:eb w∈ps:=(G _).mpr ((gI _).mpr #[i,w,(Hw.mp j).1,j,.inr rfl]);let[R,U]:=xg B;let[b1,V]:=xg C;exact #[7,7,p,kvs,gk t b X Y (ea w),7,8,m,c.vs _ _ U R,7,7,p,kvs,gk t b X Y (eb w),7,8,m,c.vs _ _ V b1,LR rfl,l]
  .dsimp only
   let e:(HM (ws.map (LQ t b X Y)).length).map (λi=>((ws.map (Pj ps))[i]?).getD .non)=ws.map (Pj ps):=by
    have:=SD.range_getD (ws.map (Pj ps))
    rw[Ho]at this ⊢
    exact this
   rw[e];refine LW (k _ q (λa o h=>?_) ?_ ai)
   .have:=J _ _ h;rw[ak (az this x)];exact this
   .cases z:M q with
    |none=>rfl
    |some o=>rw[J _ _ z]at x;cases x
theorem mL:LN ["plot"] ["plot"] (ar fS):=⋯
inductive Mn:Prop
 |mk (t b X Y:Int)(ws:vp)(_:x_=.tup (ws.map (LQ t b X Y)))(_:Lm t b X Y)(_:ws.length<=40)(_:(∀w∈ws,L5 w))(_:∀(M':MH)(z:r4)(as:t_),SD.Sub M M'->M' z=KA (.lst (as.map D.ref))->as.length=ws.length->(∀(i:Nat) a w,as[i]?=KA a->ws[i]?=KA w->M' a=KA (.lst (ws.map λv=>D.bl (MQ w v))))->Q (.ref z) M')
def nK(T:Tx K mg):Cal P w K mg base 5 "above_table" (Nl Mn):=by
 refine fH (k:=4) T.kz mL λf _ _ _ s H _ W=>#[_,(aq (ay (bS (LO.of (xs:=["one"]) (js:=[0]) rfl) rfl (aQ (dv 0)) (λ_ _ _ _=>bD) (λ_ _ _ _=>(bS (LO.of (xs:=["other"]) (js:=[0]) rfl) rfl (aQ (dv 1)) (λ_ _ _ _=>bD) (λ_ _ _ _=>(ao (mS T).m W (ae (dv 1) (ae (dv 0) af))))))))),λ_ M Q h=>?_];let[t,b,X,Y,ws,8,S,J,L,k]:=h;refine #[7,ws.map (LQ t b X Y),8,by show(ws.map (LQ t b X Y)).length<=1000000;rw[Ho];omega,λz N=>?_];exists λi x n=>∃c:t_,c.length=i/\x=c.map D.ref/\SD.Sub M n/\n z=KA (.lst x)/\∀(j:Nat) a w,c[j]?=KA a->ws[j]?=KA w->n a=KA (.lst (ws.map λv=>D.bl (MQ w v)))/\a≠z,#[[],8,8,.new N .refl,ai,λj a w h=>by simp at h],λi x n _ q=>rfl,?_
 .rintro i x d n hi hd ⟨c,B,rfl,C,g,F⟩;let[w,O,8]:=jy hd;exists 7;dsimp only[SD.d4];refine oJ ?_;refine #[7,ws.map (LQ t b X Y),8,comp_map (λj=>((ws.map λv=>D.bl (MQ w v))[j]?).getD .non) (by show(ws.map (LQ t b X Y)).length<=1000000;rw[Ho];omega) (λp x hp=>rfl) ?_ (λq G=>?_)]
  .intro j e M6 hj Z a0;let[v,R,8]:=jy Z;refine #[7,λK hK=>?_];let y:=hK _ .refl;rw[getD_map R]at y;exact #[7,7,t,b,X,Y,w,v,8,8,S,L w (Hz O),L v (Hz R),y]
  .dsimp only
   let e:(HM (ws.map (LQ t b X Y)).length).map (λj=>((ws.map λv=>D.bl (MQ w v))[j]?).getD .non)=ws.map λv=>D.bl (MQ w v):=by
    have:=SD.range_getD (ws.map λv=>D.bl (MQ w v))
    rw[Ho]at this ⊢
    exact this
   rw[e];let u:z≠q:=az g G;let I:(au n q (.lst (ws.map λv=>D.bl (MQ w v)))) z=KA (.lst (c.map D.ref)):=by rw[ak u];exact g
   refine #[_,.refl,I,c++[q],by simp[B],by simp,λa o h=>?_,ai,λj a v r hv=>?_]
   .rw[ak (az h N),ak (az (C _ _ h) G)];exact C _ _ h
   .rcases Nat.lt_or_ge j c.length with l|l
    .rw[Im l]at r;let[U,V]:=F j a v r hv;exact #[by rw[ak V,ak (az U G)];exact U,V]
    .rw[Ij l]at r
     let ej:j=i:=by
      have:=(Hw.mp r).1
      simp at this;omega
     subst ej;rw[B,Nat.sub_self]at r;cases r;rw[O]at hv;cases hv;exact #[by rw[ak u.symm];exact ai,u.symm]
 .rintro x n ⟨c,B,rfl,C,g,F⟩;exact LW (k n z c C g (by rw[B];exact Ho ..) λi a w r hw=>(F i a w r hw).1)
theorem lG:LN ["row","above"] ["row","above"] (ar bQ):=⋯
def lq:Str:=(Kl "lowest_first" (ar bQ) 0 0 .none).qual++"<lambda>"
abbrev Tb(M:MH):Prop:=dg lq 299 #[181,27,181,91] M
def Yq(M:MH)(ws:vp)(b:t_):Prop:=b.length=ws.length/\∀(i:Nat) a w,b[i]?=KA a->ws[i]?=KA w->M a=KA (.lst (ws.map λv=>D.bl (MQ w v)))
def cM:Lo:=λe M Q=>match e with
 |[u,v]=>∃(l b:r4) (ws:vp) (c:t_) (fs:sy),u=.ref l/\v=.ref b/\M l=KA (.lst (fs.map D.int))/\M b=KA (.lst (c.map D.ref))/\Yq M ws c/\Fs ws fs/\ws.length<=40/\Tb M/\
  ∀(a:MH)(p:r4)(d:sy),lD 299 M a->M p=KC->a p=KA (.lst (d.map D.int))->Q3 (fs.map λk=>(Cd ws fs k:Int)) fs d->Tb a->Q (.ref p) a
 |_=>False
theorem lL:∀ds M Q,cM ds M Q->ds.length=2:=λds M Q h=>by
 unfold cM at h;split at h
 .rfl
 .exact h.elim
def oR(d e:D):Lo:=λf M Q=>match f with
 |[x]=>∃(l a:r4) (ws:vp) (b:t_) (fs:sy) (k:Int),d=.ref l/\e=.ref a/\x=.int k/\M l=KA (.lst (fs.map D.int))/\M a=KA (.lst (b.map D.ref))/\Yq M ws b/\Fs ws fs/\ws.length<=40/\k∈fs/\∀c,SD.Sub M c->Q (.int (Cd ws fs k:Int)) c
 |_=>False
theorem Dp(d e:D):∀ds M Q,oR d e ds M Q->ds.length=1:=λds M Q h=>by
 unfold oR at h;split at h
 .rfl
 .exact h.elim
def mj(T:Tx K mg):Cal P w K mg base 4 "lowest_first" cM:=by
 refine Hc (k:=3) (N:=["row","above"]) (ps:=["row","above"]) T.fc_lowest_first lG (λ_ _ _ _ _ _ us m=>match us,m with|[_,_],_=>rfl) lL λf A outer s H E V=>#[_,(aq (ay (oW (k:=0) (lx:="wall") (y1:="row") (y2:="above") (Pt:=299) (spg:=oR) 0 1 rfl T.lm (by refine #[8,8,8,⋯,⋯,⋯,8,8,8,?_,?_,λ_ _=>rfl,λ_=>rfl]<;>decide) (λ_ _ _ _ _ _ _ _=>rfl) Dp (λbase g c1 c2 c' d1 d2 A outer s H V=>#[_,(aI bC rfl T.pa bA (ae (bS (LO.of (xs:=["other"]) (js:=[2,0]) rfl) rfl (aQ (dv 1)) (λ_ _ _ _=>(lY (dW (aB (aB (dv 1) (dv 2)) (dv 0))))) (λ_ _ _ _=>(dv 0))) af)),λd M Q h=>?l]) V T.q7 (ae (dv 0) af)))),λds M Q h=>?r]
 case l=>
  unfold oR at h
  let[l,O,ws,L,fs,x,8,8,8,m,t,c,F,u,hk,k]:=h
  let fl:=F.len
  let W:∀(a:Int),(KA a).bind (λa=>if MQ (MA ws x) (MA ws a)=KD then KA (D.int a)else KC)=if MQ (MA ws x) (MA ws a)=KD then KA (D.int a)else KC:=λ_=>rfl
  refine #[7,fs.map D.int,m,oF (λj=>(fs[j]?).bind λa=>if MQ (MA ws x) (MA ws a)=KD then KA (.int a)else KC) (by show(fs.map D.int).length<=1000000;simp;omega) (λp ys hp=>by show(au M p _) l=_;rw[ak (az m hp)];exact m) ?_ (λq hq=>?_)]
  .intro i d M9 hi hd y;let[one,v,8]:=jy hd;let R:=Hz v;let A:=F.b _ hk;let B:=F.b _ R;let[X,_,_]:=eG A.1 A.2;let[Y,_,_]:=eG B.1 B.2;obtain⟨j,rfl⟩:∃j:Nat,x=(j:Int):=#[x.toNat,()];obtain⟨Z,rfl⟩:∃j:Nat,one=(j:Int):=#[one.toNat,()];rw[IJ]at X Y;let hj:j<L.length:=by rw[c.1];omega
   let f1:=c.2 j _ _ (Ht hj) X;refine #[7,λK C=>?_,λe G K C=>?_]
   .rw[v,W]at C;exists 7,7,_,.ref L[j],y _ _ t,aW (by rw[Hv,Ht hj];rfl),7,_,_,y _ _ f1,aW (by rw[Hv,Y];rfl),7;cases z:MQ (MA ws (j:Int)) (MA ws (Z:Int))<;>rw[z]at C<;>exact C
   .rw[v,W]at G;cases z:MQ (MA ws (j:Int)) (MA ws (Z:Int))with
    |false=>rw[z]at G;cases G
    |true=>
     rw[z]at G
     cases G
     exact #[7,C _ .refl]
  .dsimp only;rw[CK fs λo=>MQ (MA ws x) (MA ws o)];exists _,ai;rw[Ho];exact k _ (.new hq .refl)
 case r=>
  unfold cM at h
  split at h
  case h_2=>exact h.elim
  let[l,O,ws,L,fs,8,8,m,t,c,F,u,I,k]:=h
  let fl:=F.len
  refine #[7,l,fs,fs.map (λk=>(Cd ws fs k:Int)),.ref l,.ref O,8,m,I.neL m,8,8,I,Ho ..,by rw[Ho];omega,λi a n M6 Q' ha hn J q=>?_,λp sr M6 fp S hb U J=>LW (k M6 p sr J fp S hb U)]
  rw[Hv,ha]at hn
  cases hn
  exact #[l,O,ws,L,fs,a,8,8,8,J _ _ (I.neL m) m,J _ _ (I.neL t) t,#[c.1,λi a w h1 h2=>J _ _ (I.neL (c.2 i a w h1 h2)) (c.2 i a w h1 h2)],F,u,Hz ha,q]
theorem cU:LN ["plot","corners","ends","above","rows","passed","row"] ["plot","corners"] (ar ja):=⋯
inductive N1:Prop
 |mk (t b X Y:Int)(ws:vp)(ps:List Vc)(_:x_=.tup (ws.map (LQ t b X Y)))(_:y3=.tup (ps.map (L6 t b X Y)))(_:Lm t b X Y)(_:ws.length<=40)(_:(∀w∈ws,L5 w))(_:PF ws)(_:ps.Pairwise Lj)(_:(∀x_,x_∈ps↔x_∈Lf ws ws.length))(_:ps.length<=80)(_:Tb M)(_:∀(M':MH)(z:r4)(as:t_)(rs:List (sy)),lD 299 M M'->M' z=KA (.lst (as.map D.ref))->Pc M' as rs->rs.length=ps.length+1->(∀r∈rs,Fs ws r)->Tb M'->Q (.ref z) M')
def si(T:Tx K mg):Cal P w K mg base 6 "steps_of" (Li N1):=by
 refine bo (k:=5) T.k_ cU λf _ _ _ s H _ G=>#[_,(aj (aA 2 cU.nd (ao (jZ T).m G (ae (dv 0) (ae (dv 1) af)))) (aj (aA 3 cU.nd (ao (nK T).m G (ae (dv 0) af))) (aj (aA 4 cU.nd (aV af)) (aj (gh HR rfl rfl T.p_ (ae (av aL (aI bC rfl T.pa bA (ae (dv 1) af)) ag) af) (aw 5 cU.nd) (aj (xG 6 cU.nd (LO.of (xs:=["wall","first","second"]) (js:=[5]) rfl) rfl (Ak rfl T.oy (ae (dv 2) af)) (λ_ _ _ _=>(lY (mP (b4 G.units) (mv G.units) (dv 1) (dv 3) (dv 2)))) (λ_ _ _ _=>(dv 0))) (aq (cg (bE (dv 4) (ae (ao (mj T).m G (ae (dv 6) (ae (dv 3) af))) af)))))) (aq (ay (dv 4))))))),λ_ _ M Q h=>?_];let[t,b,X,Y,ws,ps,8,8,S,v,hU,hF,up,pm,pl,hT,k]:=h;let nd:ps.Nodup:=up.imp λz e=>by subst e;exact tN _ z
 let wk:∀w∈ws,ea w∈ps/\eb w∈ps:=λw hw=>by let[j,I]:=List.getElem?_of_mem hw;exact #[(pm _).mpr ((gI _).mpr #[j,w,(Hw.mp I).1,I,.inl rfl]),(pm _).mpr ((gI _).mpr #[j,w,(Hw.mp I).1,I,.inr rfl])]
 refine #[7,7,t,b,X,Y,ws,ps,8,8,S,v,pm,nd,(),λM1 ze s1 q0 f0=>?_];refine #[7,t,b,X,Y,ws,8,S,v,hU,λM2 tb ab s2 g0 h0 fe=>?_];let V:=s2 _ _ f0;let J:=SD.Sub.trans s1 s2;let L:=hT.sub J;refine #[LR rfl,λC x=>?_];let i0:=L.neN x;let r0:=dU J x;(try dsimp only[SD.aK])
 exists 7,ps.length+1,(_),(),λi δ n=>W9 λ(y:t_) (R:List (sy)) (o5 o6:v9)=>WX (δ=[KA (.tup (ws.map (LQ t b X Y))),KA (.tup (ps.map (L6 t b X Y))),KA (.ref ze),KA (.ref tb),KA (.ref C),o5,o6]) (∀c o,c≠299->M2 c=KA o->n c=KA o) (n C=KA (.lst (y.map D.ref))) (C∉y) (Pc n y R) (y.length=i) (∀r∈R,Fs ws r) (Tb n),#[[],[],_,7,λc o _ h=>by rw[ak (az h x)];exact h,ai,by simp,.nil,8,by simp,L.new x],?_;rotate_left
 .rintro δ n ⟨y,R,o5,o6,rfl,kM,W,N,hR,al,O,F⟩;exact #[7,LW (k n C y R (λc o nc h=>kM c o nc (J _ _ h)) W hR (by rw[<-hR.1,al]) O F)]
 rintro i δ n hi ⟨y,R,o5,o6,rfl,kM,W,N,hR,al,O,F⟩;let kL:∀c (l:vu),M2 c=KA (.lst l)->n c=KA (.lst l):=λc l h=>kM c _ (L.neL h) h;let B:=kL _ _ V;let Z:=kL _ _ g0;let el:(ws.map (Pj ps)).length=ws.length:=Ho ..;(try dsimp only[SD.aK])
 refine #[7,ze,7,B,by show(ws.map (Pj ps)).length<=1000000;omega,λu a0=>?_];exists λj ys M6=>ys=(kB ps ws i j).map D.int/\M6=au n u (.lst ys),#[8,rfl],λj ys M6 _ q=>by let[_,8]:=q;show(au n u _) ze=_;rw[ak (az B a0)];exact B,?_
 .rintro j ys d M6 I hd ⟨rfl,rfl⟩;let I:j<ws.length:=by have:j<(ws.map (Pj ps)).length:=I;omega
  let hd:((ws.map (Pj ps))[j]?).map (λd=>D.tup [.int (j:Int),d])=KA d:=hd;let[w1,_,_]:=eG (ws:=ws) (k:=(j:Int)) () ();rw[IJ]at w1;rw[Hv,w1]at hd;cases hd;exists _,#[_,_,7,rfl];let U:=vE ps ws i j;exists 7,7,trivial,7;refine aZ (λh1=>?_) (λh1=>?_)
  .have h1:Pa ps (ea (MA ws (j:Int)))<i:=by have:=of_decide_eq_true h1;omega
   exists 7,trivial,7;refine aZ (λh2=>?_) (λh2=>?_)
   .have h2:i<=Pa ps (eb (MA ws (j:Int))):=by have:=of_decide_eq_true h2;omega
    let e:jR ps ws i j=KD:=by unfold jR;rw[KL h1,KL h2];rfl
    rw[e,KI rfl]at U;exact #[7,_,.refl,ai,by rw[U,Ib];rfl,by rw[cC]]
   .have h2:¬i<=Pa ps (eb (MA ws (j:Int))):=by have:=of_decide_eq_false (eq_false_of_ne_true h2);omega
    let e:jR ps ws i j=KG:=by unfold jR;rw[KJ h2,Bool.and_false]
    rw[e,KH ⋯,Jm]at U;exact #[_,.refl,by rw[U],rfl]
  .have h1:¬Pa ps (ea (MA ws (j:Int)))<i:=by have:=of_decide_eq_false (eq_false_of_ne_true h1);omega
   let e:jR ps ws i j=KG:=by unfold jR;rw[KJ h1,Bool.false_and]
   rw[e,KH ⋯,Jm]at U;exact #[7,#[_,.refl,by rw[U],rfl]]
 rintro ys M6 ⟨rfl,rfl⟩;let e:kB ps ws i (ws.map (Pj ps)).length=kB ps ws i ws.length:=by rw[el]
 let g:SD.Sub n (au n u (.lst ((kB ps ws i ws.length).map D.int))):=.new a0 .refl;let b0:(au n u (.lst ((kB ps ws i ws.length).map D.int))) u=KA (.lst ((kB ps ws i ws.length).map D.int)):=ai;dsimp only;rw[e];generalize au n u (.lst ((kB ps ws i ws.length).map D.int))=M7 at g b0 ⊢;let k0:=F.sub g;exists 7,C,y.map D.ref,8,g _ _ W;refine #[7,7,u,tb,ws,ab,kB ps ws i ws.length,8,8,b0,g _ _ Z,#[h0,λi a w h1 h2=>g _ _ (kL _ _ (fe i a w h1 h2))],uq ps ws i,v,k0,λM8 p sr s8 fp m0 bk n0=>?_];let o0:Fs ws sr:=(uq ps ws i).perm (bk.perm (_));let c0:M8 C=KA (.lst (y.map D.ref)):=s8 _ _ i0 (g _ _ W);let d0:p≠C:=λe=>by rw[e,g _ _ W]at fp;cases fp
 refine #[_,7,c0,by rw[Ho];omega,?_];let e0:∀c o,c≠299->c≠C->n c=KA o->(au M8 C (.lst (y.map D.ref++[.ref p]))) c=KA o:=λc o h1 h2 h=>by rw[ak h2];exact s8 _ _ h1 (g _ _ h)
 refine #[y++[p],R++[sr],_,7,λc o nc h=>e0 c o nc (λe=>by rw[e,x]at h;cases h) (kM c o nc h),by rw[ai,Ib];rfl,?_,?_,by simp[al],λr G=>?_,n0.upd c0]
 .simp only[HQ,Jl,not_or];exact #[N,λe=>d0 e.symm]
 .exact(hR.to λc l hc h=>e0 c _ (F.neL h) (λz=>N (z▸hc)) h).more (by rw[ak d0];exact m0)
 .rcases HQ.mp G with h|h
  .exact O r h
  .rw[Jl.mp h];exact o0
theorem br:LN ["things","guides","low","high","middle","word","number","before","past"] ["things","guides","low","high"] (ar d6):=⋯
def om(n:Nat):Lo:=λg M Q=>match g with
 |[x,y,l,h]=>∃(c w m:Nat) (p q:r4) (a f:vu) (e b:Nat),x=.ref p/\y=.ref q/\l=.int (e:Int)/\h=.int (b:Int)/\M p=KA (.lst a)/\M q=KA (.lst f)/\(∀d∈a,Ye c w d)/\(∀d∈f,Gd c w m d)/\f.length=a.length+1/\a.length<=100/\e<=b/\b<=a.length/\b-e<2^n/\∀d,Gd c w (m+hv (b-e)) d->Q d M
 |_=>False
theorem BH(n:Nat):∀ds M Q,om n ds M Q->ds.length=4:=λds M Q h=>by
 unfold om at h;split at h
 .rfl
 .exact h.elim
def ki:Lo:=om 7
theorem FA(T:Tx K mg):∀n:Nat,Cal P w K mg base (n+1) "guide_between" (om n)
 |0=>by
  refine vt (k:=0) T.lb br (λ_ _ _ _ _ _ us y=>match us,y with|[_,_,_,_],_=>rfl) (BH 0) λf cdv A outer s H E l=>#[_,(aj (aR (aD (bj l.units) (dv 2) (dv 3)) (aq (ay (aB (dv 1) (dv 2)))) aF) vG),λL M Q h=>?r]
  case r=>
   unfold om at h
   split at h
   case h_2=>exact h.elim
   let[c,w,m,p,q,j,i,a,b,8,8,8,8,u,o,v,t,B,g,le,lt,D,k]:=h
   let e:a=b:=by simp at D;omega
   subst e
   refine #[7,7,7,iK (KL rfl) ?_]
   let C:i[a]?=KA i[a]:=Ht ()
   exact #[7,7,_,_,o,aW C,LW (k _ ((t _ (Iq _)).mono ()))]
 |n+1=>by
  let F:=FA T n
  refine vt (k:=n+1) (N:=["things","guides","low","high","middle","word","number","before","past"]) (ps:=["things","guides","low","high"]) T.lb br (λ_ _ _ _ _ _ us y=>match us,y with|[_,_,_,_],_=>rfl) (BH (n+1)) λf cdv A outer s H E l=>#[_,(aj (aR (aD (bj l.units) (dv 2) (dv 3)) (aq (ay (aB (dv 1) (dv 2)))) aF)
   (aj (aA 4 br.nd (av fy (av aL (dv 2) (dv 3)) ag))
   (aj (bG (aB (dv 0) (dv 4)) (bg rfl (ax (aw 5 br.nd) (ax (aw 6 br.nd) aS))))
   (aj (aA 7 br.nd (ao F l (ae (dv 0) (ae (dv 1) (ae (dv 2) (ae (dv 4) af))))))
   (aj (aA 8 br.nd (ao F l (ae (dv 0) (ae (dv 1) (ae (av aL (dv 4) ag) (ae (dv 3) af))))))
   (aq (ay (aJ (ae bF (ae (dv 5) (ae (dv 6) (ae (dv 7) (ae (dv 8) af))))))))))))),λL M Q h=>?r]
  case r=>
   unfold om at h
   split at h
   case h_2=>exact h.elim
   let[c,w,m,p,q,j,i,a,b,8,8,8,8,u,o,v,t,B,g,le,lt,D,k]:=h
   exists 7,7,7
   refine aZ (λe=>?_) (λe=>?_)
   .have e:a=b:=by have:(a:Int)=(b:Int):=‹e›;omega
    subst e
    let C:i[a]?=KA i[a]:=Ht ()
    exact #[7,7,_,_,o,aW C,LW (k _ ((t _ (Iq _)).mono ()))]
   let e:a<b:=by have:¬(a:Int)=(b:Int):=‹e›;omega
   (try dsimp only[SD.aK])
   let G:((a:Int)+(b:Int)).fdiv 2=(((a+b)/2:Nat):Int):=by rw[Ir _ ⋯];omega
   generalize I:(a+b)/2=d at G
   let J:j[d]?=KA j[d]:=Ht ()
   let[x,O,R,hx]:=v _ (Iq (():d<j.length))
   exists 7,7,#[⋯,aX ⋯]
   dsimp only
   rw[G]
   rw[R]at J
   let S:hv (d-a)+1<=hv (b-a):=by
    rw[qQ (b-a) ()]
    have:=lU (():d-a<=(b-a)/2)
    omega
   let U:hv (b-(d+1))+1<=hv (b-a):=by
    rw[qQ (b-a) ()]
    have:=lU (():b-(d+1)<=(b-a)/2)
    omega
   let X:2^(n+1)=2^n*2:=Nat.pow_succ ..
   exists 7,7,_,_,u,aW J,7,8,_,7,_,7,8
   refine #[7,7,7,7,c,w,m,p,q,j,i,a,d,8,8,8,8,u,o,v,t,B,g,(),(),(),λY g1=>?_]
   refine #[7,7,7,7,c,w,m,p,q,j,i,d+1,b,8,8,8,8,u,o,v,t,B,g,(),(),(),λZ V=>?_]
   obtain⟨z,W⟩:∃z,m+hv (b-a)=z+1:=#[m+hv (b-a)-1,()]
   rw[W]at k
   exact #[7,7,7,7,LR rfl,LW (k _ (.look x O hx (g1.mono ()) (V.mono ())))]
theorem lO(T:Tx K mg):Cal P w K mg base 8 "guide_between" ki:=FA T 7
theorem iL:LN ["things","guides"] ["things","guides"] (ar cT):=⋯
inductive Ls:Prop
 |mk (c w m:Nat)(p q:r4)(ts gs:vu)(_:x_=.ref p)(_:y3=.ref q)(_:M p=KA (.lst ts))(_:M q=KA (.lst gs))(_:(∀d∈ts,Ye c w d))(_:(∀d∈gs,Gd c w m d))(_:gs.length=ts.length+1)(_:ts.length<=100)(_:∀d,Gd c w (m+hv ts.length) d->Q d M)
def fj(T:Tx K mg):Cal P w K mg base 9 "guide_by_halving" (Li Ls):=by refine bo (k:=8) T.lg iL λf _ _ _ s H _ g=>#[_,(aq (ay (ao (lO T).m g (ae (dv 0) (ae (dv 1) (ae ag (ae (aI bC rfl T.pa bA (ae (dv 0) af)) af))))))),λ_ _ M Q h=>?_];let[c,w,m,p,q,b,i,8,8,e,j,l,n,o,a,k]:=h;exact #[7,7,7,_,e,c,w,m,p,q,b,i,0,b.length,8,8,8,8,e,j,l,n,o,a,IB _,Hu _,(),λd h=>LW (k d h)]
theorem f9:LN ["row","lands","answers"] ["row","lands"] (ar dZ):=⋯
inductive MT:Prop
 |mk (c w:Nat)(r q:r4)(ks L:sy)(_:x_=.ref r)(_:y3=.ref q)(_:M r=KA (.lst (ks.map D.int)))(_:M q=KA (.lst (L.map D.int)))(_:ks.length<=40)(_:(∀k∈ks,0<=k/\k.toNat<w/\2*k.toNat<L.length))(_:∀d' M',SD.Sub M M'->Gd c w 10 d'->Q d' M')
def lH(T:Tx K mg):Cal P w K mg base 10 "guide_of_step" (Li MT):=by
 refine bo (k:=9) T.l_ f9 λf cdv A outer s H E hr=>#[_,(aj (aA 2 f9.nd (av aL (aV (ae (aJ (ae bF (ae ag af))) af)) (bS (LO.of (xs:=["wall"]) (js:=[1]) rfl) rfl (aQ (dv 0)) (λ_ _ _ _=>bD) (λ_ _ _ _=>(aJ (ae bF (ae (aB (dv 1) (av aP ag (dv 0))) af))))))) (aq (ay (ao (fj T).m hr (ae (bS (LO.of (xs:=["wall"]) (js:=[]) rfl) rfl (aQ (dv 0)) (λ_ _ _ _=>bD) (λ_ _ _ _=>(aJ (ae bF (ae (dv 0) af))))) (ae (bS (LO.of (xs:=["answer"]) (js:=[]) rfl) rfl (aQ (dv 2)) (λ_ _ _ _=>bD) (λ_ _ _ _=>(aJ (ae bF (ae (dv 0) af))))) af)))))),λ_ _ M Q h=>?_];let[c,w,r,q,ks,L,8,8,g,hq,hl,R,k]:=h;let Y:(ks.map D.int).length=ks.length:=Ho ..
 let Z:∀(f:Int->D),(HM (ks.map D.int).length).map (λi=>((ks.map f)[i]?).getD .non)=ks.map f:=λf=>by
  have:=SD.range_getD (ks.map f)
  rw[Ho]at this ⊢
  exact this
 refine #[LR rfl,LR rfl,λa ha=>?_];let x:SD.Sub M (au M a (.lst [.tup [.str "land",.int 0]])):=.new ha .refl;let t:(au M a (.lst [.tup [.str "land",.int 0]])) a=KA (.lst [.tup [.str "land",.int 0]]):=ai;generalize au M a (.lst [.tup [.str "land",.int 0]])=S at x t ⊢;refine #[7,_,x _ _ g,comp_map (λi=>((ks.map λk=>D.tup [.str "land",((L.map D.int)[2*k.toNat]?).getD .non])[i]?).getD .non) (by show(ks.map D.int).length<=1000000;omega) (λz ys j=>WL (x _ _ g) j) ?_ (λz j=>?_)]
 .intro i e M' hi hd U;let[o,J,8]:=jy hd;refine #[7,λK y=>?_];let b:=y _ .refl;rw[getD_map J]at b;let[k0,_,k1]:=R o (Hz J);obtain⟨n,rfl⟩:∃n:Nat,o=(n:Int):=#[o.toNat,()];rw[IJ]at k1 b;let ev:(L.map D.int)[2*n]?=KA (.int L[2*n]):=by rw[Hv,Ht k1];rfl
  rw[ev]at b;exact #[7,7,a9 (aX ⋯),_,_,U _ _ (x _ _ hq),(by rw[show 2*(n:Int)=((2*n:Nat):Int) by omega];exact aW ev),LR rfl,b]
 dsimp only;rw[Z];refine #[_,_,WL t j,ai,(by have:1000<=HK:=LR rfl;show 1+(ks.map _).length<=_;rw[Ho];omega),λl u=>?_];let s2:SD.Sub S (au S z (.lst (ks.map λk=>D.tup [.str "land",((L.map D.int)[2*k.toNat]?).getD .non]))):=.new j .refl;let v:=SD.Sub.trans x s2;generalize au S z (.lst (ks.map λk=>D.tup [.str "land",((L.map D.int)[2*k.toNat]?).getD .non]))=V at v u ⊢;generalize eA:[D.tup [.str "land",.int 0]]++ks.map (λk=>D.tup [.str "land",((L.map D.int)[2*k.toNat]?).getD .non])=A;let lA:A.length=ks.length+1:=by rw[<-eA];simp
 let N:SD.Sub M (au V l (.lst A)):=.new u v;let B:(au V l (.lst A)) l=KA (.lst A):=ai;generalize au V l (.lst A)=O at N B ⊢;clear x t j s2 v u eA;refine #[7,_,N _ _ g,comp_map (λi=>((ks.map λk=>D.tup [.str "wall",.int k])[i]?).getD .non) (by show(ks.map D.int).length<=1000000;omega) (λz ys j=>WL (N _ _ g) j) ?_ (λC W=>?_)]
 .intro i e M' hi hd U;let[o,J,8]:=jy hd;refine #[7,λK y=>?_];let b:=y _ .refl;rw[getD_map J]at b;exact #[7,LR rfl,b]
 dsimp only;rw[Z];let X:SD.Sub O (au O C (.lst (ks.map λk=>D.tup [.str "wall",.int k]))):=.new W .refl;let p:(au O C (.lst (ks.map λk=>D.tup [.str "wall",.int k]))) C=KA (.lst (ks.map λk=>D.tup [.str "wall",.int k])):=ai;generalize au O C (.lst (ks.map λk=>D.tup [.str "wall",.int k]))=M4 at X p ⊢;let F:=X _ _ B;refine #[7,_,F,comp_map (λi=>((A.map λd=>D.tup [.str "told",d])[i]?).getD .non) (by show A.length<=1000000;omega) (λz ys j=>WL F j) ?_ (λzg G=>?_)]
 .intro i e M' hi hd U;let hd:A[i]?=KA e:=hd;refine #[7,λK y=>?_];let b:=y _ .refl;rw[getD_map hd]at b;exact #[7,LR rfl,b]
 let rA:(HM A.length).map (λi=>((A.map λd=>D.tup [.str "told",d])[i]?).getD .non)=A.map λd=>D.tup [.str "told",d]:=by
  have:=SD.range_getD (A.map λd=>D.tup [.str "told",d])
  rw[Ho]at this
  exact this
 dsimp only;rw[rA];refine #[c,w,0,C,zg,ks.map (λk=>D.tup [.str "wall",.int k]),A.map (λd=>D.tup [.str "told",d]),8,8,WL p G,ai,λd h=>?_,λd h=>?_,by simp[lA],by simp;omega,λd gd=>LW (k d _ (SD.Sub.trans N (SD.Sub.trans X (.new G .refl))) (gd.mono ?_))]
 .obtain⟨o,I,rfl⟩:=Iz.mp h;exact #["wall",o.toNat,by rw[Int.toNat_of_nonneg (R o I).1],.inr #[8,(R o I).2.1]]
 .obtain⟨d',_,rfl⟩:=Iz.mp h;exact .told _
 .rw[Ho];have:=lU hl;have:hv 40=6:=⋯
  omega
theorem iI:LN ["n","many"] ["n"] (ar mf):=⋯
def A3(n:Nat)(h:0<n):hv n=hv (n/2)+1:=by
 let key:∀f,f<hv n↔f<hv (n/2)+1:=λf=>by
  rw[<-ou];cases f with
  |zero=>simp;omega
  |succ f=>
   rw[Nat.add_lt_add_iff_right,<-ou,Nat.pow_succ]
   omega
 let a:=key (hv n);let b:=key (hv (n/2)+1);let c:=key (hv (n/2));omega
inductive OC:Prop
 |mk (n:Nat)(_:x_=.int (n:Int))(_:Q (.int (hv n:Int)) M)
def qN(T:Tx K mg):Cal P w K mg base 1 "halves" (Nl OC):=by
 refine fH (k:=0) T.l' iI λf _ _ _ s H _ c=>#[_,(aj (aA 1 iI.nd ag) (aj (fX HR (aD (fM c.units) (dv 0) ag) (aj (aA 0 iI.nd (av fy (dv 0) ag)) (aq (tw 1 iI.nd wK ag)))) (aq (ay (dv 1))))),λ_ M Q h=>?_];let[n,8,k]:=h;walk_at "u"
 exists λm δ b=>b=M/\∃(y:Nat),δ=[KA (.int (m:Int)),KA (.int (y:Int))]/\y+hv m=hv n,#[n,8,0,8,()];rintro m δ b ⟨rfl,y,rfl,d⟩;exists 7,trivial,7;refine aZ (λh=>?_) (λh=>?_)
 .have a:0<m:=‹h›
  walk_at "u"
  exists 7,#[⋯,aX ⋯],7,7;exists m/2,(),8,y+1,?_
  .dsimp only;rw[show((m:Int)).fdiv 2=((m/2:Nat):Int)from by rw[Ir _ ⋯];omega];rfl
  .have:=A3 m a;omega
 .have a:m=0:=by
   have:¬0<(m:Int):=‹h›
   omega
  subst a;exists 7;rw[show y=hv n from by have:hv 0=0:=rfl;omega];exact LW k
theorem dm:LN ["self","plot","many","lands"] ["self","plot"] (ar dF):=⋯
def b7(K:Hm):Lo:=λe M Q=>match e with
 |[s,u]=>∃(a:r4) (t b X Y:Int) (ws:vp),s=.ref a/\u=.tup (ws.map (LQ t b X Y))/\M a=KA (dn (cl K "Steps") [])/\Lm t b X Y/\ws.length<=40/\(∀w∈ws,L5 w)/\PF ws/\Tb M/\
  ∀(d:MH)(ps:List Vc)(g m:D)(z:r4),(∀c o,c≠a->c≠299->M c=KA o->d c=KA o)->d a=KA (dn (cl K "Steps") (Nx (.tup (ws.map (LQ t b X Y))) (ps.map (L6 t b X Y)) g m (.ref z)))->Gd ps.length ws.length 100 g->ps.Perm (Lf ws ws.length)->ps.Pairwise Lj->Tb d->Q .non d
 |_=>False
theorem jx(K:Hm):∀ds M Q,(b7 K) ds M Q->ds.length=2:=λds M Q h=>by
 unfold b7 at h;split at h
 .rfl
 .exact h.elim
def jT(T:Tx K mg):uS P w K mg base 11 "Steps" (cl K "Steps") (b7 K):=by
 refine FY (k:=10) (N:=["self","plot","many","lands"]) (ps:=["self","plot"]) T.ry dm (λ_ _ _ _ _ _ us hl=>by let[_,_,8]:=SD.pV hl;rfl) (jx K) λf _ _ _ s H _ U=>#[_,(aj (cg (Ae ((nh T).mono ⋯) U (ae (dv 0) (ae (dv 1) af)))) (aj (aA 2 dm.nd (aI bC rfl T.pa bA (ae (dN (dv 0)) af))) (aj (aA 3 dm.nd (ao (kr T).m U (ae (dN (dv 0)) af))) (aj (gn (ao (si T).m U (ae (dN (dv 0)) (ae (dN (dv 0)) af))) (dv 0)) (aj (gn (ao (fj T).m U (ae (bS (LO.of (xs:=["corner"]) (js:=[]) rfl) rfl (iB rfl T.p_ (ae (dv 2) af)) (λ_ _ _ _=>bD) (λ_ _ _ _=>(aJ (ae bF (ae (dv 0) af))))) (ae (bS (LO.of (xs:=["row"]) (js:=[3]) rfl) rfl (aQ (dN (dv 0))) (λ_ _ _ _=>bD) (λ_ _ _ _=>(ao (lH T).m U (ae (dv 0) (ae (dv 1) af))))) af))) (dv 0)) (aq (gn (av aL (ao (qN T).m U (ae (dv 2) af)) (aI (pT rfl U.units) rfl T.pq sQ (ae (bS (LO.of (xs:=["row"]) (js:=[]) rfl) rfl (aQ (dN (dv 0))) (λ_ _ _ _=>bD) (λ_ _ _ _=>(ao (qN T).m U (ae (aI bC rfl T.pa bA (ae (dv 0) af)) af)))) af))) (dv 0)))))))),λds M Q h=>?r]
 case r=>
  unfold b7 at h
  split at h
  case h_2=>exact h.elim
  let[a,t,b,X,Y,ws,8,8,ha,S,j,hU,hF,hT,k]:=h
  refine #[7,7,a,t,b,X,Y,ws,8,8,ha,S,j,hU,λM1 ps s1 I pm pw=>?_]
  let g0:Tb M1:=hT.ins K ha s1
  let pl:ps.length<=80:=by have:=pm.length_eq;have:=iC ws ws.length;omega
  exists 7,a,_,_,7,I,T.cl_Steps,T.na_corners,8
  let e0:(ps.map (L6 t b X Y)).length=ps.length:=Ho ..
  refine #[7,a,_,_,7,I,T.cl_Steps,T.na_plot,8,t,b,X,Y,ws,8,S,j,hU,hF,λM2 zl L s2 h0 b0 il=>?_]
  let y:=s2 _ _ I
  let J:=g0.sub s2
  refine #[7,a,_,_,7,y,T.cl_Steps,T.na_plot,8,7,a,_,_,7,y,T.cl_Steps,T.na_corners,8,t,b,X,Y,ws,ps,8,8,S,j,hU,hF,pw,λu=>pm.mem_iff,pl,J,λV g B x s3 hz hR sl s0 t0=>?_]
  let C:=s3 _ _ (J.neI K y) y
  let W:=s3 _ _ (J.neL b0) b0
  let sc:∀c o,c≠a->c≠299->M c=KA o->V c=KA o:=λc o h1 h2 h=>s3 _ _ h2 (s2 _ _ (s1 _ _ h1 h))
  clear hT g0 J s1 s2 s3 I y b0 h0
  exists 7,a,_,7,C,T.cl_Steps,T.na_step_rows,(⋯:4<1000)
  let e1:QT "step_rows" (D.ref g) (Y8 (.tup (ws.map (LQ t b X Y))) (ps.map (L6 t b X Y)) .non .non)=Nx (.tup (ws.map (LQ t b X Y))) (ps.map (L6 t b X Y)) .non .non (.ref g):=rfl
  rw[e1]
  let kM:∀(v:MH) fs,lD a V v->v a=KA (dn (cl K "Steps") fs)->Tb v/\Pc v B x/\v g=KA (.lst (B.map D.ref))/\v zl=KA (.lst (L.map D.int)):=λv fs h d1=>#[t0.ins K C h,hR.to λc l _ e=>h _ _ (Em C e) e,h _ _ (Em C hz) hz,h _ _ (Em C W) W]
  let Nj:lD a V (au V a (dn (cl K "Steps") (Nx (.tup (ws.map (LQ t b X Y))) (ps.map (L6 t b X Y)) .non .non (.ref g)))):=λc u nc h=>by rw[ak nc];exact h
  let O:(au V a (dn (cl K "Steps") (Nx (.tup (ws.map (LQ t b X Y))) (ps.map (L6 t b X Y)) .non .non (.ref g)))) a=KA (dn (cl K "Steps") (Nx (.tup (ws.map (LQ t b X Y))) (ps.map (L6 t b X Y)) .non .non (.ref g))):=ai
  generalize au V a (dn (cl K "Steps") (Nx (.tup (ws.map (LQ t b X Y))) (ps.map (L6 t b X Y)) .non .non (.ref g)))=M4 at Nj O ⊢
  let[f1,i0,k0,m0]:=kM _ _ Nj O
  let al:B.length=ps.length+1:=by rw[hR.1,sl]
  refine #[7,ps.length,by rw[e0],(),comp_map (λi=>D.tup [.str "corner",.int (i:Int)]) (by show ps.length<=1000000;omega) (λz F hz=>trivial) ?_ (λzt u0=>?_)]
  .intro i e v hi hd sb;cases hd;refine #[7,λK hK=>?_];exact #[7,LR rfl,hK _ .refl]
  dsimp only
  let s5:SD.Sub M4 (au M4 zt (.lst ((HM ps.length).map λi:Nat=>D.tup [.str "corner",.int (i:Int)]))):=.new u0 .refl
  let Z:(au M4 zt (.lst ((HM ps.length).map λi:Nat=>D.tup [.str "corner",.int (i:Int)]))) zt=KA (.lst ((HM ps.length).map λi:Nat=>D.tup [.str "corner",.int (i:Int)])):=ai
  generalize au M4 zt (.lst ((HM ps.length).map λi:Nat=>D.tup [.str "corner",.int (i:Int)]))=M5 at s5 Z ⊢
  let v0:(B.map D.ref).length=B.length:=Ho ..
  refine #[7,a,_,_,7,s5 _ _ O,T.cl_Steps,T.na_step_rows,8,B.map D.ref,s5 _ _ k0,by show(B.map D.ref).length<=1000000;omega,λzg n0=>?_]
  exists λi F v=>F.length=i/\SD.Sub M5 v/\v zg=KA (.lst F)/\∀d∈F,Gd ps.length ws.length 10 d,#[8,.new n0 .refl,ai,λd h=>nomatch h],λi F v _ q=>q.2.1 _ _ (s5 _ _ k0),?_
  .rintro i F d v hi hd ⟨yl,sb,hg,c0⟩;let[ra,G,8]:=jy hd;let li:i<x.length:=by rw[<-i0.1];exact(Hw.mp G).1
   let er:=Ht li;let w0:=sb _ _ (s5 _ _ (i0.2 i ra _ G er));let Fr:=s0 _ (Hz er);exists 7;dsimp only[SD.d4];refine oJ ?_;refine #[7,7,ps.length,ws.length,ra,zl,x[i],L,8,8,w0,sb _ _ (s5 _ _ m0),Iv Fr.len j,λk hk=>?_,λd' M6 s6 g6=>?_]
   .have:=Fr.b k hk;rw[il];omega
   .refine #[_,.refl,s6 _ _ hg,by simp[yl],λc o h=>?_,ai,λd h=>?_]
    .rw[ak (az h n0)];exact s6 _ _ (sb _ _ h)
    .rcases HQ.mp h with h|h
     .exact c0 d h
     .rw[Jl.mp h];exact g6
  rintro F M6 ⟨yl,s6,x0,c0⟩
  let yl:F.length=ps.length+1:=by let h:F.length=(B.map D.ref).length:=yl;omega
  let o0:=SD.Sub.trans s5 s6
  let y0:=o0 _ _ O
  let g1:hv ps.length<=7:=by
   have:=lU pl
   have:hv 80=7:=⋯
   omega
  refine #[ps.length,ws.length,10,zt,zg,_,F,8,8,s6 _ _ Z,x0,λd h=>?_,c0,by simp[yl],by simp;omega,λgd d0=>?_]
  .obtain⟨k',z0,rfl⟩:=Iz.mp h;exact #["corner",k',8,.inl #[8,List.mem_range.mp z0]]
  let d0:Gd ps.length ws.length 100 gd:=d0.mono (by rw[Ho,List.length_range];omega)
  exists 7,a,_,7,y0,T.cl_Steps,T.na_guide,(⋯:5<1000)
  let e2:QT "guide" gd (Nx (.tup (ws.map (LQ t b X Y))) (ps.map (L6 t b X Y)) .non .non (.ref g))=Nx (.tup (ws.map (LQ t b X Y))) (ps.map (L6 t b X Y)) gd .non (.ref g):=rfl
  rw[e2]
  let Mp:lD a V (au M6 a (dn (cl K "Steps") (Nx (.tup (ws.map (LQ t b X Y))) (ps.map (L6 t b X Y)) gd .non (.ref g)))):=λc u nc h=>by rw[ak nc];exact o0 _ _ (Nj _ _ nc h)
  let R:(au M6 a (dn (cl K "Steps") (Nx (.tup (ws.map (LQ t b X Y))) (ps.map (L6 t b X Y)) gd .non (.ref g)))) a=KA (dn (cl K "Steps") (Nx (.tup (ws.map (LQ t b X Y))) (ps.map (L6 t b X Y)) gd .non (.ref g))):=ai
  generalize au M6 a (dn (cl K "Steps") (Nx (.tup (ws.map (LQ t b X Y))) (ps.map (L6 t b X Y)) gd .non (.ref g)))=M7 at Mp R ⊢
  let[i1,q0,f0,_]:=kM _ _ Mp R
  refine #[7,ps.length,by rw[e0],?_]
  refine #[7,a,_,_,7,R,T.cl_Steps,T.na_step_rows,8,B.map D.ref,f0,comp_map (λi=>(((x.map λr=>(hv r.length:Int)).map D.int)[i]?).getD .non) (by show(B.map D.ref).length<=1000000;omega) (λp F hp=>by show(au M7 p _) g=_;rw[ak (az f0 hp)];exact f0) ?_ (λp r0=>?_)]
  .intro i d M9 hi hd a1;let[ra,G,8]:=jy hd;let li:i<x.length:=by rw[<-q0.1];exact(Hw.mp G).1
   let er:=Ht li;refine #[7,λK2 b1=>?_];let a0:=b1 _ .refl;rw[Jj,getD_map er]at a0;exact #[7,_,a1 _ _ (q0.2 i ra _ G er),x[i].length,by rw[Ho],a0]
  dsimp only
  let e:(HM (B.map D.ref).length).map (λi=>(((x.map λr=>(hv r.length:Int)).map D.int)[i]?).getD .non)=(x.map λr=>(hv r.length:Int)).map D.int:=by
   have:=SD.range_getD ((x.map λr=>(hv r.length:Int)).map D.int)
   rw[Ho,Ho,sl]at this
   rw[v0,al]
   exact this
  rw[e]
  refine #[_,ai,(λz=>by have:=congrArg List.length z;simp[sl]at this),λn hn=>?_]
  let c1:=SD.Sub.new (o:=.lst ((x.map λr=>(hv r.length:Int)).map D.int)) r0 .refl _ _ R
  let s8:=SD.Sub.new (o:=.lst ((x.map λr=>(hv r.length:Int)).map D.int)) r0 .refl
  exists 7,a,_,7,c1,T.cl_Steps,T.na_most_looks,(⋯:5<1000)
  let QC:∀o,lD a V (au (au M7 p (.lst ((x.map λr=>(hv r.length:Int)).map D.int))) a o):=λo c u nc h=>by rw[ak nc];exact s8 _ _ (Mp _ _ nc h)
  let[z1,z2,z3,_]:=kM _ _ (QC _) ai
  exact LW (k _ ps gd _ g (λc o h1 h2 h=>QC _ _ _ h1 (sc c o h1 h2 h)) ai d0 pm pw z1)
theorem dJ:LN ["plot","corners","spot","look","word","number","side"] ["plot","corners","spot","look"] (ar gJ):=⋯
inductive Mt:Prop
 |mk (t b X Y:Int)(rs:vp)(qs:List Vc)(zc:r4)(p q:Int)(z:Lk)(_:x_=.tup (rs.map (LQ t b X Y)))(_:y3=.ref zc)(_:y4=LH (Kw t b X 1 p) (Kw t b Y 1 q))(_:y_=L9 z)(_:M zc=KA (.lst (qs.map (L6 t b X Y))))(_:Lm t b X Y)(_:(∀w∈rs,Y2 (10^6) w))(_:(∀c∈qs,(-(10^6)<=c.1/\c.1<=10^6)/\(-(10^6)<=c.2/\c.2<=10^6)))(_:(-(10^6)<=p/\p<=10^6))(_:(-(10^6)<=q/\q<=10^6))(_:Q (.bl (hB rs qs p q z)) M)
def oH(T:Tx K mg):Cal P w K mg base 4 "look_holds" (Qs Mt):=by
 refine tU (k:=3) T.ma dJ λf _ _ _ s H _ d=>#[_,(aj (bG (dv 3) (bg rfl (ax (aw 4 dJ.nd) (ax (aw 5 dJ.nd) (ax (aw 6 dJ.nd) aS))))) (aj (aR (gQ (fg (aD (kJ d.units) (dv 4) bF) (dj (mP (mv d.units) (b4 d.units) ag (dv 5) (aI bC rfl T.pa bA (ae (dv 1) af)))))) (aq (ay (bW (bj d.units) (ao (fZ T).m d (ae (aB (dv 1) (dv 5)) (ae (dv 2) af))) (dv 6)))) aF) (aj (aR (gQ (fg (aD (kJ d.units) (dv 4) bF) (dj (mP (mv d.units) (b4 d.units) ag (dv 5) (aI bC rfl T.pa bA (ae (dv 0) af)))))) (aq (ay (bW (bj d.units) (ao (cV T).m d (ae (aB (dv 0) (dv 5)) (ae (dv 2) af))) (dv 6)))) aF) (aq (ay iR))))),λ_ _ _ _ M Q h=>?_];obtain⟨t,b,X,Y,a,qs,N,p,q,⟨⟨x,hx⟩,n,s⟩,rfl,rfl,rfl,rfl,g,S,y,B,r,u,k⟩:=h;let one:(0:Int)<1/\(1:Int)<=10^6:=⋯
 let lq:(qs.map (L6 t b X Y)).length=qs.length:=Ho ..;let v:(a.map (LQ t b X Y)).length=a.length:=Ho ..;let one:(0:Int)<1/\(1:Int)<=10^6:=⋯
 let lq:(qs.map (L6 t b X Y)).length=qs.length:=Ho ..;let v:(a.map (LQ t b X Y)).length=a.length:=Ho ..;exists 7,7,8,_,7,_,7,_,7,8;walk_at "u"
 refine nt (decide (x=("corner":Str))) (decide (0<=n)&&decide (n<(qs.length:Int))) (λo c=>#[7,7,c]) (λ_ o c=>?_) ?_
 .exists 7,trivial,7;by_cases z:0<=n
  .rw[KL z,Bool.true_and]at c;rw[KI (KL z)];exists 7,_,g,trivial,7;rw[lq];exact c
  .rw[KJ z,Bool.false_and]at c;rw[KH (λh=>z (of_decide_eq_true h))];exact #[7,c]
 by_cases h1:x="corner"/\0<=n/\n<(qs.length:Int)
 .obtain⟨rfl,j,n1⟩:=h1;refine iK (by rw[KL j,KL n1];rfl) ?_;obtain⟨m,rfl⟩:∃m:Nat,n=(m:Int):=#[n.toNat,()];let eq:=Ht (l:=qs) (i:=m) ();let[b1,C]:=B _ (Hz eq);let e:hB a qs p q (#["corner",hx],(m:Int),s)=decide (pG p q qs[m]=s):=by unfold hB;rw[KI #[8,j,n1]];show decide (pG p q ((qs[(m:Int).toNat]?).getD (0,0))=s)=_;rw[IJ,eq];rfl
  rw[e,AF,<-rj (X:=X) (Y:=Y) S.t0 S.b0,<-rj (X:=X) (Y:=Y) S.t0 S.b0]at k;exact #[7,7,_,_,g,aW (by rw[Hv,eq];rfl),7,_,_,_,7,8,(S.bx one b1).mono ⋯,(S.by' one C).mono ⋯,(S.bx one r).mono ⋯,(S.by' one u).mono ⋯,7,LW k]
 let D:(decide (x=("corner":Str))&&(decide (0<=n)&&decide (n<(qs.length:Int))))=KG:=by rw[<-J4,<-J4];exact KJ h1
 refine gr D ?_;refine nt (decide (x=("wall":Str))) (decide (0<=n)&&decide (n<(a.length:Int))) (λo c=>#[7,7,c]) (λ_ o c=>?_) ?_
 .exists 7,trivial,7;by_cases z:0<=n
  .rw[KL z,Bool.true_and]at c;rw[KI (KL z)];exists 7,trivial,7;rw[v];exact c
  .rw[KJ z,Bool.false_and]at c;rw[KH (λh=>z (of_decide_eq_true h))];exact #[7,c]
 by_cases h2:x="wall"/\0<=n/\n<(a.length:Int)
 .obtain⟨rfl,j,n1⟩:=h2;refine iK (by rw[KL j,KL n1];rfl) ?_;obtain⟨m,rfl⟩:∃m:Nat,n=(m:Int):=#[n.toNat,()];let eq:=Ht (l:=a) (i:=m) ();let[F,G,I,J]:=y _ (Hz eq);let e:hB a qs p q (#["wall",hx],(m:Int),s)=decide (HW (sd a[m] p q)=s):=by unfold hB;rw[KH h1,KI #[8,j,n1]];show decide (HW (sd ((a[(m:Int).toNat]?).getD (0,0,0,0)) p q)=s)=_;rw[IJ,eq];rfl
  rw[e,<-kR (X:=X) (Y:=Y) S.t0 S.b0]at k;exact #[7,7,_,aW (by rw[Hv,eq];rfl),7,400,_,_,_,_,_,7,8,(S.bx one F).mono ⋯,(S.by' one G).mono ⋯,(S.bx one I).mono ⋯,(S.by' one J).mono ⋯,(S.bx one r).mono ⋯,(S.by' one u).mono ⋯,⋯,7,LW k]
 let L:(decide (x=("wall":Str))&&(decide (0<=n)&&decide (n<(a.length:Int))))=KG:=by rw[<-J4,<-J4];exact KJ h2
 refine gr L ?_;let e:hB a qs p q (#[x,hx],n,s)=KG:=by unfold hB;rw[KH h1,KH h2]
 rw[e]at k;exact LW k
theorem iM:LN ["plot","spot","looks","corners"] ["plot","spot","looks"] (ar gv):=⋯
inductive Ms:Prop
 |mk (t b X Y g h:Int)(ws:vp)(p q:Int)(l:r4)(zs:List Lk)(_:x_=.tup (ws.map (LQ (g*t) b (X-h*t) (Y-h*t))))(_:y3=LH (Kw t b X 1 p) (Kw t b Y 1 q))(_:y4=.ref l)(_:M l=KA (.lst (zs.map L9)))(_:Lm t b X Y)(_:Lm (g*t) b (X-h*t) (Y-h*t))(_:Gs g h)(_:ws.length<=40)(_:(∀w∈ws,L5 w))(_:zs.length<=1000)(_:(-(10^6)<=p/\p<=10^6))(_:(-(10^6)<=q/\q<=10^6))(_:∀(M':MH)(ps:List Vc),SD.Sub M M'->ps.Perm (Lf ws ws.length)->ps.Pairwise Lj->Q (.bl (zs.all (hB (ws.map (raw g h)) (ps.map (gq g h)) p q))) M')
def pJ(T:Tx K mg):Cal P w K mg base 6 "looks_hold" (QD Ms):=by
 refine m5 (k:=5) T.mu iM λf _ _ _ s H _ C=>#[_,(aj (aA 3 iM.nd (ao (jM T).m C (ae (dv 0) af))) (aq (ay (aI (Ds rfl) rfl T.n_ Cb (ae (bS (LO.of (xs:=["look"]) (js:=[0,3,1]) rfl) rfl (aQ (dv 2)) (λ_ _ _ _=>bD) (λ_ _ _ _=>(ao (oH T).m C (ae (dv 1) (ae (dv 2) (ae (dv 3) (ae (dv 0) af))))))) af))))),λ_ _ _ M Q h=>?_];let[t,b,X,Y,g,h,ws,p,q,l,j,8,8,8,N,S,O,G,o,v,zl,R,U,k]:=h;refine #[7,_,b,_,_,ws,8,O,o,v,λF I ps J _ a L V=>?_];let a:F I=KA (.lst ((ps.map (gq g h)).map (L6 t b X Y))):=by rw[xp];exact a
 let d:=J _ _ N
 let n:∀{e:Int},(0<=e/\e<=20)->-(10^6)<=g*e-h/\g*e-h<=10^6:=λ{e} x=>by
  let a1:0<=g*e:=Ko (by have:=G.g0;omega) x.1
  let a2:g*e<=12*20:=K8 G.g1 x.2 x.1 ⋯
  have:=G.h0
  have:=G.h1
  omega
 (try dsimp only[SD.aK])
 refine #[7,_,d,comp_map (λi=>((j.map λz=>D.bl (hB (ws.map (raw g h)) (ps.map (gq g h)) p q z))[i]?).getD .non) (by show(j.map L9).length<=1000000;rw[Ho];omega) (λz ys y=>by show(au F z _) l=_;rw[ak (az d y)];exact d) ?_ (λz y=>?_)]
 .intro i e M' hi hd W;let[z,Z,8]:=jy hd;refine #[7,λK2 hK=>?_];let r:=hK _ .refl;rw[getD_map Z]at r;refine #[7,7,7,7,t,b,X,Y,ws.map (raw g h),ps.map (gq g h),I,p,q,z,by rw[qm],8,8,8,W _ _ a,S,λw hw=>?_,λc hc=>?_,R,U,r]
  .obtain⟨w0,B,rfl⟩:=Iz.mp hw;let[W1,W2,W3,W4,_]:=v w0 B;exact #[n W1,n W2,n W3,n W4]
  .obtain⟨u,hu,rfl⟩:=Iz.mp hc;let[c1,c2]:=ud v u (L.mem_iff.mp hu);exact #[n c1,n c2]
 dsimp only
 let e1:(HM (j.map L9).length).map (λi=>((j.map λz=>D.bl (hB (ws.map (raw g h)) (ps.map (gq g h)) p q z))[i]?).getD .non)=(j.map (hB (ws.map (raw g h)) (ps.map (gq g h)) p q)).map D.bl:=by
  have:=SD.range_getD (j.map λz=>D.bl (hB (ws.map (raw g h)) (ps.map (gq g h)) p q z))
  rw[Ho]at this ⊢
  rw[this,Jj];rfl
 rw[e1];refine #[_,ai,LW ?_];rw[List.all_map];exact k _ ps (.new y J) L V
theorem bX:LN ["_law_shuts","_law_corners_here","_law_spot","_law_looks","_law_word","_law_number","_law_side_here","_law_due"] ["_law_shuts","_law_corners_here","_law_spot","_law_looks"] (ar gX):=⋯
inductive NC:Prop
 |mk (l zc lz:r4)(g h:Int)(ws:vp)(ps:List Vc)(p q:Int)(zs:List Lk)(_:x_=.ref l)(_:y3=.ref zc)(_:y4=.tup [.int p,.int q])(_:y_=.ref lz)(_:Gs g h)(_:(∀w∈ws,L5 w))(_:M l=KA (.lst (ws.map (L4 g h))))(_:M zc=KA (.lst (ps.map (gp g h))))(_:M lz=KA (.lst (zs.map L9)))(_:zs.length<=1000)(_:Q (.bl (zs.all (hB (ws.map (raw g h)) (ps.map (gq g h)) p q))) M)
def qq(T:Tx K mg):Cal P w K mg base 2 "_law_holds" (Qs NC):=by
 refine tU (k:=1) T.mB bX λf _ _ _ s H _ v=>#[_,(aj (bP HR rfl (aQ (dv 3)) (bg rfl (ax (aw 4 bX.nd) (ax (aw 5 bX.nd) (ax (aw 6 bX.nd) aS)))) (aj (aA 7 bX.nd jt) (aj (aR (gQ (fg (aD (kJ v.units) (dv 4) bF) (dj (zb rfl T.p_ (dv 5) (ae (aI bC rfl T.pa bA (ae (dv 1) af)) af))))) (aq (aA 7 bX.nd (av aU (bJ kj rfl T.oD jW (ae (bW (fM v.units) (dv 2) (aB (dv 1) (dv 5))) af)) (bJ kj rfl T.oD jW (ae (bW (b4 v.units) (dv 2) (aB (dv 1) (dv 5))) af))))) aF) (aj (aR (gQ (fg (aD (kJ v.units) (dv 4) bF) (dj (zb rfl T.p_ (dv 5) (ae (aI bC rfl T.pa bA (ae (dv 0) af)) af))))) (aq (aA 7 bX.nd (ao (cP T).m v (ae (aB (dv 0) (dv 5)) (ae (dv 2) af))))) aF) (aq (aR (gQ (l9 (aD BD (dv 7) jt) (kZ (aD (gL v.units) (dv 6) (dv 7))))) (aq (ay iR)) aF)))))) (aq (ay iR))),λ_ _ _ _ M Q h=>?_];let[l,W,X,g,h,ws,ps,p,q,B,8,8,8,8,G,Y,U,o,C,zl,k]:=h;exists 7,_,C;exists λi δ F=>W9 λ(J L N O:v9)=>δ=[KA (.ref l),KA (.ref W),KA (.tup [.int p,.int q]),KA (.ref X),J,L,N,O]/\F=M/\∀z∈B.take i,hB (ws.map (raw g h)) (ps.map (gq g h)) p q z=KD,#[_,_,_,7,8,λz r=>by rw[List.take_zero]at r;cases r],λi δ F _ Z=>?_,?_
 .obtain⟨_,_,_,_,_,e,_⟩:=Z;rw[e];exact C
 .rintro i d δ F hi hd ⟨J,L,N,O,rfl,rfl,R⟩;obtain⟨⟨⟨x,hx⟩,n,s⟩,V,rfl⟩:=jy hd;let zm:=Hz V;let lp:(ps.map (gp g h)).length=ps.length:=Ho ..;let lw:(ws.map (L4 g h)).length=ws.length:=Ho ..;exists 7,8,_,7,_,7,_,7,8
  let t:hB (ws.map (raw g h)) (ps.map (gq g h)) p q (#[x,hx],n,s)=KG->Q (.bl KG) F:=λe=>by
   have:B.all (hB (ws.map (raw g h)) (ps.map (gq g h)) p q)=KG:=List.all_eq_false.mpr #[_,zm,by rw[e];decide]
   rw[this]at k;exact k
  let j:hB (ws.map (raw g h)) (ps.map (gq g h)) p q (#[x,hx],n,s)=KD->∀z∈B.take (i+1),hB (ws.map (raw g h)) (ps.map (gq g h)) p q z=KD:=λe z r=>by
   rw[List.take_succ,V]at r;rcases HQ.mp r with y|y
   .exact R z y
   .have:z=(#[x,hx],n,s):=‹y›
    rw[this];exact e
  let kl:∀(m:Nat),n=(m:Int)->m<ps.length->∃u,ps[m]?=KA u/\atI (ps.map (gp g h)) n=KA (gp g h u)/\((ps.map (gq g h))[n.toNat]?).getD (0,0)=gq g h u:=λm em hm=>by
   subst em
   let e:=Ht hm
   exact #[_,e,aW (by rw[Hv,e];rfl),by rw[IJ,Hv,e];rfl]
  walk_at "u"
  refine nt (decide (x=("corner":Str))) (decide (0<=n)&&decide (n<(ps.length:Int))) (λb a=>#[7,7,a]) (λ_ b a=>#[7,7,_,o,n,7,8,by rw[lp];exact a]) ?_;by_cases h1:x="corner"/\0<=n/\n<(ps.length:Int)
  .obtain⟨rfl,I,n1⟩:=h1;refine iK (by rw[KL I,KL n1];rfl) ?_;let[u,eu,ea,eg]:=kl n.toNat () ();let e:hB (ws.map (raw g h)) (ps.map (gq g h)) p q (#["corner",hx],n,s)=decide (pG p q (gq g h u)=s):=by unfold hB;rw[KI #[8,I,by rw[Ho];exact n1]];dsimp only;rw[eg]
   exists 7,7,7,_,_,o,ea,[p,q],[g*u.1-h,g*u.2-h],8,8;exists 7,7,7,_,_,o,ea,[p,q],[g*u.1-h,g*u.2-h],8,8,trivial;refine nt KG KD (λb a=>#[7,7,a]) (λz=>by cases z) (gr rfl ?_);refine QF KG (!decide (s=pG p q (gq g h u))) (λb a=>#[7,7,7,a]) (λ_ b a=>#[7,7,7,a]) ?_;by_cases c:s=pG p q (gq g h u)
   .refine gr (by rw[KL c];rfl) #[_,_,_,7,8,j (by rw[e,KL c.symm])]
   .exact iK (by rw[KJ c];rfl) (LW (t (by rw[e,KJ (λz=>c z.symm)])))
  refine gr (by rw[<-J4,<-J4];exact KJ h1) ?_;let h1:¬(x="corner"/\0<=n/\n<((ps.map (gq g h)).length:Int)):=by rw[Ho];exact h1
  refine nt (decide (x=("wall":Str))) (decide (0<=n)&&decide (n<(ws.length:Int))) (λb a=>#[7,7,a]) (λ_ b a=>#[7,7,_,U,n,7,8,by rw[lw];exact a]) ?_;by_cases h2:x="wall"/\0<=n/\n<(ws.length:Int)
  .obtain⟨rfl,I,n1⟩:=h2;refine iK (by rw[KL I,KL n1];rfl) ?_;obtain⟨m,rfl⟩:∃m:Nat,n=(m:Int):=#[n.toNat,()];let S:=Ht (l:=ws) (i:=m) ();let e:hB (ws.map (raw g h)) (ps.map (gq g h)) p q (#["wall",hx],(m:Int),s)=decide (HW (sd (raw g h ws[m]) p q)=s):=by unfold hB;rw[KH h1,KI #[8,I,by rw[Ho];exact n1]];show decide (HW (sd (((ws.map (raw g h))[(m:Int).toNat]?).getD (0,0,0,0)) p q)=s)=_;rw[IJ,Hv,S];rfl
   exists 7,7,_,_,U,aW (by rw[Hv,S];rfl),7,g,h,ws[m],p,q,7,8,G,Y _ (Hz S),8;refine QF KG (!decide (s=HW (sd (raw g h ws[m]) p q))) (λb a=>#[7,7,7,a]) (λ_ b a=>#[7,7,7,a]) ?_;by_cases c:s=HW (sd (raw g h ws[m]) p q)
   .refine gr (by rw[KL c];rfl) #[_,_,_,7,8,j (by rw[e,KL c.symm])]
   .exact iK (by rw[KJ c];rfl) (LW (t (by rw[e,KJ (λz=>c z.symm)])))
  refine gr (by rw[<-J4,<-J4];exact KJ h2) ?_;let h2:¬(x="wall"/\0<=n/\n<((ws.map (raw g h)).length:Int)):=by rw[Ho];exact h2
  refine QF KD KD (λb a=>#[7,7,7,a]) (λz=>by cases z) (iK rfl (LW (t ?_)));unfold hB;rw[KH h1,KH h2]
 .rintro δ F ⟨J,L,N,O,rfl,rfl,R⟩
  have:B.all (hB (ws.map (raw g h)) (ps.map (gq g h)) p q)=KD:=K5.mpr λz r=>R z (by
   show z∈B.take (B.map L9).length
   rw[Ho,List.take_length];exact r)
  rw[this]at k;exact LW k
theorem bM:LN ["_law_pot_here","_law_looks","_law_way","_law_at","_law_word","_law_number","_law_side_here"] ["_law_pot_here","_law_looks"] (ar jb):=⋯
inductive Nc:Prop
 |mk (r l:r4)(n:Nat)(zs:List Lk)(_:x_=.ref r)(_:y3=.ref l)(_:r≠l)(_:M l=KA (.lst (zs.map L9)))(_:zs.length<=500)(_:LY M r n)(_:n<600000)(_:∀(M':MH)(z:r4)(zs':List Lk),Kx [r] M M'->M z=KC->M' z=KA (.lst (zs'.map L9))->zs'.length<=zs.length+1->LY M' r (n+6)->Q (.ref z) M')
def sZ(T:Tx K mg):Cal P w K mg base 2 "_law_bent" (Li Nc):=by
 refine bo (k:=1) T.m_ bM λf _ _ _ s H _ t=>#[_,(aj (aA 2 bM.nd (ao (aC T).m t (ae (dv 0) (ae ag af)))) (aj (aA 3 bM.nd (ao (aC T).m t (ae (dv 0) (ae (av aL (aI bC rfl T.pa bA (ae (dv 1) af)) ag) af)))) (aj (aR (aD (bj t.units) (dv 2) ag) (aq (ay (av aL (cn (dv 1) eD (cD (dv 3))) (cn (dv 1) (cD (av aL (dv 3) ag)) eD)))) aF) (aj (aR (aD (bj t.units) (dv 2) ag) (aq (ay (av aL (av aL (cn (dv 1) eD (cD (dv 3))) (cn (dv 1) (cD (dv 3)) (cD (av aL (dv 3) ag)))) (cn (dv 1) (cD (dv 3)) eD)))) aF) (aj (aR (aD (bj t.units) (dv 2) ag) (aq (ay (cn (dv 1) eD (cD (dv 3))))) aF) (aj (aR (gQ (l9 (aD (bj t.units) (dv 2) ag) (kZ (aD (bj t.units) (dv 3) (aI bC rfl T.pa bA (ae (dv 1) af)))))) (aq (ay (av aL (dv 1) (aV (ae (aJ (ae (aB (aV (ae bF (ae bF af))) (ao (aC T).m t (ae (dv 0) (ae ag af)))) (ae (ao (aC T).m t (ae (dv 0) (ae ag af))) (ae (av aU (ao (aC T).m t (ae (dv 0) (ae ag af))) ag) af)))) af))))) aF) (aj (bG (aB (dv 1) (dv 3)) (bg rfl (ax (aw 4 bM.nd) (ax (aw 5 bM.nd) (ax (aw 6 bM.nd) aS))))) (aj (aR (aD (bj t.units) (dv 2) ag) (aq (aA 4 bM.nd (aB (aV (ae bF (ae bF (ae bF (ae bF (ae bF (ae bF af))))))) (ao (aC T).m t (ae (dv 0) (ae ag af)))))) aF) (aj (aR (aD (bj t.units) (dv 2) ag) (aq (aA 5 bM.nd (aB (aV (ae (av aL (dv 5) ag) (ae (av aU (dv 5) ag) (ae (iO dO ag) (ae (av fP ag ag) (ae (ao (aC T).m t (ae (dv 0) (ae ag af))) af)))))) (ao (aC T).m t (ae (dv 0) (ae ag af)))))) aF) (aj (aR (aD (fM t.units) (dv 2) ag) (aq (aA 6 bM.nd (aB (aV (ae (iO dO ag) (ae ag (ae ag (ae ag (ae (iO dO ag) (ae (av fP ag ag) af))))))) (ao (aC T).m t (ae (dv 0) (ae ag af)))))) aF) (aq (ay (av aL (av aL (cn (dv 1) eD (cD (dv 3))) (aV (ae (aJ (ae (dv 4) (ae (dv 5) (ae (dv 6) af)))) af))) (cn (dv 1) (cD (av aL (dv 3) ag)) eD)))))))))))))),λ_ _ M Q h=>?_];let[r,l,n,e,8,8,U,hl,zl,P0,hn,k]:=h;let lz:(e.map L9).length=e.length:=Ho ..;refine #[7,r,9,n,8,8,P0,(),⋯,aX ⋯,λV o w0 w1 P1=>?_];let W:(au M r o) l=KA (.lst (e.map L9)):=by rw[ak U.symm];exact hl
 let b0:Kx [r] M (au M r o):=Kx.refl.upd (_);generalize au M r o=M1 at W b0 P1 ⊢;(try dsimp only[SD.aK])
 refine #[7,7,_,W,r,_,n+1,8,8,P1,(),(by rw[lz];omega),aX (by rw[lz];omega),λat' o2 a0 a1 R=>?_];rw[lz]at a1;obtain⟨j,rfl⟩:∃j:Nat,at'=(j:Int):=#[at'.toNat,()];let jl:j<=e.length:=()
 let i:(au M1 r o2) l=KA (.lst (e.map L9)):=by rw[ak U.symm];exact W
 let u:Kx [r] M (au M1 r o2):=b0.upd (_);generalize au M1 r o2=G at i u R ⊢;clear W b0 P1 M1;(try dsimp only[SD.aK])
 let sz:1000000<=HK:=LR rfl;let jn:∀{g:MH}{a b:r4}{xs ys:List Lk}{Q:DK},g a=KA (.lst (xs.map L9))->g b=KA (.lst (ys.map L9))->xs.length+ys.length<=1000->(∀(p:r4)(B:MH),SD.Sub g B->g p=KC->B p=KA (.lst ((xs++ys).map L9))->Q (.ref p) B)->xT (.ref a) (.ref b) g Q:=λ{g a b xs ys Q} h1 h2 h3 h4=>#[_,_,h1,h2,by rw[Ho,Ho];omega,λp X=>h4 p _ (.new X .refl) X (by rw[ai,Ib])];let I:∀{g B:MH}{p:r4}{xs:List Lk},Kx [r] M g->LY g r (n+6)->SD.Sub g B->g p=KC->B p=KA (.lst (xs.map L9))->xs.length<=e.length+1->Pu Q (.ref p) B:=λ{g B p xs} kx P s X h1 h2=>LW (k B p xs (kx.sub s) (kx.none P X) h1 h2 (let⟨a,b,c,e1,e2⟩:=P;#[a,b,c,s _ _ e1,e2]));let ej:((j:Int)+1)=((j+1:Nat):Int):=()
 exists 7,7;refine aZ (λ_=>?_) (λ_=>?_)
 .refine #[7,7,7,_,i,λD C=>?_];rw[uB _ _ jl];let J:SD.Sub G (au G D (.lst ((e.take j).map L9))):=.new C .refl;let h1:(au G D (.lst ((e.take j).map L9))) D=KA (.lst ((e.take j).map L9)):=ai;generalize au G D (.lst ((e.take j).map L9))=g at J h1 ⊢;refine #[7,7,7,_,J _ _ i,λL N=>?_];rw[ej,xF];let O:SD.Sub g (au g L (.lst ((e.drop (j+1)).map L9))):=.new N .refl;let h2:(au g L (.lst ((e.drop (j+1)).map L9))) L=KA (.lst ((e.drop (j+1)).map L9)):=ai;generalize au g L (.lst ((e.drop (j+1)).map L9))=B at O h2 ⊢;let s3:=SD.Sub.trans J O;exact jn (O _ _ h1) h2 (by rw[Iu,Jd];omega) λp M5 s5 f5 h5=>I u (R.le ()) (s3.trans s5) (dU s3 f5) h5 (by rw[Io,Iu,Jd];omega)
 exists 7,7;refine aZ (λ_=>?_) (λ_=>?_)
 .refine #[7,7,7,_,i,λD C=>?_];rw[uB _ _ jl];let J:SD.Sub G (au G D (.lst ((e.take j).map L9))):=.new C .refl;let h1:(au G D (.lst ((e.take j).map L9))) D=KA (.lst ((e.take j).map L9)):=ai;generalize au G D (.lst ((e.take j).map L9))=g at J h1 ⊢;let[ys,yl,ey]:=Fm L9 e jl;refine #[7,7,7,7,7,_,J _ _ i,λL N=>?_];rw[ey];let O:SD.Sub g (au g L (.lst (ys.map L9))):=.new N .refl;let h2:(au g L (.lst (ys.map L9))) L=KA (.lst (ys.map L9)):=ai;generalize au g L (.lst (ys.map L9))=B at O h2 ⊢;let s3:=SD.Sub.trans J O;refine jn (O _ _ h1) h2 (by rw[Iu];omega) λp3 M5 s5 f5 h5=>?_;let e0:=SD.Sub.trans s3 s5;refine #[7,7,7,_,e0 _ _ i,λp4 c0=>?_];rw[xF];let s6:SD.Sub M5 (au M5 p4 (.lst ((e.drop j).map L9))):=.new c0 .refl;let f0:=SD.Sub.trans e0 s6;exact jn (s6 _ _ h5) ai (by rw[Io,Iu,Jd];omega) λp M7 s7 f7 h7=>I u (R.le ()) (f0.trans s7) (dU f0 f7) h7 (by rw[Io,Io,Iu,Jd];omega)
 exists 7,7;refine aZ (λ_=>?_) (λ_=>?_)
 .refine #[7,7,7,_,i,λD C=>?_];rw[uB _ _ jl];exact I u (R.le ()) (.new C .refl) C ai (by rw[Iu];omega)
 walk_at "u"
 refine QF (decide (V=3)) (decide (j=e.length)) (λK2 hK=>#[7,7,hK]) (λ_ K2 hK=>#[7,7,_,i,7,?_]) ?_
 .rw[lz];show K2 (decide ((j:Int)=(e.length:Int))) G;rw[show decide ((j:Int)=(e.length:Int))=decide (j=e.length)from by rw[KN];omega];exact hK
 refine aZ (λ_=>?_) (λg0=>?_)
 .refine #[7,LR rfl,λy F=>?_];refine #[7,r,2,n+2,8,8,R.new F,(),⋯,aX ⋯,λv o v0 v1 P4=>?_];let[d,hd,ed]:=wO (ds:=[.str "corner",.str "wall"]) v0 v1;obtain⟨x,rfl⟩:∃x:Wd,d=.str x.1:=by simp only[Iw,List.not_mem_nil,or_false]at hd;rcases hd with rfl|rfl<;>exact #[#[_,by decide +kernel],rfl]
  exists _,_,by rw[ak (R.ne F).symm,ai],ed;let h0:Kx [r] M (au (au G y (.lst [.str "corner",.str "wall"])) r o):=(u.new F).upd (_);generalize au (au G y (.lst [.str "corner",.str "wall"])) r o=B at P4 h0 ⊢;refine #[7,r,9,n+3,8,8,P4,(),⋯,aX ⋯,λv2 o2 _ _ P5=>?_];refine #[7,r,3,n+4,8,8,P5,(),⋯,aX ⋯,λv3 o3 _ _ P6=>?_];let d0:Kx [r] M (au (au B r o2) r o3):=(h0.upd (_)).upd (_);generalize au (au B r o2) r o3=M6 at P6 d0 ⊢;let i0:=d0 l _ ‹U.symm› hl;refine #[trivial,LR rfl,LR rfl,λp X=>?_];exact jn (xs:=e) (ys:=[(x,v2,v3-1)]) (by rw[ak (az i0 X)];exact i0) ai (by show e.length+1<=1000;omega) λp' M8 s8 f8 h8=>I d0 (P6.le ()) (SD.Sub.trans (.new X .refl) s8) (dU (.new X .refl) f8) h8 (_)
 let jl:j<e.length:=by
  rw[Bool.or_eq_true,not_or]at g0
  have:=g0.2
  rw[decide_eq_true_eq]at this
  omega
 obtain⟨⟨x0,m0,s0⟩,ez⟩:∃z,e[j]?=KA z:=#[_,Ht jl];exists 7,7,_,_,i,aW (by rw[Hv,ez];rfl),7,8,_,7,_,7,_,7,8;(try dsimp only[SD.aK])
 refine cE (λδ Y=>OJ λ(x:Wd) (m s:Int)=>δ=[KA (.ref r),KA (.ref l),KA (.int V),KA (.int (j:Int)),KA (.str x.1),KA (.int m),KA (.int s)]/\Kx [r] M Y/\LY Y r (n+3)) ?_ (λZ=>?_);rotate_left
 .exists 7,7;refine aZ (λ_=>?_) (λ_=>Z _ _ #[_,_,7,u,R.le ()]);refine #[LR rfl,λy F=>?_];refine #[7,r,6,n+2,8,8,R.new F,(),⋯,aX ⋯,λv o v0 v1 P4=>?_];let[d,hd,ed]:=wO (ds:=[.str "corner",.str "wall",.str "land",.str "",.str "Corner",.str "walls"]) v0 v1;obtain⟨x,rfl⟩:∃x:Wd,d=.str x.1:=by simp only[Iw,List.not_mem_nil,or_false]at hd;rcases hd with rfl|rfl|rfl|rfl|rfl|rfl<;>exact #[#[_,by decide +kernel],rfl]
  exact #[_,_,by rw[ak (R.ne F).symm,ai],ed,Z _ _ #[_,_,7,(u.new F).upd (_),P4]]
 clear i u R G;rintro δ g ⟨x,m1,J,rfl,q,S⟩;refine cE (λδ Y=>OJ λ(x:Wd) (m s:Int)=>δ=[KA (.ref r),KA (.ref l),KA (.int V),KA (.int (j:Int)),KA (.str x.1),KA (.int m),KA (.int s)]/\Kx [r] M Y/\LY Y r (n+5)) ?_ (λZ=>?_);rotate_left
 .exists 7,7;refine aZ (λ_=>?_) (λ_=>Z _ _ #[_,_,7,q,S.le ()]);refine #[7,7,trivial,#[⋯,⋯,⋯],7,r,9,n+3,8,8,S,(),⋯,aX ⋯,λv2 o2 _ _ P4=>?_];refine #[LR rfl,λy F=>?_];refine #[7,r,5,n+4,8,8,P4.new F,(),⋯,aX ⋯,λv o v0 v1 P5=>?_];refine yq ((ak (P4.ne F).symm).trans ai) (λd hd=>?_) v0 v1 λz=>Z _ _ #[_,_,7,((q.upd (_)).new F).upd (_),P5];simp only[Iw,List.not_mem_nil,or_false]at hd;rcases hd with rfl|rfl|rfl|rfl|rfl<;>exact #[_,rfl]
 clear q S g;rintro δ g ⟨x,m2,O,rfl,q,S⟩;refine cE (λδ Y=>OJ λ(x:Wd) (m s:Int)=>δ=[KA (.ref r),KA (.ref l),KA (.int V),KA (.int (j:Int)),KA (.str x.1),KA (.int m),KA (.int s)]/\Kx [r] M Y/\LY Y r (n+6)) ?_ (λZ=>?_);rotate_left
 .exists 7,trivial,7;refine aZ (λ_=>?_) (λ_=>Z _ _ #[_,_,7,q,S.le ()]);refine #[#[⋯,⋯,⋯],LR rfl,λy F=>?_];refine #[7,r,6,n+5,8,8,S.new F,(),⋯,aX ⋯,λv o v0 v1 P5=>?_];refine yq ((ak (S.ne F).symm).trans ai) (λd hd=>?_) v0 v1 λz=>Z _ _ #[_,_,7,(q.new F).upd (_),P5];simp only[Iw,List.not_mem_nil,or_false]at hd;rcases hd with rfl|rfl|rfl|rfl|rfl|rfl<;>exact #[_,rfl]
 clear q S g;rintro δ g ⟨x,m3,s3,rfl,q,S⟩;let k0:=q l _ ‹U.symm› hl;refine #[7,7,7,_,k0,λD C=>?_];rw[uB _ _ (JX jl)];let J:SD.Sub g (au g D (.lst ((e.take j).map L9))):=.new C .refl;let h1:(au g D (.lst ((e.take j).map L9))) D=KA (.lst ((e.take j).map L9)):=ai;generalize au g D (.lst ((e.take j).map L9))=B at J h1 ⊢;refine #[7,7,7,LR rfl,LR rfl,λL N=>?_];let O:SD.Sub B (au B L (.lst (([(x,m3,s3)]:List Lk).map L9))):=.new N .refl;refine jn (xs:=e.take j) (ys:=[(x,m3,s3)]) (O _ _ h1) ai (by rw[Iu];show _+1<=1000;omega) λp3 M6 s6 f6 h6=>?_;let n0:=SD.Sub.trans J (SD.Sub.trans O s6);refine #[7,7,7,_,n0 _ _ k0,λp4 c0=>?_];rw[ej,xF];let s7:SD.Sub M6 (au M6 p4 (.lst ((e.drop (j+1)).map L9))):=.new c0 .refl;let o0:=SD.Sub.trans n0 s7;exact jn (s7 _ _ h6) ai (by rw[Io,Iu,Jd];show _+1+_<=1000;omega) λp M8 s8 f8 h8=>I q S (o0.trans s8) (dU o0 f8) h8 (by rw[Io,Io,Iu,Jd];show _+1+_<=_;omega)
theorem cQ:LN ["_law_script","_law_k","_law_pot_here","_law_shuts","_law_corners_here","_law_frame_here","_law_plot_here","_law_spot","_law_looks","_law_bend","_law_one","_law_handed","_law_found"] ["_law_script"] (ar xW):=⋯
inductive Pf(x:D)(M:MH)(Q:DK):Prop
 |mk (ns:_)(hh0:x=.rol (Jp D.int ns))(hh1:ns.length<=63)(hh2:Tb M)(hh3:∀M',Q (.bl KD) M'):Pf x M Q
def kD:Lo:=λa M Q=>match a with
 |[x]=>Pf x M Q
 |_=>False
theorem Ej:∀ds M Q,kD ds M Q->ds.length=1:=λds M Q h=>by
 unfold kD at h;split at h
 .rfl
 .exact h.elim
def FO{P:HL}{w:Il}{K:Hm}{mg:Str->Option Hn}{fa:r4}(T:Tx K mg)(m2:mg "law"=KA (.ref fa)):∃fd,(∀(s:Hq)(u:Hn),BindsTo s fd #[[u],[]] [("_law_script",u)])/\∀base:r_,Ll P w K mg base MY 13 fa fd ["_law_script"] (d3 K kD):=by
 refine Gv (k:=12) (N:=["_law_script","_law_k","_law_pot_here","_law_shuts","_law_corners_here","_law_frame_here","_law_plot_here","_law_spot","_law_looks","_law_bend","_law_one","_law_handed","_law_found"]) T.nq m2 cQ (λ_ _ _ _ _ _ us hl=>by let[_,8]:=SD.Ba hl;rfl) Ej λbase f cdv A outer s H E C=>#[_,(aj (gh HR rfl rfl T.p_ (ae (av aL ag (aI (uD rfl C.units) rfl T.pv zw (ae ag (ae (aI bC rfl T.pa bA (ae (dv 0) af)) af)))) af) (aw 1 cQ.nd) (aj (aA 2 cQ.nd (ao (vV T).m C (ae (dv 0) (ae (dv 1) af)))) (aj (aA 3 cQ.nd (ao (kO T).m C (ae (dv 2) (ae ag af)))) (aj (aA 4 cQ.nd (ao (nA T).m C (ae (dv 3) af))) (aj (aA 5 cQ.nd (ao (qw T).m C (ae (dv 2) (ae (aI bC rfl T.pa bA (ae (dv 3) af)) af)))) (aj (aA 6 cQ.nd (ao (sI T).m C (ae (dv 5) (ae (dv 3) af)))) (aj (aA 7 cQ.nd (ao (vS T).m C (ae (dv 2) (ae (dv 3) (ae (ao (k7 T).m C (ae (dv 2) (ae (dv 3) af))) af))))) (aj (aA 8 cQ.nd (ao (kT T).m C (ae (dv 2) (ae (dv 3) (ae (dv 4) (ae (dv 7) af)))))) (aj (aR (aD (bj C.units) (ao (aC T).m C (ae (dv 2) (ae ag af))) ag) (aq (aA 8 cQ.nd (ue T.cl_Steps ((qc T).mono ⋯) C (AO ((jT T).mono ⋯) C (ae (dv 6) af)) (ae (ao (fD T).m C (ae (dv 5) (ae (dv 7) af))) af)))) aF) (aq (gh HR rfl rfl T.p_ (ae ag af) (aw 9 cQ.nd) (aj (bP HR rfl (aQ (aV (ae (dv 7) (ae (ao (k7 T).m C (ae (dv 2) (ae (dv 3) af))) af)))) (aw 10 cQ.nd) (aj (aA 11 cQ.nd (bJ (md rfl) rfl T.pd oG (ae (dv 8) af))) (aj (aA 12 cQ.nd (ao (pJ T).m C (ae (dv 6) (ae (ao (fD T).m C (ae (dv 5) (ae (dv 10) af))) (ae (dv 11) af))))) (aq (aR (gQ (l9 (yU (dW (aI vj rfl T.o_ nB (ae (dv 12) (ae (Gj rfl T.ox z4) af))))) (l9 (aD (gL C.units) (dv 12) (ao (qq T).m C (ae (dv 3) (ae (dv 4) (ae (dv 10) (ae (dv 8) af)))))) (kZ (aD (gL C.units) (dv 11) (dv 8)))))) (aq (ay iR)) aF))))) (aq (aA 8 cQ.nd (ao (sZ T).m C (ae (dv 2) (ae (dv 8) af))))))))))))))))) (aq (ay iR))),λds M Q h=>?r]
 case r=>
  unfold kD at h
  split at h
  case h_2=>exact h.elim
  let[ns,8,p3,g1,k]:=h
  obtain⟨m,hm,q3⟩:∃m:Nat,1+min (3:Int) ((Jp D.int ns).length:Nat)=(m:Int)/\m<=4:=#[(1+min (3:Int) ((Jp D.int ns).length:Nat)).toNat,(),()]
  refine #[7,m,(by rw[hm]),(),λi δ M=>Tb M/\∃T:vr,δ=KA (.rol (Jp D.int ns))::T/\T.length=12,#[g1,7,rfl],?_,λδ M q=>?_]
  rotate_left
  .obtain⟨hT,T',rfl,_⟩:=q;exact LW (k _)
  rintro i δ M hi ⟨hT,T',rfl,hL⟩
  refine OE hL λo1 T' hL=>?_
  refine OE hL λo2 T' hL=>?_
  refine OE hL λo3 T' hL=>?_
  refine Hi hL λo4 o5 o6 o7 o8 o9 J L O=>?_
  (try dsimp only[SD.aK])
  refine Qw λB hB=>?_
  refine #[7,7,ns,(i:Int),8,8,(),λr ob C P0=>?_]
  let r0:Tb (au M r ob):=hT.new C
  generalize au M r ob=Ma at P0 r0 ⊢
  clear hT g1
  refine #[7,r,0,4,8,8,⋯,P0,⋯,λl ws Mb F fl kx hl hU hF n3 P1=>?_]
  let i1:Tb Mb:=r0.pot P0 kx
  clear r0 P0 kx fl
  (try dsimp only[SD.aK])
  let cl:=iC ws ws.length
  let G:Gs 6 24:=#[⋯,⋯,⋯,⋯]
  refine #[7,l,6,24,ws,8,G,hl,hU,(),(),λM1 Y ps s1 fc hc pm pw=>?_]
  let pe:=pm.length_eq
  let U:r≠Y:=P1.ne fc
  let Z:=s1 _ _ hl
  let d0:Tb M1:=i1.sub s1
  let P2:LY M1 r 400:=let⟨a,b,c,h1,h2⟩:=P1;#[a,b,c,s1 _ _ h1,h2]
  clear hl i1 s1 fc P1 Mb
  refine #[7,7,_,Z,r,400,7,8,P2,(),λt b x y M5 S ht hb hx hy h0 P5=>?_]
  let i0:=h0 l _ ‹F.symm› Z
  let j1:=h0 Y _ ‹U.symm› hc
  let k1:Tb M5:=d0.pot P2 h0
  clear Z hc h0 P2 d0 M1
  (try dsimp only[SD.aK])
  refine #[7,7,t,b,x,y,l,ws.map (raw 6 24),8,8,(by rw[ym];exact i0),S,by rw[Ho];omega,λw hw=>?_,?_]
  .obtain⟨w0,n2,rfl⟩:=Iz.mp hw;let[a1,a2,a3,a4]:=Ef G (hU w0 n2);exact #[(),(),(),()]
  rw[qm]
  let S':=AQ S G ht hb hx hy
  clear ht hb hx hy
  (try dsimp only[SD.aK])
  refine #[7,7,7,7,r,l,400+5,6,24,ws,8,8,F,⋯,⋯,i0,hU,(),P5,(),λp q M6 hp hq k0 P6=>?_]
  let s0:=k0 l _ ‹F.symm› i0
  let m1:=k0 Y _ ‹U.symm› j1
  let n1:Tb M6:=k1.pot P5 k0
  clear i0 j1 k0 P5 k1 M5
  refine #[r,l,400+5+9,6,24,ws,p,q,8,8,8,F,G,s0,hU,(),P6,(),hp,hq,λp q M7 hp hq V P7=>?_]
  let t0:=V l _ ‹F.symm› s0
  let u0:=V Y _ ‹U.symm› m1
  let r1:Tb M7:=n1.pot P6 V
  clear s0 m1 V P6 n1 M6
  (try dsimp only[SD.aK])
  let t1:ws≠[]->ps≠[]:=λne e=>by
   let[w,hw]:=List.exists_mem_of_ne_nil _ ne
   let[j,hj]:=List.getElem?_of_mem hw
   have:ea w∈ps:=pm.mem_iff.mpr ((gI _).mpr #[j,w,(Hw.mp hj).1,hj,.inl rfl])
   rw[e]at this;cases this
  refine #[7,7,7,7,r,l,Y,400+5+9+2,6,24,ws,ps,p,q,8,8,8,8,F,U,G,t0,u0,hU,(),(),t1,P7,(),λM8 I n m0 fk x0 r2 P8=>?_]
  let y0:=m0 l _ ‹F.symm› t0
  let z0:=m0 Y _ ‹U.symm› u0
  let c1:Tb M8:=r1.pot P7 m0
  let R:r≠I:=P7.ne fk
  clear t0 u0 m0 P7 r1 fk M7
  (try dsimp only[SD.aK])
  refine cE (λδ W=>Po λ(I:r4) (n:List Lk)=>WX (δ=[KA (.rol (Jp D.int ns)),KA (.int (i:Int)),KA (.ref r),KA (.ref l),KA (.ref Y),KA (Q8 t b x y),KA (.tup (ws.map (LQ (6*t) b (x-24*t) (y-24*t)))),KA (.tup [.int p,.int q]),KA (.ref I),o9,J,L,O]) (Tb W) (W l=KA (.lst (ws.map (L4 6 24)))) (W Y=KA (.lst (ps.map (gp 6 24)))) (W I=KA (.lst (n.map L9))) (r≠I) (n.length<=100) (LY W r 500)) ?_ (λhu=>?_)
  rotate_left
  .refine #[7,r,3,400+5+9+2+40,8,8,P8,(),⋯,aX ⋯,λv o v0 v1 P9=>?_];let e0:Kx [r] M8 (au M8 r o):=Kx.refl.upd (_);let a0:=e0 l _ ‹F.symm› y0;let b0:=e0 Y _ ‹U.symm› z0;let c0:=e0 I _ ‹R.symm› x0;let X:Tb (au M8 r o):=c1.pot P8 e0;clear e0 y0 z0 x0 c1 P8;generalize au M8 r o=M9 at a0 b0 c0 X P9 ⊢;exists 7;refine aZ (λ_=>?_) (λ_=>hu _ _ #[I,n,8,X,a0,b0,c0,R,(),P9.le ()]);refine #[7,λa ha=>?_];refine #[a,_,_,_,_,ws,8,8,ai,S',(),hU,hF,X.new ha,λu1 s2 g m z kp q0 t2 w1 pw2 x1=>#[8,?_]];let e6:=qT pw2 pw λk=>by rw[w1.mem_iff,pm.mem_iff]
   subst e6;let kl:∀c (ds:vu),M9 c=KA (.lst ds)->u1 c=KA (.lst ds):=λc ds e=>kp c _ (az e ha) (X.neL e) (by rw[ak (az e ha)];exact e);let y1:LY u1 r 500:=(let⟨a,b,c,h1,h2⟩:=P9;LY.le #[a,b,c,kl _ _ h1,h2] ());let z1:=kl _ _ a0;let c2:=kl _ _ b0;clear kl kp a0 b0 c0 X P9 ha w1;let one:(0:Int)<1/\(1:Int)<=10^6:=⋯
   let d2:-(10^6)<=p/\p<=10^6:=()
   let e2:-(10^6)<=q/\q<=10^6:=()
   exists a,7,q0,8,7,7,t,b,x,y,p,q,8,8,S,d2,e2;refine #[a,6*t,b,x-24*t,y-24*t,ws,s2,g,m,.ref z,100,_,7,8,q0,S',hU,λc hc=>ud hU c (pm.mem_iff.mp hc),(S.bx one d2).mono ⋯,(S.by' one e2).mono ⋯,t2,⋯,λr3 p1 u2 n0 v2 w2 len=>?_];exact hu _ _ #[p1,u2,8,x1.sub n0,n0 _ _ z1,n0 _ _ c2,w2,y1.ne v2,len,(let⟨a,b,c,h1,h2⟩:=y1;#[a,b,c,n0 _ _ h1,h2])]
  clear y0 z0 c1 x0 R r2 P8 t1 M8
  rintro δ M9 ⟨I,n,rfl,X,a0,b0,c0,R,x2,P9⟩
  exists 4,8,(),λj δ W=>Yn λ(I:r4) (n:List Lk) (o9 J L O:v9)=>WX (δ=[KA (.rol (Jp D.int ns)),KA (.int (i:Int)),KA (.ref r),KA (.ref l),KA (.ref Y),KA (Q8 t b x y),KA (.tup (ws.map (LQ (6*t) b (x-24*t) (y-24*t)))),KA (.tup [.int p,.int q]),KA (.ref I),o9,J,L,O]) (Tb W) (W l=KA (.lst (ws.map (L4 6 24)))) (W Y=KA (.lst (ps.map (gp 6 24)))) (W I=KA (.lst (n.map L9))) (r≠I) (n.length<=100+j) (LY W r (500+100*j)),#[I,n,_,_,_,7,X,a0,b0,c0,R,(),P9],?_
  rotate_left
  .rintro δ W ⟨I,n,o9,J,L,O,rfl,y2,_,_,_,_,_,_⟩;exact hB _ _ #[y2,7,rfl]
  clear X a0 b0 c0 R x2 P9 M9 n I
  rintro j δ W hj ⟨I,n,o9,J,L,O,rfl,d0,Z,f2,g2,R,zl,P1⟩
  (try dsimp only[SD.aK])
  refine #[7,7,7,r,l,500+100*j,6,24,ws,8,8,F,⋯,⋯,Z,hU,(),P1,(),λp2 q2 M3 s3 t3 f0 P3=>?_]
  let i2:=f0 l _ ‹F.symm› Z
  let j2:=f0 Y _ ‹U.symm› f2
  let o0:=f0 I _ ‹R.symm› g2
  let z2:Tb M3:=d0.pot P1 f0
  clear f0 Z f2 g2 d0 P1
  refine #[LR rfl,λy9 b3=>?_]
  let s4:SD.Sub M3 (au M3 y9 (.lst [.tup [.int p,.int q],.tup [.int p2,.int q2]])):=.new b3 .refl
  let d1:(au M3 y9 (.lst [.tup [.int p,.int q],.tup [.int p2,.int q2]])) y9=KA (.lst [.tup [.int p,.int q],.tup [.int p2,.int q2]]):=ai
  generalize au M3 y9 (.lst [.tup [.int p,.int q],.tup [.int p2,.int q2]])=M4 at s4 d1 ⊢
  exists _,d1
  exists λe δ W=>OJ λ(J L O:v9)=>δ=[KA (.rol (Jp D.int ns)),KA (.int (i:Int)),KA (.ref r),KA (.ref l),KA (.ref Y),KA (Q8 t b x y),KA (.tup (ws.map (LQ (6*t) b (x-24*t) (y-24*t)))),KA (.tup [.int p,.int q]),KA (.ref I),KA (.int (j:Int)),J,L,O]/\SD.Sub M3 W/\W y9=KA (.lst [.tup [.int p,.int q],.tup [.int p2,.int q2]]),#[_,_,7,s4,d1],λe δ W _ q9=>?_,?_
  .obtain⟨_,_,_,_,_,h⟩:=q9;exact h
  .rintro e d δ M5 he hd ⟨J,L,O,rfl,s5,k2⟩
   obtain⟨p1,q1,rfl,b1,b2⟩:∃p1 q1:Int,d=.tup [.int p1,.int q1]/\(-(10^6)<=p1/\p1<=10^6)/\(-(10^6)<=q1/\q1<=10^6):=by
    let hd:([.tup [.int p,.int q],.tup [.int p2,.int q2]]:vu)[e]?=KA d:=hd;let he:e<2:=he;rcases(():e=0\/e=1)with rfl|rfl
    .cases hd;exact #[_,7,(),()]
    .cases hd;exact #[_,7,(),()]
   let c3:=s5 _ _ o0;(try dsimp only[SD.aK])
   refine #[7,.inl #[_,c3,λz hz=>?_]];let s6:SD.Sub M5 (au M5 z (.lst (n.map L9))):=.new hz .refl;let e1:(au M5 z (.lst (n.map L9))) z=KA (.lst (n.map L9)):=ai;generalize au M5 z (.lst (n.map L9))=M6 at s6 e1 ⊢;let e3:=SD.Sub.trans s5 s6;refine #[7,7,7,t,b,x,y,p1,q1,8,8,S,b1,b2,7,t,b,x,y,6,24,ws,p1,q1,z,n,8,8,8,e1,S,S',G,(),hU,(),b1,b2,λM7 f3 s7 g3 h3=>?_];let e7:=qT h3 pw λk=>by rw[g3.mem_iff,pm.mem_iff]
   subst e7;let g0:=SD.Sub.trans e3 s7;walk_at "u"
   refine QF KG KG (λK2 hK=>#[7,"bool",KD,8,8,7,hK]) (λ_ K2 hK=>?_) (gr rfl #[_,_,7,g0,s7 _ _ (s6 _ _ k2)]);refine QF KG KG (λK3 f1=>#[7,7,7,7,7,l,Y,I,6,24,ws,f3,p1,q1,n,8,8,8,8,G,hU,g0 _ _ i2,g0 _ _ j2,g0 _ _ o0,(),7,?_]) (λ_ K3 f1=>#[7,7,.list (n.map PZ),.list (n.map PZ),.lst (s7 _ _ e1) (sW n),.lst (g0 _ _ o0) (sW n),n4 n,n4 n,7,?_]) hK
   .rw[KL rfl];exact f1
   .rw[Iy,yD];exact f1
  rintro δ M5 ⟨J,L,O,rfl,s5,k2⟩
  let P5:LY M5 r (500+100*j+9):=(let⟨a,b,c,h1,h2⟩:=P3;#[a,b,c,s5 _ _ h1,h2])
  refine #[7,7,r,I,500+100*j+9,n,8,8,R,s5 _ _ o0,(),P5,(),λM7 i3 k3 V fz m3 u3 P7=>?_]
  exact #[i3,k3,_,_,_,7,(z2.sub s5).pot P5 V,V l _ ‹F.symm› (s5 _ _ i2),V Y _ ‹U.symm› (s5 _ _ j2),m3,P5.ne fz,(),P7.le ()]
theorem DO(ns:sy)(M:MH)(h:ns.length<=63)(a:M 299=KA (uX #[])):kD [.rol (ns.map D.int)] M (λd _=>d=.bl KD):=#[ns,8,h,.inl a,λ_=>rfl]
def kE(P:HN)(n:String)(k:Nat)(v:Hn):IQ:={ hash:=PyData.keyHash P (IW n),key:=.str (IW n) k,val:=v }
def kF(i:Nat)(n m:String)(k c:Nat):Obj:={ cls:=.type "function",data:=.func { name:=IW n,qualname:=IW n,params:=aY (top i),body:=.stmts (aN (top i)),scope:=ar (top i),globals:=!3,closure:=[],defaults:=.none,kwdefaults:=.none,pyModule:=.str (IW m) k,code:=.ref c } }
def Zg(P:HN):s_:=[kE P "__name__" ↑165 (.str "law_spotlook_k47_looks_that_hold" 773),kE P "__doc__" ↑166 (.none),kE P "__package__" ↑167 (.none),kE P "__loader__" ↑168 (.builtin "__main__.__loader__#opaque"),kE P "__spec__" ↑169 (.none),kE P "__annotations__" ↑170 (.ref !6),kE P "__builtins__" ↑171 (.ref !4),kE P "__file__" ↑173 (.str "/claim/cut.py" 172)]
def Zf(P:HN):s_:=[kE P "__cached__" ↑174 (.none),kE P "_wall" ↑193 (.ref !21),kE P "SpotError" ↑213 (.ref !31),kE P "NoFraction" ↑229 (.ref !44),kE P "greatest_divisor" ↑239 (.ref !53),kE P "fraction" ↑248 (.ref !60),kE P "is_less" ↑256 (.ref !67),kE P "common_bottom" ↑265 (.ref !74)]
def Ze(P:HN):s_:=[kE P "top_over" ↑273 (.ref !81),kE P "is_ahead" ↑283 (.ref !88),kE P "later_of" ↑291 (.ref !95),kE P "earlier_of" ↑299 (.ref !102),kE P "place_among" ↑310 (.ref !109),kE P "ahead_first" ↑319 (.ref !116),kE P "own_spot" ↑328 (.ref !123),kE P "own_wall" ↑335 (.ref !130)]
def Zd(P:HN):s_:=[kE P "gap" ↑343 (.ref !137),kE P "lean" ↑361 (.ref !144),kE P "side_of" ↑370 (.ref !151),kE P "own_plot" ↑378 (.ref !156),kE P "corners_of" ↑388 (.ref !163),kE P "ends_by_number" ↑394 (.ref !168),kE P "halves" ↑404 (.ref !175),kE P "guide_by_halving" ↑412 (.ref !182)]
def Zc(P:HN):s_:=[kE P "guide_between" ↑427 (.ref !189),kE P "guide_after" ↑439 (.ref !196),kE P "side_at_corner" ↑447 (.ref !203),kE P "Way" ↑537 (.ref !262),kE P "looks_hold" ↑545 (.ref !271),kE P "look_holds" ↑558 (.ref !278),kE P "spans" ↑568 (.ref !285),kE P "is_above" ↑580 (.ref !292)]
def Zb(P:HN):s_:=[kE P "above_table" ↑586 (.ref !297),kE P "lowest_first" ↑596 (.ref !304),kE P "upper_of" ↑605 (.ref !311),kE P "upper_below" ↑611 (.ref !316),kE P "face_ends" ↑623 (.ref !323),kE P "faces_by_start" ↑632 (.ref !330),kE P "is_met_sooner" ↑644 (.ref !337),kE P "face_behind" ↑658 (.ref !344)]
def Za(P:HN):s_:=[kE P "ring_from" ↑669 (.ref !351),kE P "rings_of" ↑682 (.ref !358),kE P "twice_area" ↑688 (.ref !363),kE P "outer_and_inner" ↑700 (.ref !370),kE P "first_corner" ↑710 (.ref !377),kE P "land_about" ↑720 (.ref !384),kE P "lands_of_faces" ↑726 (.ref !389),kE P "steps_of" ↑734 (.ref !394)]
def Z9(P:HN):s_:=[kE P "guide_of_step" ↑740 (.ref !399),kE P "Steps" ↑772 (.ref !421),kE P "_law_pot" ↑783 (.ref !430),kE P "_law_take" ↑793 (.ref !437),kE P "_law_side" ↑806 (.ref !444),kE P "_law_on" ↑814 (.ref !451),kE P "_law_apart" ↑826 (.ref !458),kE P "_law_new_spot" ↑834 (.ref !465)]
def Z8(P:HN):s_:=[kE P "_law_some_spot" ↑843 (.ref !472),kE P "_law_square" ↑854 (.ref !479),kE P "_law_laid" ↑860 (.ref !484),kE P "_law_shuts_here" ↑866 (.ref !489),kE P "_law_frac" ↑876 (.ref !496),kE P "_law_frame" ↑882 (.ref !501),kE P "_law_given" ↑894 (.ref !508),kE P "_law_plot" ↑900 (.ref !513)]
def Z7(P:HN):s_:=[kE P "_law_asked" ↑914 (.ref !520),kE P "_law_corners" ↑920 (.ref !525),kE P "_law_bent" ↑933 (.ref !532),kE P "_law_holds" ↑947 (.ref !539),kE P "_law_some_looks" ↑960 (.ref !546),kE P "_law_far" ↑971 (.ref !553),kE P "law" ↑990 (.ref !560)]
def kG(P:HN):Obj:={ cls:=.type "dict",data:=.dict (HZ (Zg P++(Zf P++(Ze P++(Zd P++(Zc P++(Zb P++(Za P++(Z9 P++(Z8 P++(Z7 P))))))))))) 79 }
def La(n:String)(h:Nat)(i:Nat)(j:Nat)(k:Nat)(l:Nat)(m:Nat)(a:Nat)(b:Nat)(c:Nat)(d:Nat)(e:Nat)(f:Nat)(g:Nat):Obj:={ cls:=.type "code",data:=.fields (List.toArray [.str (IW n) h,.str (IW n) i,.str "/claim/cut.py" j,.int (Kp k) 0,.int (Kp l) 0,.int 0 0,.int 0 0,.int 3 0,.ref m,.bool KD,.int 181 0,.ref a,.none,.ref b,.ref c,.ref d,.int (Kp e) 0,.int (Kp f) 0,.str "/claim/cut.py" g]) }
def kM(i j:Nat)(n q m:String)(k c:Nat):Obj:={ cls:=.type "function",data:=.func { name:=IW n,qualname:=IW q,params:=aY (SD.mG (top i) j),body:=.stmts (aN (SD.mG (top i) j)),scope:=ar (SD.mG (top i) j),globals:=!3,closure:=[],defaults:=.none,kwdefaults:=.none,pyModule:=.str (IW m) k,code:=.ref c } }
def GL(P:HN):Obj:={ cls:=.type "dict",data:=.dict (HZ [kE P "__module__" ↑203 (.str "spotlook.errors" 194),kE P "__firstlineno__" ↑207 (.int 5 206),kE P "__static_attributes__" ↑208 (.ref !29),kE P "__weakref__" ↑210 (.ref !32),kE P "__doc__" ↑211 (.none)]) 3 }
def GC(P:HN):Obj:={ cls:=.type "dict",data:=.dict (HZ [kE P "__module__" ↑221 (.str "spotlook.errors" 194),kE P "__firstlineno__" ↑225 (.int 7 224),kE P "__static_attributes__" ↑226 (.ref !42),kE P "__doc__" ↑227 (.none)]) 2 }
def Et(P:HN):Obj:={ cls:=.type "dict",data:=.dict (HZ [kE P "__module__" ↑455 (.str "spotlook.ways" 395),kE P "__firstlineno__" ↑459 (.int 115 458),kE P "__init__" ↑467 (.ref !217),kE P "after" ↑475 (.ref !224),kE P "side_at" ↑485 (.ref !231),kE P "looks" ↑498 (.ref !238),kE P "look" ↑506 (.ref !245),kE P "led" ↑518 (.ref !252),kE P "most" ↑525 (.ref !259),kE P "__static_attributes__" ↑530 (.ref !260),kE P "__dict__" ↑532 (.ref !263),kE P "__weakref__" ↑534 (.ref !264),kE P "__doc__" ↑535 (.none)]) 4 }
def FN(P:HN):Obj:={ cls:=.type "dict",data:=.dict (HZ [kE P "__module__" ↑748 (.str "spotlook.steps" 727),kE P "__firstlineno__" ↑752 (.int 282 751),kE P "__init__" ↑758 (.ref !411),kE P "steps" ↑765 (.ref !418),kE P "__static_attributes__" ↑769 (.ref !419),kE P "__doc__" ↑770 (.none)]) 2 }
def kN(l:List Obj)(i:Nat):Obj:=l.getD i { cls:=.none,data:=.dict #[] }
def Lb(n q:Str)(a b c l k f r:Nat)(t:Bool)(s:Nat)(x y z:Hn)(d e:Nat):Obj:={ cls:=.type "code",data:=.fields (List.toArray [.str n a,.str q b,.str "/claim/cut.py" c,.int l 0,.int k 0,.int 0 0,.int 0 0,.int f 0,.ref r,.bool t,.int 181 0,.ref s,.none,x,y,z,.int d 0,.int l 0,.str "/claim/cut.py" e]) }
def Zn(n:Str)(s g a i j:Nat):Obj:={ cls:=.type "type",data:=.cls { name:=n,bases:=[.ref 24],mro:=[.ref s,.ref 24,.type "ValueError",.type "Exception",.type "BaseException",.type "object"],ns:=g,qualname:=n,hasDict:=KD,slotNames:=[],subclasses:=[],abstract:=KG,collection:=KC,hasDel:=KG },slots:=(List.toArray [KA (.ref a),KC,KA (.str n i),KA (.str n j),KA (.builtin "ValueError.__new__"),KA (.bool KD)]) }
def Zm(n:Str)(s g a i j:Nat):Obj:={ cls:=.type "type",data:=.cls { name:=n,bases:=[.ref !24],mro:=[.ref s,.ref !24,.type "ValueError",.type "Exception",.type "BaseException",.type "object"],ns:=g,qualname:=n,hasDict:=KD,slotNames:=[],subclasses:=[],abstract:=KG,collection:=KC,hasDel:=KG },slots:=(List.toArray [KA (.ref a),KC,KA (.str n i),KA (.str n j),KA (.builtin "ValueError.__new__"),KA (.bool KD)]) }
def MZ:Hn:=.str "law_spotlook_k47_looks_that_hold" 773
def Mo(i:Nat)(n:String)(c:Nat):Obj:=kF i n "law_spotlook_k47_looks_that_hold" ↑773 c
def QP:List Obj:=[{ cls:=.none,data:=.dict #[] 0 },{ cls:=.type "module",dict:=KA !0,data:=.plain },La "_wall" ↑187 ↑188 ↑189 ↑1 ↑1 ↑15 ↑16 ↑17 ↑18 ↑19 ↑191 ↑1 !192,kF ↑0 "_wall" "__main__" ↑164 !20,{ cls:=.type "type",data:=.cls { name:="SpotError",bases:=[(.type "ValueError")],mro:=[(.ref !31),(.type "ValueError"),(.type "Exception"),(.type "BaseException"),(.type "object")],ns:=30,qualname:="SpotError",hasDict:=KD,slotNames:=[],subclasses:=[(.ref !44)],abstract:=KG,collection:=KC,hasDel:=KG },slots:=(List.toArray [(KA (.ref !22)),KC,(KA (.str "SpotError" 196)),(KA (.str "SpotError" 204)),(KA (.builtin "ValueError.__new__")),(KA (.bool KD))]) },{ cls:=.type "type",data:=.cls { name:="NoFraction",bases:=[(.ref !31)],mro:=[(.ref !44),(.ref !31),(.type "ValueError"),(.type "Exception"),(.type "BaseException"),(.type "object")],ns:=43,qualname:="NoFraction",hasDict:=KD,slotNames:=[],subclasses:=[],abstract:=KG,collection:=KC,hasDel:=KG },slots:=(List.toArray [(KA (.ref !35)),KC,(KA (.str "NoFraction" 214)),(KA (.str "NoFraction" 222)),(KA (.builtin "ValueError.__new__")),(KA (.bool KD))]) },La "greatest_divisor" ↑232 ↑233 ↑234 ↑10 ↑2 ↑47 ↑48 ↑49 ↑50 ↑51 ↑237 ↑10 !238,kF ↑5 "greatest_divisor" "spotlook.fractions" ↑230 !52]
def QO:List Obj:=[La "fraction" ↑240 ↑241 ↑242 ↑14 ↑2 ↑54 ↑55 ↑56 ↑57 ↑58 ↑246 ↑14 !247,kF ↑6 "fraction" "spotlook.fractions" ↑230 !59,La "is_less" ↑249 ↑250 ↑251 ↑21 ↑2 ↑61 ↑62 ↑63 ↑64 ↑65 ↑254 ↑21 !255,kF ↑7 "is_less" "spotlook.fractions" ↑230 !66,La "common_bottom" ↑257 ↑258 ↑259 ↑23 ↑1 ↑68 ↑69 ↑70 ↑71 ↑72 ↑263 ↑23 !264,kF ↑8 "common_bottom" "spotlook.fractions" ↑230 !73,La "top_over" ↑266 ↑267 ↑268 ↑28 ↑2 ↑75 ↑76 ↑77 ↑78 ↑79 ↑271 ↑28 !272,kF ↑9 "top_over" "spotlook.fractions" ↑230 !80]
def QN:List Obj:=[La "is_ahead" ↑276 ↑277 ↑278 ↑31 ↑2 ↑82 ↑83 ↑84 ↑85 ↑86 ↑281 ↑31 !282,kF ↑11 "is_ahead" "spotlook.spots" ↑274 !87,La "later_of" ↑284 ↑285 ↑286 ↑35 ↑2 ↑89 ↑90 ↑91 ↑92 ↑93 ↑289 ↑35 !290,kF ↑12 "later_of" "spotlook.spots" ↑274 !94,La "earlier_of" ↑292 ↑293 ↑294 ↑37 ↑2 ↑96 ↑97 ↑98 ↑99 ↑100 ↑297 ↑37 !298,kF ↑13 "earlier_of" "spotlook.spots" ↑274 !101,La "place_among" ↑300 ↑301 ↑302 ↑39 ↑2 ↑103 ↑104 ↑105 ↑106 ↑107 ↑308 ↑39 !309,kF ↑14 "place_among" "spotlook.spots" ↑274 !108]
def QM:List Obj:=[La "ahead_first" ↑311 ↑312 ↑313 ↑48 ↑1 ↑110 ↑111 ↑112 ↑113 ↑114 ↑317 ↑48 !318,kF ↑15 "ahead_first" "spotlook.spots" ↑274 !115,La "own_spot" ↑320 ↑321 ↑322 ↑53 ↑1 ↑117 ↑118 ↑119 ↑120 ↑121 ↑326 ↑53 !327,kF ↑16 "own_spot" "spotlook.spots" ↑274 !122,La "own_wall" ↑329 ↑330 ↑331 ↑56 ↑1 ↑124 ↑125 ↑126 ↑127 ↑128 ↑333 ↑56 !334,kF ↑17 "own_wall" "spotlook.spots" ↑274 !129,La "gap" ↑336 ↑337 ↑338 ↑58 ↑2 ↑131 ↑132 ↑133 ↑134 ↑135 ↑341 ↑58 !342,kF ↑18 "gap" "spotlook.spots" ↑274 !136]
def QL:List Obj:=[La "lean" ↑344 ↑345 ↑346 ↑60 ↑2 ↑138 ↑139 ↑140 ↑141 ↑142 ↑359 ↑60 !360,kF ↑19 "lean" "spotlook.spots" ↑274 !143,La "side_of" ↑362 ↑363 ↑364 ↑66 ↑2 ↑145 ↑146 ↑147 ↑148 ↑149 ↑368 ↑66 !369,kF ↑20 "side_of" "spotlook.spots" ↑274 !150,(Lb "own_plot" "own_plot" 373 374 375 74 1 3 152 KD 153 .none .none (.ref 154) 376 377),kF ↑22 "own_plot" "spotlook.plots" ↑371 !155,La "corners_of" ↑379 ↑380 ↑381 ↑76 ↑1 ↑157 ↑158 ↑159 ↑160 ↑161 ↑386 ↑76 !387,kF ↑23 "corners_of" "spotlook.plots" ↑371 !162]
def QK:List Obj:=[(Lb "ends_by_number" "ends_by_number" 389 390 391 82 2 3 164 KD 165 .none .none (.ref 166) 392 393),kF ↑24 "ends_by_number" "spotlook.plots" ↑371 !167,La "halves" ↑397 ↑398 ↑399 ↑86 ↑1 ↑169 ↑170 ↑171 ↑172 ↑173 ↑402 ↑86 !403,kF ↑26 "halves" "spotlook.ways" ↑395 !174,La "guide_by_halving" ↑405 ↑406 ↑407 ↑92 ↑2 ↑176 ↑177 ↑178 ↑179 ↑180 ↑410 ↑92 !411,kF ↑27 "guide_by_halving" "spotlook.ways" ↑395 !181,La "guide_between" ↑413 ↑414 ↑415 ↑94 ↑4 ↑183 ↑184 ↑185 ↑186 ↑187 ↑425 ↑94 !426,kF ↑28 "guide_between" "spotlook.ways" ↑395 !188]
def QJ:List Obj:=[La "guide_after" ↑428 ↑429 ↑430 ↑102 ↑2 ↑190 ↑191 ↑192 ↑193 ↑194 ↑437 ↑102 !438,kF ↑29 "guide_after" "spotlook.ways" ↑395 !195,La "side_at_corner" ↑440 ↑441 ↑442 ↑111 ↑2 ↑197 ↑198 ↑199 ↑200 ↑201 ↑445 ↑111 !446,kF ↑30 "side_at_corner" "spotlook.ways" ↑395 !202,(Lb "__init__" "Way.__init__" 460 461 462 117 2 3 211 KD 212 (.ref 213) (.ref 214) (.ref 215) 465 466),kM ↑31 ↑0 "__init__" "Way.__init__" "spotlook.ways" ↑395 !216,(Lb "after" "Way.after" 468 469 470 123 2 3 218 KD 219 (.ref 220) (.ref 221) (.ref 222) 473 474),kM ↑31 ↑1 "after" "Way.after" "spotlook.ways" ↑395 !223]
def QI:List Obj:=[(Lb "side_at" "Way.side_at" 476 477 478 126 4 3 225 KD 226 (.ref 227) (.ref 228) (.ref 229) 483 484),kM ↑31 ↑2 "side_at" "Way.side_at" "spotlook.ways" ↑395 !230,(Lb "looks" "Way.looks" 486 487 488 131 2 3 232 KD 233 (.ref 234) (.ref 235) (.ref 236) 496 497),kM ↑31 ↑3 "looks" "Way.looks" "spotlook.ways" ↑395 !237,(Lb "look" "Way.look" 499 500 501 141 2 3 239 KD 240 (.ref 241) (.ref 242) (.ref 243) 504 505),kM ↑31 ↑4 "look" "Way.look" "spotlook.ways" ↑395 !244,(Lb "led" "Way.led" 507 508 509 144 2 3 246 KD 247 (.ref 248) (.ref 249) (.ref 250) 516 517),kM ↑31 ↑5 "led" "Way.led" "spotlook.ways" ↑395 !251]
def QH:List Obj:=[(Lb "most" "Way.most" 519 520 521 154 1 3 253 KD 254 (.ref 255) (.ref 256) (.ref 257) 523 524),kM ↑31 ↑6 "most" "Way.most" "spotlook.ways" ↑395 !258,{ cls:=.type "type",data:=.cls { name:="Way",bases:=[(.type "object")],mro:=[(.ref !262),(.type "object")],ns:=261,qualname:="Way",hasDict:=KD,slotNames:=[],subclasses:=[(.ref !421)],abstract:=KG,collection:=KC,hasDel:=KG },slots:=(List.toArray [KC,KC,(KA (.str "Way" 448)),(KA (.str "Way" 456)),(KA (.builtin "object.__new__")),(KA (.bool KD))]) },(Lb "looks_hold" "looks_hold" 540 541 542 157 3 3 267 KD 268 .none .none (.ref 269) 543 544),kF ↑33 "looks_hold" "spotlook.papers" ↑538 !270,La "look_holds" ↑546 ↑547 ↑548 ↑160 ↑4 ↑272 ↑273 ↑274 ↑275 ↑276 ↑556 ↑160 !557,kF ↑34 "look_holds" "spotlook.papers" ↑538 !277,La "spans" ↑561 ↑562 ↑563 ↑168 ↑2 ↑279 ↑280 ↑281 ↑282 ↑283 ↑566 ↑168 !567]
def QG:List Obj:=[kF ↑36 "spans" "spotlook.above" ↑559 !284,La "is_above" ↑569 ↑570 ↑571 ↑170 ↑2 ↑286 ↑287 ↑288 ↑289 ↑290 ↑578 ↑170 !579,kF ↑37 "is_above" "spotlook.above" ↑559 !291,(Lb "above_table" "above_table" 581 582 583 178 1 3 293 KD 294 .none .none (.ref 295) 584 585),kF ↑38 "above_table" "spotlook.above" ↑559 !296,La "lowest_first" ↑587 ↑588 ↑589 ↑180 ↑2 ↑298 ↑299 ↑300 ↑301 ↑302 ↑594 ↑180 !595,kF ↑39 "lowest_first" "spotlook.above" ↑559 !303,La "upper_of" ↑597 ↑598 ↑599 ↑182 ↑1 ↑305 ↑306 ↑307 ↑308 ↑309 ↑603 ↑182 !604]
def NV:List Obj:=[kF ↑40 "upper_of" "spotlook.above" ↑559 !310,(Lb "upper_below" "upper_below" 606 607 608 188 2 3 312 KD 313 .none .none (.ref 314) 609 610),kF ↑41 "upper_below" "spotlook.above" ↑559 !315,La "face_ends" ↑614 ↑615 ↑616 ↑192 ↑2 ↑317 ↑318 ↑319 ↑320 ↑321 ↑621 ↑192 !622,kF ↑43 "face_ends" "spotlook.rings" ↑612 !322,La "faces_by_start" ↑624 ↑625 ↑626 ↑195 ↑1 ↑324 ↑325 ↑326 ↑327 ↑328 ↑630 ↑195 !631,kF ↑44 "faces_by_start" "spotlook.rings" ↑612 !329,La "is_met_sooner" ↑633 ↑634 ↑635 ↑200 ↑4 ↑331 ↑332 ↑333 ↑334 ↑335 ↑642 ↑200 !643]
def NU:List Obj:=[kF ↑45 "is_met_sooner" "spotlook.rings" ↑612 !336,La "face_behind" ↑645 ↑646 ↑647 ↑206 ↑3 ↑338 ↑339 ↑340 ↑341 ↑342 ↑656 ↑206 !657,kF ↑46 "face_behind" "spotlook.rings" ↑612 !343,La "ring_from" ↑659 ↑660 ↑661 ↑214 ↑3 ↑345 ↑346 ↑347 ↑348 ↑349 ↑667 ↑214 !668,kF ↑47 "ring_from" "spotlook.rings" ↑612 !350,La "rings_of" ↑670 ↑671 ↑672 ↑221 ↑1 ↑352 ↑353 ↑354 ↑355 ↑356 ↑680 ↑221 !681,kF ↑48 "rings_of" "spotlook.rings" ↑612 !357,(Lb "twice_area" "twice_area" 683 684 685 232 2 3 359 KD 360 .none .none (.ref 361) 686 687)]
def NT:List Obj:=[kF ↑49 "twice_area" "spotlook.rings" ↑612 !362,La "outer_and_inner" ↑691 ↑692 ↑693 ↑242 ↑1 ↑364 ↑365 ↑366 ↑367 ↑368 ↑698 ↑242 !699,kF ↑51 "outer_and_inner" "spotlook.lands" ↑689 !369,La "first_corner" ↑701 ↑702 ↑703 ↑250 ↑2 ↑371 ↑372 ↑373 ↑374 ↑375 ↑708 ↑250 !709,kF ↑52 "first_corner" "spotlook.lands" ↑689 !376,La "land_about" ↑711 ↑712 ↑713 ↑255 ↑3 ↑378 ↑379 ↑380 ↑381 ↑382 ↑718 ↑255 !719,kF ↑53 "land_about" "spotlook.lands" ↑689 !383,(Lb "lands_of_faces" "lands_of_faces" 721 722 723 258 1 3 385 KD 386 .none .none (.ref 387) 724 725)]
def NS:List Obj:=[kF ↑54 "lands_of_faces" "spotlook.lands" ↑689 !388,(Lb "steps_of" "steps_of" 729 730 731 271 2 3 390 KD 391 .none .none (.ref 392) 732 733),kF ↑56 "steps_of" "spotlook.steps" ↑727 !393,(Lb "guide_of_step" "guide_of_step" 735 736 737 279 2 3 395 KD 396 .none .none (.ref 397) 738 739),kF ↑57 "guide_of_step" "spotlook.steps" ↑727 !398,(Lb "__init__" "Steps.__init__" 753 754 755 284 2 3 407 KD 408 .none .none (.ref 409) 756 757),kM ↑58 ↑0 "__init__" "Steps.__init__" "spotlook.steps" ↑727 !410,(Lb "steps" "Steps.steps" 759 760 761 292 1 3 412 KD 413 (.ref 414) (.ref 415) (.ref 416) 763 764)]
def NQ:List Obj:=[kM ↑58 ↑1 "steps" "Steps.steps" "spotlook.steps" ↑727 !417,{ cls:=.type "type",data:=.cls { name:="Steps",bases:=[(.ref !262)],mro:=[(.ref !421),(.ref !262),(.type "object")],ns:=420,qualname:="Steps",hasDict:=KD,slotNames:=[],subclasses:=[],abstract:=KG,collection:=KC,hasDel:=KG },slots:=(List.toArray [(KA (.ref !400)),KC,(KA (.str "Steps" 741)),(KA (.str "Steps" 749)),(KA (.builtin "object.__new__")),(KA (.bool KD))]) },La "_law_pot" ↑775 ↑776 ↑777 ↑295 ↑2 ↑424 ↑425 ↑426 ↑427 ↑428 ↑781 ↑295 !782,Mo ↑60 "_law_pot" !429,La "_law_take" ↑784 ↑785 ↑786 ↑300 ↑2 ↑431 ↑432 ↑433 ↑434 ↑435 ↑791 ↑300 !792,Mo ↑61 "_law_take" !436,La "_law_side" ↑794 ↑795 ↑796 ↑309 ↑2 ↑438 ↑439 ↑440 ↑441 ↑442 ↑804 ↑309 !805,Mo ↑62 "_law_side" !443]
def NP:List Obj:=[La "_law_on" ↑807 ↑808 ↑809 ↑314 ↑2 ↑445 ↑446 ↑447 ↑448 ↑449 ↑812 ↑314 !813,Mo ↑63 "_law_on" !450,La "_law_apart" ↑815 ↑816 ↑817 ↑316 ↑2 ↑452 ↑453 ↑454 ↑455 ↑456 ↑824 ↑316 !825,Mo ↑64 "_law_apart" !457,La "_law_new_spot" ↑827 ↑828 ↑829 ↑323 ↑2 ↑459 ↑460 ↑461 ↑462 ↑463 ↑832 ↑323 !833,Mo ↑65 "_law_new_spot" !464,La "_law_some_spot" ↑835 ↑836 ↑837 ↑325 ↑3 ↑466 ↑467 ↑468 ↑469 ↑470 ↑841 ↑325 !842,Mo ↑66 "_law_some_spot" !471]
def NO:List Obj:=[La "_law_square" ↑844 ↑845 ↑846 ↑329 ↑2 ↑473 ↑474 ↑475 ↑476 ↑477 ↑852 ↑329 !853,Mo ↑67 "_law_square" !478,(Lb "_law_laid" "_law_laid" 855 856 857 335 3 3 480 KD 481 .none .none (.ref 482) 858 859),Mo ↑68 "_law_laid" !483,(Lb "_law_shuts_here" "_law_shuts_here" 861 862 863 340 2 3 485 KD 486 .none .none (.ref 487) 864 865),Mo ↑69 "_law_shuts_here" !488,La "_law_frac" ↑867 ↑868 ↑869 ↑352 ↑2 ↑490 ↑491 ↑492 ↑493 ↑494 ↑874 ↑352 !875,Mo ↑70 "_law_frac" !495]
def NN:List Obj:=[(Lb "_law_frame" "_law_frame" 877 878 879 358 2 3 497 KD 498 .none .none (.ref 499) 880 881),Mo ↑71 "_law_frame" !500,La "_law_given" ↑883 ↑884 ↑885 ↑367 ↑2 ↑502 ↑503 ↑504 ↑505 ↑506 ↑892 ↑367 !893,Mo ↑72 "_law_given" !507,(Lb "_law_plot" "_law_plot" 895 896 897 370 2 3 509 KD 510 .none .none (.ref 511) 898 899),Mo ↑73 "_law_plot" !512,La "_law_asked" ↑901 ↑902 ↑903 ↑372 ↑2 ↑514 ↑515 ↑516 ↑517 ↑518 ↑912 ↑372 !913,Mo ↑74 "_law_asked" !519]
def NM:List Obj:=[(Lb "_law_corners" "_law_corners" 915 916 917 384 1 3 521 KD 522 .none .none (.ref 523) 918 919),Mo ↑75 "_law_corners" !524,La "_law_bent" ↑921 ↑922 ↑923 ↑389 ↑2 ↑526 ↑527 ↑528 ↑529 ↑530 ↑931 ↑389 !932,Mo ↑76 "_law_bent" !531,La "_law_holds" ↑934 ↑935 ↑936 ↑408 ↑4 ↑533 ↑534 ↑535 ↑536 ↑537 ↑945 ↑408 !946,Mo ↑77 "_law_holds" !538,La "_law_some_looks" ↑948 ↑949 ↑950 ↑418 ↑4 ↑540 ↑541 ↑542 ↑543 ↑544 ↑958 ↑418 !959,Mo ↑78 "_law_some_looks" !545]
def Pq:List Obj:=[La "_law_far" ↑961 ↑962 ↑963 ↑428 ↑3 ↑547 ↑548 ↑549 ↑550 ↑551 ↑969 ↑428 !970,Mo ↑79 "_law_far" !552,La "law" ↑972 ↑973 ↑974 ↑433 ↑1 ↑554 ↑555 ↑556 ↑557 ↑558 ↑988 ↑433 !989,Mo ↑80 "law" !559]
def kK:HN->Hm:=λP=>(!2,kN QP !0)::(!3,kG P)::(!4,kN QP !1)::(!20,kN QP !2)::(!21,kN QP !3)::(!30,GL P)::(!31,kN QP !4)::(!43,GC P)::(!44,kN QP !5)::(!52,kN QP !6)::(!53,kN QP !7)::(!59,kN QO !0)::(!60,kN QO !1)::(!66,kN QO !2)::(!67,kN QO !3)::(!73,kN QO !4)::(!74,kN QO !5)::(!80,kN QO !6)::(!81,kN QO !7)::(!87,kN QN !0)::(!88,kN QN !1)::(!94,kN QN !2)::(!95,kN QN !3)::(!101,kN QN !4)::(!102,kN QN !5)::(!108,kN QN !6)::(!109,kN QN !7)::(!115,kN QM !0)::(!116,kN QM !1)::(!122,kN QM !2)::(!123,kN QM !3)::(!129,kN QM !4)::(!130,kN QM !5)::(!136,kN QM !6)::(!137,kN QM !7)::(!143,kN QL !0)::(!144,kN QL !1)::(!150,kN QL !2)::(!151,kN QL !3)::(!155,kN QL !4)::(!156,kN QL !5)::(!162,kN QL !6)::(!163,kN QL !7)::(!167,kN QK !0)::(!168,kN QK !1)::(!174,kN QK !2)::(!175,kN QK !3)::(!181,kN QK !4)::(!182,kN QK !5)::(!188,kN QK !6)::(!189,kN QK !7)::(!195,kN QJ !0)::(!196,kN QJ !1)::(!202,kN QJ !2)::(!203,kN QJ !3)::(!216,kN QJ !4)::(!217,kN QJ !5)::(!223,kN QJ !6)::(!224,kN QJ !7)::(!230,kN QI !0)::(!231,kN QI !1)::(!237,kN QI !2)::(!238,kN QI !3)::(!244,kN QI !4)::(!245,kN QI !5)::(!251,kN QI !6)::(!252,kN QI !7)::(!258,kN QH !0)::(!259,kN QH !1)::(!261,Et P)::(!262,kN QH !2)::(!270,kN QH !3)::(!271,kN QH !4)::(!277,kN QH !5)::(!278,kN QH !6)::(!284,kN QH !7)::(!285,kN QG !0)::(!291,kN QG !1)::(!292,kN QG !2)::(!296,kN QG !3)::(!297,kN QG !4)::(!303,kN QG !5)::(!304,kN QG !6)::(!310,kN QG !7)::(!311,kN NV !0)::(!315,kN NV !1)::(!316,kN NV !2)::(!322,kN NV !3)::(!323,kN NV !4)::(!329,kN NV !5)::(!330,kN NV !6)::(!336,kN NV !7)::(!337,kN NU !0)::(!343,kN NU !1)::(!344,kN NU !2)::(!350,kN NU !3)::(!351,kN NU !4)::(!357,kN NU !5)::(!358,kN NU !6)::(!362,kN NU !7)::(!363,kN NT !0)::(!369,kN NT !1)::(!370,kN NT !2)::(!376,kN NT !3)::(!377,kN NT !4)::(!383,kN NT !5)::(!384,kN NT !6)::(!388,kN NT !7)::(!389,kN NS !0)::(!393,kN NS !1)::(!394,kN NS !2)::(!398,kN NS !3)::(!399,kN NS !4)::(!410,kN NS !5)::(!411,kN NS !6)::(!417,kN NS !7)::(!418,kN NQ !0)::(!420,FN P)::(!421,kN NQ !1)::(!429,kN NQ !2)::(!430,kN NQ !3)::(!436,kN NQ !4)::(!437,kN NQ !5)::(!443,kN NQ !6)::(!444,kN NQ !7)::(!450,kN NP !0)::(!451,kN NP !1)::(!457,kN NP !2)::(!458,kN NP !3)::(!464,kN NP !4)::(!465,kN NP !5)::(!471,kN NP !6)::(!472,kN NP !7)::(!478,kN NO !0)::(!479,kN NO !1)::(!483,kN NO !2)::(!484,kN NO !3)::(!488,kN NO !4)::(!489,kN NO !5)::(!495,kN NO !6)::(!496,kN NO !7)::(!500,kN NN !0)::(!501,kN NN !1)::(!507,kN NN !2)::(!508,kN NN !3)::(!512,kN NN !4)::(!513,kN NN !5)::(!519,kN NN !6)::(!520,kN NN !7)::(!524,kN NM !0)::(!525,kN NM !1)::(!531,kN NM !2)::(!532,kN NM !3)::(!538,kN NM !4)::(!539,kN NM !5)::(!545,kN NM !6)::(!546,kN NM !7)::(!552,kN Pq !0)::(!553,kN Pq !1)::(!559,kN Pq !2)::(!560,kN Pq !3)::[]
end QQ
section
namespace QQ
open PySem L2
inductive Tg{A:Type}(a:A):Type where|mk:Tg a
def pk{A:Type}{a:A}(_:Tg a):A:=a
def hE(P:HN)(n:Str)(k:Nat)(v:Hn):IQ:={ hash:=PyData.keyHash P n,key:=.str n k,val:=v }
def NJ(k:Nat)(l:s_):Obj:={ cls:=.type "dict",data:=.dict (HZ l) k }
def QV:Hn:=.str "spotlook.errors" 194
def kU(s:r8)(n q:Str)(g:Nat)(m c:Hn):FuncData:={ name:=n,qualname:=q,params:=aY s,body:=.stmts (aN s),scope:=ar s,globals:=g,closure:=[],defaults:=.none,kwdefaults:=.none,pyModule:=m,code:=c }
def kC(s:r8)(i:Nat):r8:=match s with
 |.ClassDef (body:=b) ..=>b.getD i (.Pass #[0,0,0,0])
 |s=>s
def LZ(l:List Hn):Obj:={ cls:=.type "tuple",data:=.seq l.toArray 0 }
def Yc(l:List Hn):Obj:={ cls:=.none,data:=.fields l.toArray }
local macro_rules | `(tactic| walk_at "st") => `(tactic| (intro t; (conv at t => (arg 1; whnf)); exact pk (.mk : type_of% t)))
local macro_rules | `(⇑$n:num) => `((by refine' (?_ : Tg (top $n) → r8) .mk; walk_at "st" : r8))
def Qr:r8:=⇑0
def Ya:r8:=⇑1
def Qq:r8:=⇑2
def Q7:r8:=⇑3
def Nj:r8:=⇑4
def NK:r8:=⇑5
def Qh:r8:=⇑6
def Mp:r8:=⇑7
def Qg:r8:=⇑8
def QC:r8:=⇑9
def PV:r8:=⇑10
def NL:r8:=⇑11
def PU:r8:=⇑12
def My:r8:=⇑13
def PR:r8:=⇑14
def PQ:r8:=⇑15
def PN:r8:=⇑16
def PM:r8:=⇑17
def PL:r8:=⇑18
def PK:r8:=⇑19
def PJ:r8:=⇑20
def Qp:r8:=⇑21
def PH:r8:=⇑22
def PD:r8:=⇑23
def PB:r8:=⇑24
def Qo:r8:=⇑25
def Oz:r8:=⇑26
def Oy:r8:=⇑27
def Ox:r8:=⇑28
def Ow:r8:=⇑29
def Ov:r8:=⇑30
def Lp:r8:=⇑31
def Qn:r8:=⇑32
def Ou:r8:=⇑33
def Ot:r8:=⇑34
def Qm:r8:=⇑35
def Oq:r8:=⇑36
def Oo:r8:=⇑37
def Om:r8:=⇑38
def Ol:r8:=⇑39
def Oj:r8:=⇑40
def Oi:r8:=⇑41
def Ql:r8:=⇑42
def Oh:r8:=⇑43
def Og:r8:=⇑44
def Of:r8:=⇑45
def Oe:r8:=⇑46
def Od:r8:=⇑47
def Oc:r8:=⇑48
def Ob:r8:=⇑49
def Qk:r8:=⇑50
def Oa:r8:=⇑51
def O9:r8:=⇑52
def O8:r8:=⇑53
def O7:r8:=⇑54
def Qj:r8:=⇑55
def O6:r8:=⇑56
def O5:r8:=⇑57
def Ni:r8:=⇑58
def Qi:r8:=⇑59
def O4:r8:=⇑60
def O3:r8:=⇑61
def O2:r8:=⇑62
def O1:r8:=⇑63
def O0:r8:=⇑64
def OZ:r8:=⇑65
def OY:r8:=⇑66
def OX:r8:=⇑67
def OW:r8:=⇑68
def OV:r8:=⇑69
def OU:r8:=⇑70
def OT:r8:=⇑71
def OS:r8:=⇑72
def OR:r8:=⇑73
def OQ:r8:=⇑74
def OP:r8:=⇑75
def OO:r8:=⇑76
def ON:r8:=⇑77
def OM:r8:=⇑78
def OL:r8:=⇑79
def OK:r8:=⇑80
def ZP:JB:=(by refine'(?_:Tg (Ip.main.scope)->JB) .mk;walk_at "st")
def Zi:Str:=(by refine'(?_:Tg (Ip.main.file)->Str) .mk;walk_at "st")
def Zh:Given:=(by refine'(?_:Tg (Ip.given)->Given) .mk;walk_at "st")
def ZR:tq:=OK::[]
def ZS:tq:=O0::OZ::OY::OX::OW::OV::OU::OT::OS::OR::OQ::OP::OO::ON::OM::OL::ZR
def ZT:tq:=Oc::Ob::Qk::Oa::O9::O8::O7::Qj::O6::O5::Ni::Qi::O4::O3::O2::O1::ZS
def ZU:tq:=Qn::Ou::Ot::Qm::Oq::Oo::Om::Ol::Oj::Oi::Ql::Oh::Og::Of::Oe::Od::ZT
def ZV:tq:=PN::PM::PL::PK::PJ::Qp::PH::PD::PB::Qo::Oz::Oy::Ox::Ow::Ov::Lp::ZU
def pw2:HL:={ main:={ body:=Qr::Ya::Qq::Q7::Nj::NK::Qh::Mp::Qg::QC::PV::NL::PU::My::PR::PQ::ZV,scope:=ZP,futureAnnotations:=KG,file:=Zi,more:=[] },modules:=[],parses:=[],absent:=[],harvested:=[],given:=Zh }
def Yr:tq:=OP::OO::ON::OM::OL::OK::[]
def Ys:tq:=Ni::O4::O3::O2::O1::O0::OZ::OY::OX::OW::OV::OU::OT::OS::OR::OQ::Yr
def Yt:tq:=Ol::Oj::Oi::Oh::Og::Of::Oe::Od::Oc::Ob::Oa::O9::O8::O7::O6::O5::Ys
def Yu:tq:=PK::PJ::PH::PD::PB::Oz::Oy::Ox::Ow::Ov::Lp::Ou::Ot::Oq::Oo::Om::Yt
def vw:HL:={ pw2 with main:={ pw2.main with body:=Qr::Qq::Q7::NK::Qh::Mp::Qg::QC::NL::PU::My::PR::PQ::PN::PM::PL::Yu } }
def sx0:tq:=[Qr,Ya,Qq]
def sx1:tq:=[Q7,Nj,NK,Qh,Mp,Qg,QC,PV]
def sx2:tq:=[NL,PU,My,PR,PQ,PN,PM,PL,PK,PJ,Qp,PH,PD]
def sx3:tq:=[PB,Qo,Oz,Oy,Ox,Ow,Ov]
def sx4:tq:=[Lp]
def sx5:tq:=[Qn,Ou,Ot,Qm,Oq,Oo,Om,Ol,Oj,Oi,Ql,Oh,Og,Of,Oe]
def sx6:tq:=[Od,Oc,Ob,Qk,Oa,O9,O8,O7,Qj,O6,O5]
def sx7:tq:=[Ni,Qi,O4,O3,O2]
def sx8:tq:=[O1,O0,OZ,OY,OX,OW,OV,OU,OT,OS,OR,OQ,OP]
def sx9:tq:=[OO,ON,OM,OL,OK]
def WK(P:HN):s_:=[hE P "__doc__" 166 .none,hE P "__package__" 167 .none,hE P "__loader__" 168 (.builtin "__main__.__loader__#opaque"),hE P "__spec__" 169 .none,hE P "__annotations__" 170 (.ref 6),hE P "__builtins__" 171 (.ref 4),hE P "__file__" 173 (.str "/claim/cut.py" 172),hE P "__cached__" 174 .none]
def WJ(P:HN):s_:=[hE P "_wall" 193 (.ref 21),hE P "SpotError" 213 (.ref 31),hE P "NoFraction" 229 (.ref 44),hE P "greatest_divisor" 239 (.ref 53),hE P "fraction" 248 (.ref 60),hE P "is_less" 256 (.ref 67),hE P "common_bottom" 265 (.ref 74),hE P "top_over" 273 (.ref 81)]
def WI(P:HN):s_:=[hE P "is_ahead" 283 (.ref 88),hE P "later_of" 291 (.ref 95),hE P "earlier_of" 299 (.ref 102),hE P "place_among" 310 (.ref 109),hE P "ahead_first" 319 (.ref 116),hE P "own_spot" 328 (.ref 123),hE P "own_wall" 335 (.ref 130),hE P "gap" 343 (.ref 137)]
def WH(P:HN):s_:=[hE P "lean" 361 (.ref 144),hE P "side_of" 370 (.ref 151),hE P "own_plot" 378 (.ref 156),hE P "corners_of" 388 (.ref 163),hE P "ends_by_number" 394 (.ref 168),hE P "halves" 404 (.ref 175),hE P "guide_by_halving" 412 (.ref 182),hE P "guide_between" 427 (.ref 189)]
def WG(P:HN):s_:=[hE P "guide_after" 439 (.ref 196),hE P "side_at_corner" 447 (.ref 203),hE P "Way" 537 (.ref 262),hE P "looks_hold" 545 (.ref 271),hE P "look_holds" 558 (.ref 278),hE P "spans" 568 (.ref 285),hE P "is_above" 580 (.ref 292),hE P "above_table" 586 (.ref 297)]
def WE(P:HN):s_:=[hE P "lowest_first" 596 (.ref 304),hE P "upper_of" 605 (.ref 311),hE P "upper_below" 611 (.ref 316),hE P "face_ends" 623 (.ref 323),hE P "faces_by_start" 632 (.ref 330),hE P "is_met_sooner" 644 (.ref 337),hE P "face_behind" 658 (.ref 344),hE P "ring_from" 669 (.ref 351)]
def WD(P:HN):s_:=[hE P "rings_of" 682 (.ref 358),hE P "twice_area" 688 (.ref 363),hE P "outer_and_inner" 700 (.ref 370),hE P "first_corner" 710 (.ref 377),hE P "land_about" 720 (.ref 384),hE P "lands_of_faces" 726 (.ref 389),hE P "steps_of" 734 (.ref 394),hE P "guide_of_step" 740 (.ref 399)]
def WC(P:HN):s_:=[hE P "Steps" 772 (.ref 421),hE P "_law_pot" 783 (.ref 430),hE P "_law_take" 793 (.ref 437),hE P "_law_side" 806 (.ref 444),hE P "_law_on" 814 (.ref 451),hE P "_law_apart" 826 (.ref 458),hE P "_law_new_spot" 834 (.ref 465),hE P "_law_some_spot" 843 (.ref 472)]
def WB(P:HN):s_:=[hE P "_law_square" 854 (.ref 479),hE P "_law_laid" 860 (.ref 484),hE P "_law_shuts_here" 866 (.ref 489),hE P "_law_frac" 876 (.ref 496),hE P "_law_frame" 882 (.ref 501),hE P "_law_given" 894 (.ref 508),hE P "_law_plot" 900 (.ref 513),hE P "_law_asked" 914 (.ref 520)]
def WA(P:HN):s_:=[hE P "_law_corners" 920 (.ref 525),hE P "_law_bent" 933 (.ref 532),hE P "_law_holds" 947 (.ref 539),hE P "_law_some_looks" 960 (.ref 546),hE P "_law_far" 971 (.ref 553),hE P "law" 990 (.ref 560)]
def Pk(P:HN):s_:=WK P++(WJ P++(WI P++(WH P++(WG P++(WE P++(WD P++(WC P++(WB P++(WA P)))))))))
def Me:List Hn:=[(.int 1 0),(.int 0 0),(.ref 20),(.int 5 0),(.int 0 0),(.ref 27),(.int 7 0),(.int 0 0),(.ref 40),(.int 10 0),(.int 0 0),(.ref 52),(.int 14 0),(.int 0 0),(.ref 59),(.int 21 0),(.int 0 0),(.ref 66),(.int 23 0),(.int 0 0),(.ref 73),(.int 28 0),(.int 0 0),(.ref 80),(.int 31 0),(.int 0 0),(.ref 87),(.int 35 0),(.int 0 0),(.ref 94),(.int 37 0),(.int 0 0),(.ref 101),(.int 39 0),(.int 0 0),(.ref 108),(.int 48 0),(.int 0 0),(.ref 115),(.int 53 0),(.int 0 0),(.ref 122),(.int 56 0),(.int 0 0),(.ref 129),(.int 58 0),(.int 0 0),(.ref 136),(.int 60 0),(.int 0 0),(.ref 143),(.int 66 0),(.int 0 0),(.ref 150),(.int 74 0),(.int 0 0),(.ref 155),(.int 76 0),(.int 0 0),(.ref 162),(.int 82 0),(.int 0 0),(.ref 167),(.int 86 0),(.int 0 0),(.ref 174),(.int 92 0),(.int 0 0),(.ref 181),(.int 94 0),(.int 0 0),(.ref 188),(.int 102 0),(.int 0 0),(.ref 195),(.int 111 0),(.int 0 0),(.ref 202),(.int 115 0),(.int 0 0),(.ref 209),(.int 157 0),(.int 0 0),(.ref 270),(.int 160 0),(.int 0 0),(.ref 277),(.int 168 0),(.int 0 0),(.ref 284),(.int 170 0),(.int 0 0),(.ref 291),(.int 178 0),(.int 0 0),(.ref 296),(.int 180 0),(.int 0 0),(.ref 303),(.int 182 0),(.int 0 0),(.ref 310),(.int 188 0),(.int 0 0),(.ref 315),(.int 192 0),(.int 0 0),(.ref 322),(.int 195 0),(.int 0 0),(.ref 329),(.int 200 0),(.int 0 0),(.ref 336),(.int 206 0),(.int 0 0),(.ref 343),(.int 214 0),(.int 0 0),(.ref 350),(.int 221 0),(.int 0 0),(.ref 357),(.int 232 0),(.int 0 0),(.ref 362),(.int 242 0),(.int 0 0),(.ref 369),(.int 250 0),(.int 0 0),(.ref 376),(.int 255 0),(.int 0 0),(.ref 383),(.int 258 0),(.int 0 0),(.ref 388),(.int 271 0),(.int 0 0),(.ref 393),(.int 279 0),(.int 0 0),(.ref 398),(.int 282 0),(.int 0 0),(.ref 405),(.int 295 0),(.int 0 0),(.ref 429),(.int 300 0),(.int 0 0),(.ref 436),(.int 309 0),(.int 0 0),(.ref 443),(.int 314 0),(.int 0 0),(.ref 450),(.int 316 0),(.int 0 0),(.ref 457),(.int 323 0),(.int 0 0),(.ref 464),(.int 325 0),(.int 0 0),(.ref 471),(.int 329 0),(.int 0 0),(.ref 478),(.int 335 0),(.int 0 0),(.ref 483),(.int 340 0),(.int 0 0),(.ref 488),(.int 352 0),(.int 0 0),(.ref 495),(.int 358 0),(.int 0 0),(.ref 500),(.int 367 0),(.int 0 0),(.ref 507),(.int 370 0),(.int 0 0),(.ref 512),(.int 372 0),(.int 0 0),(.ref 519),(.int 384 0),(.int 0 0),(.ref 524),(.int 389 0),(.int 0 0),(.ref 531),(.int 408 0),(.int 0 0),(.ref 538),(.int 418 0),(.int 0 0),(.ref 545),(.int 428 0),(.int 0 0),(.ref 552),(.int 433 0),(.int 0 0),(.ref 559)]
def hC(n:Str)(i j k a l b c d e m o p q r f g h:Nat)(s:Bool):Obj:={ cls:=.type "code",data:=.fields (List.toArray [.str n i,.str n j,.str "/claim/cut.py" k,.int (Kp m) 0,.int (Kp o) 0,.int (Kp p) 0,.int (Kp q) 0,.int (Kp r) 0,.ref l,.bool s,.int (Kp f) 0,.ref b,.none,.ref c,.ref d,.ref e,.int (Kp g) 0,.int (Kp h) 0,.str "/claim/cut.py" a]) }
def hF(t:Hn)(s:r8)(n:Str)(g:Nat)(m c:Hn):Obj:={ cls:=t,data:=.func (kU s n n g m c) }
def L0(s:r8)(n:Str)(m:Hn)(r:Nat):Obj:=hF (.type "function") s n 3 m (.ref r)
def YM:Obj:=LZ []
def YL:Obj:={ cls:=.none,data:=.fields (HZ (Me.take 0)) }
def YK:Obj:=Lb "<module>" "<module>" 182 183 184 1 0 0 11 KG 12 .none .none .none 185 186
def YJ:Obj:={ cls:=(.type "frame"),slots:=(List.toArray [(KA (.ref 13)),(KA (.ref 3)),(KA (.ref 3)),KC,(KA (.str "__main__" 164)),KC,(KA (.ref 0))]) }
def YI(P:HN):Obj:=NJ 11 (hE P "__name__" 165 QV::(Pk P).take 10)
def YH:Obj:={ cls:=.none,data:=.fields (HZ (Me.take 6)) }
def YG:Obj:=LZ [(.str "k" 190)]
def YF:Obj:=hF .none Qr "_wall" 0 .none .none
def YE:Obj:=hC "_wall" 187 188 189 192 15 16 17 18 19 1 1 0 0 3 181 191 1 KD
def YD:Obj:=L0 Qr "_wall" (.str "__main__" 164) 20
def YC:Obj:=LZ [(.type "ValueError")]
def YB:Obj:={ cls:=(.type "builtin_function_or_method"),data:=(.fields (List.toArray [(.builtin "type.__prepare__"),(.type "type")])) }
def YA(P:HN):Obj:=NJ 4 [hE P "__module__" 203 QV,hE P "__qualname__" 205 (.str "SpotError" 204),hE P "__firstlineno__" 207 (.int 5 206),hE P "__static_attributes__" 208 (.ref 29)]
def Xz:Obj:=Lb "SpotError" "SpotError" 198 199 200 5 0 0 25 KG 26 .none .none .none 201 202
def Xy:Obj:={ cls:=(.type "frame"),slots:=(List.toArray [(KA (.ref 27)),(KA (.ref 3)),(KA (.ref 24)),KC,(KA QV),KC,(KA (.ref 0))]) }
def Xx(P:HN):Obj:=NJ 3 [hE P "__module__" 203 QV,hE P "__firstlineno__" 207 (.int 5 206),hE P "__static_attributes__" 208 (.ref 29),hE P "__weakref__" 210 (.ref 32),hE P "__doc__" 211 .none]
def Xw:Obj:={ cls:=(.type "type"),data:=(.cls { name:="SpotError",bases:=[(.type "ValueError")],mro:=[(.ref 31),(.type "ValueError"),(.type "Exception"),(.type "BaseException"),(.type "object")],ns:=30,qualname:="SpotError",hasDict:=KD,slotNames:=[],subclasses:=[],abstract:=KG,collection:=KC,hasDel:=KG }),slots:=(List.toArray [(KA (.ref 22)),KC,(KA (.str "SpotError" 196)),(KA (.str "SpotError" 204)),(KA (.builtin "ValueError.__new__")),(KA (.bool KD))]) }
def Xv:Obj:={ cls:=(.type "getset_descriptor"),data:=(.fields (List.toArray [(.str "__weakref__" 209),(.ref 31),(.builtin "ExceptionGroup.__weakref__"),.none])) }
def Xu:Obj:={ cls:=(.type "super"),data:=(.fields (List.toArray [(.ref 31),(.ref 31),(.ref 31)])) }
def Xt:Obj:={ cls:=(.type "builtin_function_or_method"),data:=(.fields (List.toArray [(.builtin "object.__init_subclass__"),(.ref 31)])) }
def Xs(P:HN):Obj:=NJ 17 (hE P "__name__" 165 (.str "spotlook.spots" 274)::(Pk P).take 16)
def Xr:Obj:={ cls:=.none,data:=.fields (HZ (Me.take 24)) }
def Xq:Obj:={ cls:=(.type "type"),data:=(.cls { name:="SpotError",bases:=[(.type "ValueError")],mro:=[(.ref 31),(.type "ValueError"),(.type "Exception"),(.type "BaseException"),(.type "object")],ns:=30,qualname:="SpotError",hasDict:=KD,slotNames:=[],subclasses:=[(.ref 44)],abstract:=KG,collection:=KC,hasDel:=KG }),slots:=(List.toArray [(KA (.ref 22)),KC,(KA (.str "SpotError" 196)),(KA (.str "SpotError" 204)),(KA (.builtin "ValueError.__new__")),(KA (.bool KD))]) }
def Xp:Obj:=LZ [(.ref 31)]
def Xo(P:HN):Obj:=NJ 4 [hE P "__module__" 221 QV,hE P "__qualname__" 223 (.str "NoFraction" 222),hE P "__firstlineno__" 225 (.int 7 224),hE P "__static_attributes__" 226 (.ref 42)]
def Xn:Obj:=Lb "NoFraction" "NoFraction" 216 217 218 7 0 0 38 KG 39 .none .none .none 219 220
def Xm:Obj:={ cls:=(.type "frame"),slots:=(List.toArray [(KA (.ref 40)),(KA (.ref 3)),(KA (.ref 37)),KC,(KA QV),KC,(KA (.ref 0))]) }
def Xl(P:HN):Obj:=NJ 2 [hE P "__module__" 221 QV,hE P "__firstlineno__" 225 (.int 7 224),hE P "__static_attributes__" 226 (.ref 42),hE P "__doc__" 227 .none]
def Xk:Obj:={ cls:=(.type "type"),data:=(.cls { name:="NoFraction",bases:=[(.ref 31)],mro:=[(.ref 44),(.ref 31),(.type "ValueError"),(.type "Exception"),(.type "BaseException"),(.type "object")],ns:=43,qualname:="NoFraction",hasDict:=KD,slotNames:=[],subclasses:=[],abstract:=KG,collection:=KC,hasDel:=KG }),slots:=(List.toArray [(KA (.ref 35)),KC,(KA (.str "NoFraction" 214)),(KA (.str "NoFraction" 222)),(KA (.builtin "ValueError.__new__")),(KA (.bool KD))]) }
def Xj:Obj:={ cls:=(.type "super"),data:=(.fields (List.toArray [(.ref 44),(.ref 44),(.ref 44)])) }
def Xi:Obj:={ cls:=(.type "builtin_function_or_method"),data:=(.fields (List.toArray [(.builtin "object.__init_subclass__"),(.ref 44)])) }
def Xh:Obj:=LZ [(.str "one" 235),(.str "other" 236)]
def Xg:Obj:=hF .none NK "greatest_divisor" 0 .none .none
def Xf:Obj:=hC "greatest_divisor" 232 233 234 238 47 48 49 50 51 10 2 0 0 3 181 237 10 KD
def Xe:Obj:=L0 NK "greatest_divisor" (.str "spotlook.fractions" 230) 52
def Xd:Obj:=LZ [(.str "top" 243),(.str "bottom" 244),(.str "divisor" 245)]
def Xc:Obj:=hF .none Qh "fraction" 0 .none .none
def Xb:Obj:=hC "fraction" 240 241 242 247 54 55 56 57 58 14 2 0 0 3 181 246 14 KD
def Xa:Obj:=L0 Qh "fraction" (.str "spotlook.fractions" 230) 59
def X9:Obj:=LZ [(.str "one" 252),(.str "other" 253)]
def X8:Obj:=hF .none Mp "is_less" 0 .none .none
def X7:Obj:=hC "is_less" 249 250 251 255 61 62 63 64 65 21 2 0 0 3 181 254 21 KD
def X6:Obj:=L0 Mp "is_less" (.str "spotlook.fractions" 230) 66
def X5:Obj:=LZ [(.str "parts" 260),(.str "common" 261),(.str "part" 262)]
def X4:Obj:=hF .none Qg "common_bottom" 0 .none .none
def X3:Obj:=hC "common_bottom" 257 258 259 264 68 69 70 71 72 23 1 0 0 3 181 263 23 KD
def X2:Obj:=L0 Qg "common_bottom" (.str "spotlook.fractions" 230) 73
def X1:Obj:=LZ [(.str "part" 269),(.str "bottom" 270)]
def X0:Obj:=hF .none QC "top_over" 0 .none .none
def XZ:Obj:=hC "top_over" 266 267 268 272 75 76 77 78 79 28 2 0 0 3 181 271 28 KD
def XY:Obj:=L0 QC "top_over" (.str "spotlook.fractions" 230) 80
def XX(P:HN):Obj:=NJ 29 (hE P "__name__" 165 (.str "spotlook.plots" 371)::(Pk P).take 28)
def XW:Obj:={ cls:=.none,data:=.fields (HZ (Me.take 60)) }
def XU:Obj:=LZ [(.str "one" 279),(.str "other" 280)]
def XT:Obj:=hF .none NL "is_ahead" 0 .none .none
def XS:Obj:=hC "is_ahead" 276 277 278 282 82 83 84 85 86 31 2 0 0 3 181 281 31 KD
def XR:Obj:=L0 NL "is_ahead" (.str "spotlook.spots" 274) 87
def XQ:Obj:=LZ [(.str "one" 287),(.str "other" 288)]
def XO:Obj:=hF .none PU "later_of" 0 .none .none
def XN:Obj:=hC "later_of" 284 285 286 290 89 90 91 92 93 35 2 0 0 3 181 289 35 KD
def XM:Obj:=L0 PU "later_of" (.str "spotlook.spots" 274) 94
def XJ:Obj:=LZ [(.str "one" 295),(.str "other" 296)]
def XI:Obj:=hF .none My "earlier_of" 0 .none .none
def XH:Obj:=hC "earlier_of" 292 293 294 298 96 97 98 99 100 37 2 0 0 3 181 297 37 KD
def XG:Obj:=L0 My "earlier_of" (.str "spotlook.spots" 274) 101
def XF:Obj:=LZ [(.str "row" 303),(.str "spot" 304),(.str "low" 305),(.str "high" 306),(.str "middle" 307)]
def XE:Obj:=hF .none PR "place_among" 0 .none .none
def XD:Obj:=hC "place_among" 300 301 302 309 103 104 105 106 107 39 2 0 0 3 181 308 39 KD
def XC:Obj:=L0 PR "place_among" (.str "spotlook.spots" 274) 108
def XB:Obj:=LZ [(.str "spots" 314),(.str "row" 315),(.str "spot" 316)]
def XA:Obj:=hF .none PQ "ahead_first" 0 .none .none
def Wz:Obj:=hC "ahead_first" 311 312 313 318 110 111 112 113 114 48 1 0 0 3 181 317 48 KD
def Wy:Obj:=L0 PQ "ahead_first" (.str "spotlook.spots" 274) 115
def Wx:Obj:=LZ [(.str "spot" 323),(.str "x" 324),(.str "y" 325)]
def Ww:Obj:=hF .none PN "own_spot" 0 .none .none
def Wv:Obj:=hC "own_spot" 320 321 322 327 117 118 119 120 121 53 1 0 0 3 181 326 53 KD
def Wu:Obj:=L0 PN "own_spot" (.str "spotlook.spots" 274) 122
def Wt:Obj:=LZ [(.str "wall" 332)]
def Ws:Obj:=hF .none PM "own_wall" 0 .none .none
def Wr:Obj:=hC "own_wall" 329 330 331 334 124 125 126 127 128 56 1 0 0 3 181 333 56 KD
def Wq:Obj:=L0 PM "own_wall" (.str "spotlook.spots" 274) 129
def Wo:Obj:=LZ [(.str "one" 339),(.str "other" 340)]
def Wn:Obj:=hF .none PL "gap" 0 .none .none
def Wm:Obj:=hC "gap" 336 337 338 342 131 132 133 134 135 58 2 0 0 3 181 341 58 KD
def Wk:Obj:=L0 PL "gap" (.str "spotlook.spots" 274) 136
def Wj:Obj:=LZ [(.str "wall" 347),(.str "spot" 348),(.str "a" 349),(.str "b" 350),(.str "c" 351),(.str "d" 352),(.str "x" 353),(.str "y" 354),(.str "across" 355),(.str "up" 356),(.str "along" 357),(.str "high" 358)]
def Wi:Obj:=hF .none PK "lean" 0 .none .none
def Wh:Obj:=hC "lean" 344 345 346 360 138 139 140 141 142 60 2 0 0 3 181 359 60 KD
def Wg:Obj:=L0 PK "lean" (.str "spotlook.spots" 274) 143
def Vx:Obj:=LZ [(.str "wall" 365),(.str "spot" 366),(.str "top" 367)]
def Vw:Obj:=hF .none PJ "side_of" 0 .none .none
def Vv:Obj:=hC "side_of" 362 363 364 369 145 146 147 148 149 66 2 0 0 3 181 368 66 KD
def Vu:Obj:=L0 PJ "side_of" (.str "spotlook.spots" 274) 150
def Vt:Obj:=hF .none PH "own_plot" 0 .none .none
def Vs:Obj:=Lb "own_plot" "own_plot" 373 374 375 74 1 3 152 KD 153 .none .none (.ref 154) 376 377
def Vr:Obj:=L0 PH "own_plot" (.str "spotlook.plots" 371) 155
def Vq:Obj:=LZ [(.str "plot" 382),(.str "corners" 383),(.str "wall" 384),(.str "end" 385)]
def Vp:Obj:=hF .none PD "corners_of" 0 .none .none
def Vo:Obj:=hC "corners_of" 379 380 381 387 157 158 159 160 161 76 1 0 0 3 181 386 76 KD
def Vn:Obj:=L0 PD "corners_of" (.str "spotlook.plots" 371) 162
def Vm(P:HN):Obj:=NJ 35 (hE P "__name__" 165 (.str "spotlook.ways" 395)::(Pk P).take 34)
def Vl:Obj:={ cls:=.none,data:=.fields (HZ (Me.take 78)) }
def Vk:Obj:=hF .none PB "ends_by_number" 0 .none .none
def Vj:Obj:=Lb "ends_by_number" "ends_by_number" 389 390 391 82 2 3 164 KD 165 .none .none (.ref 166) 392 393
def Vi:Obj:=L0 PB "ends_by_number" (.str "spotlook.plots" 371) 167
def Vh:Obj:=LZ [(.str "n" 400),(.str "many" 401)]
def Vg:Obj:=hF .none Oz "halves" 0 .none .none
def Vf:Obj:=hC "halves" 397 398 399 403 169 170 171 172 173 86 1 0 0 3 181 402 86 KD
def Ve:Obj:=L0 Oz "halves" (.str "spotlook.ways" 395) 174
def Vd:Obj:=LZ [(.str "things" 408),(.str "guides" 409)]
def Vb:Obj:=hF .none Oy "guide_by_halving" 0 .none .none
def Va:Obj:=hC "guide_by_halving" 405 406 407 411 176 177 178 179 180 92 2 0 0 3 181 410 92 KD
def V9:Obj:=L0 Oy "guide_by_halving" (.str "spotlook.ways" 395) 181
def V8:Obj:=LZ [(.str "things" 416),(.str "guides" 417),(.str "low" 418),(.str "high" 419),(.str "middle" 420),(.str "word" 421),(.str "number" 422),(.str "before" 423),(.str "past" 424)]
def V7:Obj:=hF .none Ox "guide_between" 0 .none .none
def V6:Obj:=hC "guide_between" 413 414 415 426 183 184 185 186 187 94 4 0 0 3 181 425 94 KD
def V5:Obj:=L0 Ox "guide_between" (.str "spotlook.ways" 395) 188
def V4:Obj:=LZ [(.str "guide" 431),(.str "side" 432),(.str "word" 433),(.str "number" 434),(.str "before" 435),(.str "past" 436)]
def V3:Obj:=hF .none Ow "guide_after" 0 .none .none
def V2:Obj:=hC "guide_after" 428 429 430 438 190 191 192 193 194 102 2 0 0 3 181 437 102 KD
def V1:Obj:=L0 Ow "guide_after" (.str "spotlook.ways" 395) 195
def V0:Obj:=LZ [(.str "corner" 443),(.str "spot" 444)]
def VZ:Obj:=hF .none Ov "side_at_corner" 0 .none .none
def VY:Obj:=hC "side_at_corner" 440 441 442 446 197 198 199 200 201 111 2 0 0 3 181 445 111 KD
def VX:Obj:=L0 Ov "side_at_corner" (.str "spotlook.ways" 395) 202
def VW(P:HN):Obj:=NJ 36 (hE P "__name__" 165 (.str "spotlook.ways" 395)::(Pk P).take 35)
def VV:Obj:={ cls:=.none,data:=.fields (HZ (Me.take 81)) }
def VU(P:HN):Obj:=NJ 11 [hE P "__module__" 455 (.str "spotlook.ways" 395),hE P "__qualname__" 457 (.str "Way" 456),hE P "__firstlineno__" 459 (.int 115 458),hE P "__init__" 467 (.ref 217),hE P "after" 475 (.ref 224),hE P "side_at" 485 (.ref 231),hE P "looks" 498 (.ref 238),hE P "look" 506 (.ref 245),hE P "led" 518 (.ref 252),hE P "most" 525 (.ref 259),hE P "__static_attributes__" 530 (.ref 260)]
def VT:Obj:=Yc [(.int 117 0),(.int 4 0),(.ref 216),(.int 123 0),(.int 4 0),(.ref 223),(.int 126 0),(.int 4 0),(.ref 230),(.int 131 0),(.int 4 0),(.ref 237),(.int 141 0),(.int 4 0),(.ref 244),(.int 144 0),(.int 4 0),(.ref 251),(.int 154 0),(.int 4 0),(.ref 258)]
def VS:Obj:=Lb "Way" "Way" 450 451 452 115 0 0 207 KG 208 .none .none .none 453 454
def VR:Obj:={ cls:=(.type "frame"),slots:=(List.toArray [(KA (.ref 209)),(KA (.ref 3)),(KA (.ref 206)),KC,(KA (.str "spotlook.ways" 395)),KC,(KA (.ref 0))]) }
def VQ:Obj:=LZ [(.str "self" 463),(.str "plot" 464)]
def VP:Obj:={ cls:=.none,data:=(.func (kU (kC Lp 0) "__init__" "Way.__init__" 0 .none .none)) }
def VO:Obj:=Lb "__init__" "Way.__init__" 460 461 462 117 2 3 211 KD 212 (.ref 213) (.ref 214) (.ref 215) 465 466
def VN:Obj:={ cls:=(.type "function"),data:=(.func (kU (kC Lp 0) "__init__" "Way.__init__" 3 (.str "spotlook.ways" 395) (.ref 216))) }
def VM:Obj:=LZ [(.str "self" 471),(.str "sides" 472)]
def VL:Obj:={ cls:=.none,data:=(.func (kU (kC Lp 1) "after" "Way.after" 0 .none .none)) }
def VJ:Obj:=Lb "after" "Way.after" 468 469 470 123 2 3 218 KD 219 (.ref 220) (.ref 221) (.ref 222) 473 474
def VI:Obj:={ cls:=(.type "function"),data:=(.func (kU (kC Lp 1) "after" "Way.after" 3 (.str "spotlook.ways" 395) (.ref 223))) }
def VH:Obj:=LZ [(.str "self" 479),(.str "word" 480),(.str "number" 481),(.str "spot" 482)]
def VG:Obj:={ cls:=.none,data:=(.func (kU (kC Lp 2) "side_at" "Way.side_at" 0 .none .none)) }
def VF:Obj:=Lb "side_at" "Way.side_at" 476 477 478 126 4 3 225 KD 226 (.ref 227) (.ref 228) (.ref 229) 483 484
def VE:Obj:={ cls:=(.type "function"),data:=(.func (kU (kC Lp 2) "side_at" "Way.side_at" 3 (.str "spotlook.ways" 395) (.ref 230))) }
def VD:Obj:=LZ [(.str "self" 489),(.str "spot" 490),(.str "made" 491),(.str "guide" 492),(.str "word" 493),(.str "number" 494),(.str "side" 495)]
def VC:Obj:={ cls:=.none,data:=(.func (kU (kC Lp 3) "looks" "Way.looks" 0 .none .none)) }
def VB:Obj:=Lb "looks" "Way.looks" 486 487 488 131 2 3 232 KD 233 (.ref 234) (.ref 235) (.ref 236) 496 497
def VA:Obj:={ cls:=(.type "function"),data:=(.func (kU (kC Lp 3) "looks" "Way.looks" 3 (.str "spotlook.ways" 395) (.ref 237))) }
def Uz:Obj:=LZ [(.str "self" 502),(.str "spot" 503)]
def Uy:Obj:={ cls:=.none,data:=(.func (kU (kC Lp 4) "look" "Way.look" 0 .none .none)) }
def Ux:Obj:=Lb "look" "Way.look" 499 500 501 141 2 3 239 KD 240 (.ref 241) (.ref 242) (.ref 243) 504 505
def Uw:Obj:={ cls:=(.type "function"),data:=(.func (kU (kC Lp 4) "look" "Way.look" 3 (.str "spotlook.ways" 395) (.ref 244))) }
def Uv:Obj:=LZ [(.str "self" 510),(.str "looks" 511),(.str "guide" 512),(.str "word" 513),(.str "number" 514),(.str "side" 515)]
def Uu:Obj:={ cls:=.none,data:=(.func (kU (kC Lp 5) "led" "Way.led" 0 .none .none)) }
def Ut:Obj:=Lb "led" "Way.led" 507 508 509 144 2 3 246 KD 247 (.ref 248) (.ref 249) (.ref 250) 516 517
def Us:Obj:={ cls:=(.type "function"),data:=(.func (kU (kC Lp 5) "led" "Way.led" 3 (.str "spotlook.ways" 395) (.ref 251))) }
def Ur:Obj:=LZ [(.str "self" 522)]
def Uq:Obj:={ cls:=.none,data:=(.func (kU (kC Lp 6) "most" "Way.most" 0 .none .none)) }
def Uo:Obj:=Lb "most" "Way.most" 519 520 521 154 1 3 253 KD 254 (.ref 255) (.ref 256) (.ref 257) 523 524
def Um:Obj:={ cls:=(.type "function"),data:=(.func (kU (kC Lp 6) "most" "Way.most" 3 (.str "spotlook.ways" 395) (.ref 258))) }
def Ul:Obj:=LZ [(.str "corners" 526),(.str "guide" 527),(.str "most_looks" 528),(.str "plot" 529)]
def Uk(P:HN):Obj:=NJ 4 [hE P "__module__" 455 (.str "spotlook.ways" 395),hE P "__firstlineno__" 459 (.int 115 458),hE P "__init__" 467 (.ref 217),hE P "after" 475 (.ref 224),hE P "side_at" 485 (.ref 231),hE P "looks" 498 (.ref 238),hE P "look" 506 (.ref 245),hE P "led" 518 (.ref 252),hE P "most" 525 (.ref 259),hE P "__static_attributes__" 530 (.ref 260),hE P "__dict__" 532 (.ref 263),hE P "__weakref__" 534 (.ref 264),hE P "__doc__" 535 .none]
def Uj:Obj:={ cls:=(.type "type"),data:=(.cls { name:="Way",bases:=[(.type "object")],mro:=[(.ref 262),(.type "object")],ns:=261,qualname:="Way",hasDict:=KD,slotNames:=[],subclasses:=[],abstract:=KG,collection:=KC,hasDel:=KG }),slots:=(List.toArray [KC,KC,(KA (.str "Way" 448)),(KA (.str "Way" 456)),(KA (.builtin "object.__new__")),(KA (.bool KD))]) }
def Ui:Obj:={ cls:=(.type "getset_descriptor"),data:=(.fields (List.toArray [(.str "__dict__" 531),(.ref 262),(.builtin "function.__dict__"),(.builtin "function.__dict__#set")])) }
def Uh:Obj:={ cls:=(.type "getset_descriptor"),data:=(.fields (List.toArray [(.str "__weakref__" 533),(.ref 262),(.builtin "ExceptionGroup.__weakref__"),.none])) }
def Ug:Obj:={ cls:=(.type "super"),data:=(.fields (List.toArray [(.ref 262),(.ref 262),(.ref 262)])) }
def Ue:Obj:={ cls:=(.type "builtin_function_or_method"),data:=(.fields (List.toArray [(.builtin "object.__init_subclass__"),(.ref 262)])) }
def Ud(P:HN):Obj:=NJ 48 (hE P "__name__" 165 (.str "spotlook.rings" 612)::(Pk P).take 47)
def Uc:Obj:={ cls:=.none,data:=.fields (HZ (Me.take 117)) }
def Ub:Obj:=hF .none Ou "looks_hold" 0 .none .none
def Ua:Obj:=Lb "looks_hold" "looks_hold" 540 541 542 157 3 3 267 KD 268 .none .none (.ref 269) 543 544
def U9:Obj:=L0 Ou "looks_hold" (.str "spotlook.papers" 538) 270
def U8:Obj:=LZ [(.str "plot" 549),(.str "corners" 550),(.str "spot" 551),(.str "look" 552),(.str "word" 553),(.str "number" 554),(.str "side" 555)]
def U7:Obj:=hF .none Ot "look_holds" 0 .none .none
def U6:Obj:=hC "look_holds" 546 547 548 557 272 273 274 275 276 160 4 0 0 3 181 556 160 KD
def U5:Obj:=L0 Ot "look_holds" (.str "spotlook.papers" 538) 277
def U4:Obj:=LZ [(.str "wall" 564),(.str "spot" 565)]
def U3:Obj:=hF .none Oq "spans" 0 .none .none
def U2:Obj:=hC "spans" 561 562 563 567 279 280 281 282 283 168 2 0 0 3 181 566 168 KD
def U1:Obj:=L0 Oq "spans" (.str "spotlook.above" 559) 284
def U0:Obj:=LZ [(.str "one" 572),(.str "other" 573),(.str "start" 574),(.str "end" 575),(.str "place" 576),(.str "deciding" 577)]
def UZ:Obj:=hF .none Oo "is_above" 0 .none .none
def UY:Obj:=hC "is_above" 569 570 571 579 286 287 288 289 290 170 2 0 0 3 181 578 170 KD
def UX:Obj:=L0 Oo "is_above" (.str "spotlook.above" 559) 291
def UW:Obj:=hF .none Om "above_table" 0 .none .none
def UU:Obj:=Lb "above_table" "above_table" 581 582 583 178 1 3 293 KD 294 .none .none (.ref 295) 584 585
def UT:Obj:=L0 Om "above_table" (.str "spotlook.above" 559) 296
def US:Obj:=LZ [(.str "row" 590),(.str "above" 591)]
def UR:Obj:=LZ [(.str "row" 592),(.str "above" 593)]
def UQ:Obj:=hF .none Ol "lowest_first" 0 .none .none
def UP:Obj:=hC "lowest_first" 587 588 589 595 298 299 300 301 302 180 2 0 0 3 181 594 180 KD
def UO:Obj:=L0 Ol "lowest_first" (.str "spotlook.above" 559) 303
def UN:Obj:=LZ [(.str "walls" 600),(.str "upper" 601),(.str "wall" 602)]
def UM:Obj:=hF .none Oj "upper_of" 0 .none .none
def UL:Obj:=hC "upper_of" 597 598 599 604 305 306 307 308 309 182 1 0 0 3 181 603 182 KD
def UK:Obj:=L0 Oj "upper_of" (.str "spotlook.above" 559) 310
def UJ:Obj:=hF .none Oi "upper_below" 0 .none .none
def UI:Obj:=Lb "upper_below" "upper_below" 606 607 608 188 2 3 312 KD 313 .none .none (.ref 314) 609 610
def UH:Obj:=L0 Oi "upper_below" (.str "spotlook.above" 559) 315
def UG:Obj:=LZ [(.str "plot" 617),(.str "face" 618),(.str "first" 619),(.str "second" 620)]
def UE:Obj:=hF .none Oh "face_ends" 0 .none .none
def UD:Obj:=hC "face_ends" 614 615 616 622 317 318 319 320 321 192 2 0 0 3 181 621 192 KD
def UC:Obj:=L0 Oh "face_ends" (.str "spotlook.rings" 612) 322
def UB:Obj:=LZ [(.str "plot" 627),(.str "leaving" 628),(.str "face" 629)]
def UA:Obj:=hF .none Og "faces_by_start" 0 .none .none
def Tz:Obj:=hC "faces_by_start" 624 625 626 631 324 325 326 327 328 195 1 0 0 3 181 630 195 KD
def Tw:Obj:=L0 Og "faces_by_start" (.str "spotlook.rings" 612) 329
def Tv:Obj:=LZ [(.str "corner" 636),(.str "came_from" 637),(.str "one" 638),(.str "other" 639),(.str "turn" 640),(.str "other_turn" 641)]
def Tu:Obj:=hF .none Of "is_met_sooner" 0 .none .none
def Tt:Obj:=hC "is_met_sooner" 633 634 635 643 331 332 333 334 335 200 4 0 0 3 181 642 200 KD
def Ts:Obj:=L0 Of "is_met_sooner" (.str "spotlook.rings" 612) 336
def Tr:Obj:=LZ [(.str "plot" 648),(.str "leaving" 649),(.str "face" 650),(.str "came_from" 651),(.str "corner" 652),(.str "back" 653),(.str "best" 654),(.str "rival" 655)]
def Tq:Obj:=hF .none Oe "face_behind" 0 .none .none
def Tp:Obj:=hC "face_behind" 645 646 647 657 338 339 340 341 342 206 3 0 0 3 181 656 206 KD
def To:Obj:=L0 Oe "face_behind" (.str "spotlook.rings" 612) 343
def Tn(P:HN):Obj:=NJ 57 (hE P "__name__" 165 (.str "spotlook.steps" 727)::(Pk P).take 56)
def Tj:Obj:={ cls:=.none,data:=.fields (HZ (Me.take 144)) }
def Ti:Obj:=LZ [(.str "plot" 662),(.str "leaving" 663),(.str "face" 664),(.str "ring" 665),(.str "at" 666)]
def Th:Obj:=hF .none Od "ring_from" 0 .none .none
def Tf:Obj:=hC "ring_from" 659 660 661 668 345 346 347 348 349 214 3 0 0 3 181 667 214 KD
def Te:Obj:=L0 Od "ring_from" (.str "spotlook.rings" 612) 350
def Td:Obj:=LZ [(.str "plot" 673),(.str "leaving" 674),(.str "rings" 675),(.str "gone_along" 676),(.str "face" 677),(.str "ring" 678),(.str "part" 679)]
def Tc:Obj:=hF .none Oc "rings_of" 0 .none .none
def Ta:Obj:=hC "rings_of" 670 671 672 681 352 353 354 355 356 221 1 0 0 3 181 680 221 KD
def T9:Obj:=L0 Oc "rings_of" (.str "spotlook.rings" 612) 357
def T8:Obj:=hF .none Ob "twice_area" 0 .none .none
def T7:Obj:=Lb "twice_area" "twice_area" 683 684 685 232 2 3 359 KD 360 .none .none (.ref 361) 686 687
def T6:Obj:=L0 Ob "twice_area" (.str "spotlook.rings" 612) 362
def T5:Obj:=LZ [(.str "plot" 694),(.str "outers" 695),(.str "inners" 696),(.str "ring" 697)]
def T4:Obj:=hF .none Oa "outer_and_inner" 0 .none .none
def T3:Obj:=hC "outer_and_inner" 691 692 693 699 364 365 366 367 368 242 1 0 0 3 181 698 242 KD
def T1:Obj:=L0 Oa "outer_and_inner" (.str "spotlook.lands" 689) 369
def TZ:Obj:=LZ [(.str "plot" 704),(.str "ring" 705),(.str "first" 706),(.str "face" 707)]
def TY:Obj:=hF .none O9 "first_corner" 0 .none .none
def TX:Obj:=hC "first_corner" 701 702 703 709 371 372 373 374 375 250 2 0 0 3 181 708 250 KD
def TV:Obj:=L0 O9 "first_corner" (.str "spotlook.lands" 689) 376
def TU:Obj:=LZ [(.str "plot" 714),(.str "lands" 715),(.str "corner" 716),(.str "wall" 717)]
def TR:Obj:=hF .none O8 "land_about" 0 .none .none
def TQ:Obj:=hC "land_about" 711 712 713 719 378 379 380 381 382 255 3 0 0 3 181 718 255 KD
def TN:Obj:=L0 O8 "land_about" (.str "spotlook.lands" 689) 383
def TM:Obj:=hF .none O7 "lands_of_faces" 0 .none .none
def TL:Obj:=Lb "lands_of_faces" "lands_of_faces" 721 722 723 258 1 3 385 KD 386 .none .none (.ref 387) 724 725
def TK:Obj:=L0 O7 "lands_of_faces" (.str "spotlook.lands" 689) 388
def TJ:Obj:=hF .none O6 "steps_of" 0 .none .none
def TH:Obj:=Lb "steps_of" "steps_of" 729 730 731 271 2 3 390 KD 391 .none .none (.ref 392) 732 733
def TF:Obj:=L0 O6 "steps_of" (.str "spotlook.steps" 727) 393
def TC:Obj:=hF .none O5 "guide_of_step" 0 .none .none
def TB:Obj:=Lb "guide_of_step" "guide_of_step" 735 736 737 279 2 3 395 KD 396 .none .none (.ref 397) 738 739
def Sz:Obj:=L0 O5 "guide_of_step" (.str "spotlook.steps" 727) 398
def Sy(P:HN):Obj:=NJ 61 (hE P "__name__" 165 MZ::(Pk P).take 60)
def Sx:Obj:={ cls:=.none,data:=.fields (HZ (Me.take 156)) }
def Sw:Obj:={ cls:=(.type "type"),data:=(.cls { name:="Way",bases:=[(.type "object")],mro:=[(.ref 262),(.type "object")],ns:=261,qualname:="Way",hasDict:=KD,slotNames:=[],subclasses:=[(.ref 421)],abstract:=KG,collection:=KC,hasDel:=KG }),slots:=(List.toArray [KC,KC,(KA (.str "Way" 448)),(KA (.str "Way" 456)),(KA (.builtin "object.__new__")),(KA (.bool KD))]) }
def Sv:Obj:=LZ [(.ref 262)]
def Su(P:HN):Obj:=NJ 6 [hE P "__module__" 748 (.str "spotlook.steps" 727),hE P "__qualname__" 750 (.str "Steps" 749),hE P "__firstlineno__" 752 (.int 282 751),hE P "__init__" 758 (.ref 411),hE P "steps" 765 (.ref 418),hE P "__static_attributes__" 769 (.ref 419)]
def Ss:Obj:=Yc [(.int 284 0),(.int 4 0),(.ref 410),(.int 292 0),(.int 4 0),(.ref 417)]
def Sr:Obj:=Lb "Steps" "Steps" 743 744 745 282 0 0 403 KG 404 .none .none .none 746 747
def Sq:Obj:={ cls:=(.type "frame"),slots:=(List.toArray [(KA (.ref 405)),(KA (.ref 3)),(KA (.ref 402)),KC,(KA (.str "spotlook.steps" 727)),KC,(KA (.ref 0))]) }
def So:Obj:={ cls:=.none,data:=(.func (kU (kC Ni 0) "__init__" "Steps.__init__" 0 .none .none)) }
def Sn:Obj:=Lb "__init__" "Steps.__init__" 753 754 755 284 2 3 407 KD 408 .none .none (.ref 409) 756 757
def Sm:Obj:={ cls:=(.type "function"),data:=(.func (kU (kC Ni 0) "__init__" "Steps.__init__" 3 (.str "spotlook.steps" 727) (.ref 410))) }
def Sl:Obj:=LZ [(.str "self" 762)]
def Sk:Obj:={ cls:=.none,data:=(.func (kU (kC Ni 1) "steps" "Steps.steps" 0 .none .none)) }
def Sj:Obj:=Lb "steps" "Steps.steps" 759 760 761 292 1 3 412 KD 413 (.ref 414) (.ref 415) (.ref 416) 763 764
def Si:Obj:={ cls:=(.type "function"),data:=(.func (kU (kC Ni 1) "steps" "Steps.steps" 3 (.str "spotlook.steps" 727) (.ref 417))) }
def Sh:Obj:=LZ [(.str "guide" 766),(.str "most_looks" 767),(.str "step_rows" 768)]
def Sf(P:HN):Obj:=NJ 2 [hE P "__module__" 748 (.str "spotlook.steps" 727),hE P "__firstlineno__" 752 (.int 282 751),hE P "__init__" 758 (.ref 411),hE P "steps" 765 (.ref 418),hE P "__static_attributes__" 769 (.ref 419),hE P "__doc__" 770 .none]
def Se:Obj:={ cls:=(.type "type"),data:=(.cls { name:="Steps",bases:=[(.ref 262)],mro:=[(.ref 421),(.ref 262),(.type "object")],ns:=420,qualname:="Steps",hasDict:=KD,slotNames:=[],subclasses:=[],abstract:=KG,collection:=KC,hasDel:=KG }),slots:=(List.toArray [(KA (.ref 400)),KC,(KA (.str "Steps" 741)),(KA (.str "Steps" 749)),(KA (.builtin "object.__new__")),(KA (.bool KD))]) }
def Sd:Obj:={ cls:=(.type "super"),data:=(.fields (List.toArray [(.ref 421),(.ref 421),(.ref 421)])) }
def Sb:Obj:={ cls:=(.type "builtin_function_or_method"),data:=(.fields (List.toArray [(.builtin "object.__init_subclass__"),(.ref 421)])) }
def Sa:Obj:=LZ [(.str "_law_script" 778),(.str "_law_k" 779),(.str "_law_cell" 780)]
def S9:Obj:=hF .none O4 "_law_pot" 0 .none .none
def S8:Obj:=hC "_law_pot" 775 776 777 782 424 425 426 427 428 295 2 0 0 3 181 781 295 KD
def S7:Obj:=L0 O4 "_law_pot" MZ 429
def S6:Obj:=LZ [(.str "_law_pot_here" 787),(.str "_law_size" 788),(.str "_law_digit" 789),(.str "_law_mixed" 790)]
def S5:Obj:=hF .none O3 "_law_take" 0 .none .none
def S4:Obj:=hC "_law_take" 784 785 786 792 431 432 433 434 435 300 2 0 0 3 181 791 300 KD
def S3:Obj:=L0 O3 "_law_take" MZ 436
def S2:Obj:=LZ [(.str "_law_shut" 797),(.str "_law_spot" 798),(.str "_law_a" 799),(.str "_law_b" 800),(.str "_law_c" 801),(.str "_law_d" 802),(.str "_law_way" 803)]
def S1:Obj:=hF .none O2 "_law_side" 0 .none .none
def S0:Obj:=hC "_law_side" 794 795 796 805 438 439 440 441 442 309 2 0 0 3 181 804 309 KD
def SY:Obj:=L0 O2 "_law_side" MZ 443
def SX(P:HN):Obj:=NJ 74 (hE P "__name__" 165 MZ::(Pk P).take 73)
def SW:Obj:={ cls:=.none,data:=.fields (HZ (Me.take 195)) }
def SV:Obj:=LZ [(.str "_law_shut" 810),(.str "_law_spot" 811)]
def SU:Obj:=hF .none O1 "_law_on" 0 .none .none
def SS:Obj:=hC "_law_on" 807 808 809 813 445 446 447 448 449 314 2 0 0 3 181 812 314 KD
def SR:Obj:=L0 O1 "_law_on" MZ 450
def SQ:Obj:=LZ [(.str "_law_one" 818),(.str "_law_other" 819),(.str "_law_shut" 820),(.str "_law_ends" 821),(.str "_law_spot" 822),(.str "_law_both" 823)]
def SO:Obj:=hF .none O0 "_law_apart" 0 .none .none
def SN:Obj:=hC "_law_apart" 815 816 817 825 452 453 454 455 456 316 2 0 0 3 181 824 316 KD
def SM:Obj:=L0 O0 "_law_apart" MZ 457
def SK:Obj:=LZ [(.str "_law_pot_here" 830),(.str "_law_wide" 831)]
def SJ:Obj:=hF .none OZ "_law_new_spot" 0 .none .none
def SH:Obj:=hC "_law_new_spot" 827 828 829 833 459 460 461 462 463 323 2 0 0 3 181 832 323 KD
def SG:Obj:=L0 OZ "_law_new_spot" MZ 464
def SF:Obj:=LZ [(.str "_law_pot_here" 838),(.str "_law_shuts" 839),(.str "_law_wide" 840)]
def SA:Obj:=hF .none OY "_law_some_spot" 0 .none .none
def Rz:Obj:=hC "_law_some_spot" 835 836 837 842 466 467 468 469 470 325 3 0 0 3 181 841 325 KD
def Ry:Obj:=L0 OY "_law_some_spot" MZ 471
def Rx:Obj:=LZ [(.str "_law_pot_here" 847),(.str "_law_wide" 848),(.str "_law_x" 849),(.str "_law_y" 850),(.str "_law_far_here" 851)]
def Rw:Obj:=hF .none OX "_law_square" 0 .none .none
def Rv:Obj:=hC "_law_square" 844 845 846 853 473 474 475 476 477 329 2 0 0 3 181 852 329 KD
def Ru:Obj:=L0 OX "_law_square" MZ 478
def Rt:Obj:=hF .none OW "_law_laid" 0 .none .none
def Rr:Obj:=Lb "_law_laid" "_law_laid" 855 856 857 335 3 3 480 KD 481 .none .none (.ref 482) 858 859
def Rq:Obj:=L0 OW "_law_laid" MZ 483
def Rp:Obj:=hF .none OV "_law_shuts_here" 0 .none .none
def Ro:Obj:=Lb "_law_shuts_here" "_law_shuts_here" 861 862 863 340 2 3 485 KD 486 .none .none (.ref 487) 864 865
def Rn:Obj:=L0 OV "_law_shuts_here" MZ 488
def Rm:Obj:=LZ [(.str "_law_top" 870),(.str "_law_bottom" 871),(.str "_law_one" 872),(.str "_law_other" 873)]
def Rl:Obj:=hF .none OU "_law_frac" 0 .none .none
def Rk:Obj:=hC "_law_frac" 867 868 869 875 490 491 492 493 494 352 2 0 0 3 181 874 352 KD
def Rj:Obj:=L0 OU "_law_frac" MZ 495
def Ri:Obj:=hF .none OT "_law_frame" 0 .none .none
def Rh:Obj:=Lb "_law_frame" "_law_frame" 877 878 879 358 2 3 497 KD 498 .none .none (.ref 499) 880 881
def Rg:Obj:=L0 OT "_law_frame" MZ 500
def Rf:Obj:=LZ [(.str "_law_frame_here" 886),(.str "_law_spot" 887),(.str "_law_p" 888),(.str "_law_q" 889),(.str "_law_s" 890),(.str "_law_t" 891)]
def Rc:Obj:=hF .none OS "_law_given" 0 .none .none
def Rb:Obj:=hC "_law_given" 883 884 885 893 502 503 504 505 506 367 2 0 0 3 181 892 367 KD
def Ra:Obj:=L0 OS "_law_given" MZ 507
def R9:Obj:=hF .none OR "_law_plot" 0 .none .none
def R8:Obj:=Lb "_law_plot" "_law_plot" 895 896 897 370 2 3 509 KD 510 .none .none (.ref 511) 898 899
def R7:Obj:=L0 OR "_law_plot" MZ 512
def R6:Obj:=LZ [(.str "_law_pot_here" 904),(.str "_law_shuts" 905),(.str "_law_kind" 906),(.str "_law_x" 907),(.str "_law_y" 908),(.str "_law_first" 909),(.str "_law_second" 910),(.str "_law_k" 911)]
def R5:Obj:=hF .none OQ "_law_asked" 0 .none .none
def R4:Obj:=hC "_law_asked" 901 902 903 913 514 515 516 517 518 372 2 0 0 3 181 912 372 KD
def R3:Obj:=L0 OQ "_law_asked" MZ 519
def R0:Obj:=hF .none OP "_law_corners" 0 .none .none
def RZ:Obj:=Lb "_law_corners" "_law_corners" 915 916 917 384 1 3 521 KD 522 .none .none (.ref 523) 918 919
def RY:Obj:=L0 OP "_law_corners" MZ 524
def RX(P:HN):Obj:=NJ 79 (hE P "__name__" 165 MZ::(Pk P).take 78)
def RW:Obj:={ cls:=.none,data:=.fields (HZ (Me.take 210)) }
def RV:Obj:=LZ [(.str "_law_pot_here" 924),(.str "_law_looks" 925),(.str "_law_way" 926),(.str "_law_at" 927),(.str "_law_word" 928),(.str "_law_number" 929),(.str "_law_side_here" 930)]
def RU:Obj:=hF .none OO "_law_bent" 0 .none .none
def RT:Obj:=hC "_law_bent" 921 922 923 932 526 527 528 529 530 389 2 0 0 3 181 931 389 KD
def RS:Obj:=L0 OO "_law_bent" MZ 531
def RR:Obj:=LZ [(.str "_law_shuts" 937),(.str "_law_corners_here" 938),(.str "_law_spot" 939),(.str "_law_looks" 940),(.str "_law_word" 941),(.str "_law_number" 942),(.str "_law_side_here" 943),(.str "_law_due" 944)]
def RQ:Obj:=hF .none ON "_law_holds" 0 .none .none
def RP:Obj:=hC "_law_holds" 934 935 936 946 533 534 535 536 537 408 4 0 0 3 181 945 408 KD
def RN:Obj:=L0 ON "_law_holds" MZ 538
def RM:Obj:=LZ [(.str "_law_pot_here" 951),(.str "_law_shuts" 952),(.str "_law_corners_here" 953),(.str "_law_spot" 954),(.str "_law_looks" 955),(.str "_law_k" 956),(.str "_law_number" 957)]
def RK:Obj:=hF .none OM "_law_some_looks" 0 .none .none
def RJ:Obj:=hC "_law_some_looks" 948 949 950 959 540 541 542 543 544 418 4 0 0 3 181 958 418 KD
def RH:Obj:=L0 OM "_law_some_looks" MZ 545
def RG:Obj:=LZ [(.str "_law_pot_here" 964),(.str "_law_shuts" 965),(.str "_law_spot" 966),(.str "_law_first" 967),(.str "_law_second" 968)]
def RF:Obj:=hF .none OL "_law_far" 0 .none .none
def RE:Obj:=hC "_law_far" 961 962 963 970 547 548 549 550 551 428 3 0 0 3 181 969 428 KD
def RB:Obj:=L0 OL "_law_far" MZ 552
def RA:Obj:=LZ [(.str "_law_script" 975),(.str "_law_k" 976),(.str "_law_pot_here" 977),(.str "_law_shuts" 978),(.str "_law_corners_here" 979),(.str "_law_frame_here" 980),(.str "_law_plot_here" 981),(.str "_law_spot" 982),(.str "_law_looks" 983),(.str "_law_bend" 984),(.str "_law_one" 985),(.str "_law_handed" 986),(.str "_law_found" 987)]
def Qz:Obj:=hF .none OK "law" 0 .none .none
def Qy:Obj:=hC "law" 972 973 974 989 554 555 556 557 558 433 1 0 0 3 181 988 433 KD
def Qx:Obj:=L0 OK "law" MZ 559
def Z5(P:HN):List Obj:=[PySem.W.boot_o_0 P,PySem.W.boot_o_1 P,PySem.W.boot_o_2 P,PySem.W.boot_o_3 P,PySem.W.boot_o_4 P,PySem.W.boot_o_5 P,PySem.W.boot_o_6 P,PySem.W.boot_o_7 P,PySem.W.boot_o_8 P,PySem.W.boot_o_9 P,PySem.W.boot_o_10 P,YM,YL,YK,YJ,YI P]
def Z4(P:HN):List Obj:=[YH,YG,YF,YE,YD,YC,YB,YA P,Xz,Xy,Xx P,Xw,Xv,Xu,Xt,Xs P]
def Z3(P:HN):List Obj:=[Xr,Xq,Xp,Xo P,Xn,Xm,Xl P,Xk,Xj,Xi,Xh,Xg,Xf,Xe,Xd,Xc]
def Z2(P:HN):List Obj:=[Xb,Xa,X9,X8,X7,X6,X5,X4,X3,X2,X1,X0,XZ,XY,XX P,XW]
def Z1(P:HN):List Obj:=[XU,XT,XS,XR,XQ,XO,XN,XM,XJ,XI,XH,XG,XF,XE,XD,XC]
def Z0(P:HN):List Obj:=[XB,XA,Wz,Wy,Wx,Ww,Wv,Wu,Wt,Ws,Wr,Wq,Wo,Wn,Wm,Wk]
def ZZ(P:HN):List Obj:=[Wj,Wi,Wh,Wg,Vx,Vw,Vv,Vu,Vt,Vs,Vr,Vq,Vp,Vo,Vn,Vm P]
def ZY(P:HN):List Obj:=[Vl,Vk,Vj,Vi,Vh,Vg,Vf,Ve,Vd,Vb,Va,V9,V8,V7,V6,V5]
def ZX(P:HN):List Obj:=[V4,V3,V2,V1,V0,VZ,VY,VX,VW P,VV,VU P,VT,VS,VR,VQ,VP]
def ZW(P:HN):List Obj:=[VO,VN,VM,VL,VJ,VI,VH,VG,VF,VE,VD,VC,VB,VA,Uz,Uy]
def Y0(P:HN):List Obj:=[Ux,Uw,Uv,Uu,Ut,Us,Ur,Uq,Uo,Um,Ul,Uk P,Uj,Ui,Uh,Ug]
def YZ(P:HN):List Obj:=[Ue,Ud P,Uc,Ub,Ua,U9,U8,U7,U6,U5,U4,U3,U2,U1,U0,UZ]
def YY(P:HN):List Obj:=[UY,UX,UW,UU,UT,US,UR,UQ,UP,UO,UN,UM,UL,UK,UJ,UI]
def YX(P:HN):List Obj:=[UH,UG,UE,UD,UC,UB,UA,Tz,Tw,Tv,Tu,Tt,Ts,Tr,Tq,Tp]
def YW(P:HN):List Obj:=[To,Tn P,Tj,Ti,Th,Tf,Te,Td,Tc,Ta,T9,T8,T7,T6,T5,T4]
def YV(P:HN):List Obj:=[T3,T1,TZ,TY,TX,TV,TU,TR,TQ,TN,TM,TL,TK,TJ,TH,TF]
def YU(P:HN):List Obj:=[TC,TB,Sz,Sy P,Sx,Sw,Sv,Su P,Ss,Sr,Sq,So,Sn,Sm,Sl,Sk]
def YT(P:HN):List Obj:=[Sj,Si,Sh,Sf P,Se,Sd,Sb,Sa,S9,S8,S7,S6,S5,S4,S3,S2]
def YS(P:HN):List Obj:=[S1,S0,SY,SX P,SW,SV,SU,SS,SR,SQ,SO,SN,SM,SK,SJ,SH]
def YR(P:HN):List Obj:=[SG,SF,SA,Rz,Ry,Rx,Rw,Rv,Ru,Rt,Rr,Rq,Rp,Ro,Rn,Rm]
def YQ(P:HN):List Obj:=[Rl,Rk,Rj,Ri,Rh,Rg,Rf,Rc,Rb,Ra,R9,R8,R7,R6,R5,R4]
def YO(P:HN):List Obj:=[R3,R0,RZ,RY,RX P,RW,RV,RU,RT,RS,RR,RQ,RP,RN,RM,RK]
def YN(P:HN):List Obj:=[RJ,RH,RG,RF,RE,RB,RA,Qz,Qy,Qx]
def fA(c i:Nat)(P:HN):Obj:=(([Z5 P,Z4 P,Z3 P,Z2 P,Z1 P,Z0 P,ZZ P,ZY P,ZX P,ZW P,Y0 P,YZ P,YY P,YX P,YW P,YV P,YU P,YT P,YS P,YR P,YQ P,YO P,YN P]:List (List Obj)).getD c []).getD i { cls:=.none }
def ZH(n:Nat->HH->HH->HH)(e:HH):HH:=(λm:Nat->HH=>(n 0 (n 1 (n 3 (m 7) (m 11)) (n 5 (m 9) (m 13))) (n 2 (n 4 (m 8) (m 12)) (n 6 (m 10) (m 14))))) λa=>n a e e
def tX0(f:Nat->Nat->HN->Obj)(P:HN):HH:=ZH (λk=>.node (f (k/16) (k%16) P)) .nil
def ZG(n:Nat->HH->HH->HH)(e:HH):HH:=(λm:Nat->HH=>(n 0 (n 1 (n 15 (n 7 (n 11 (m 27) e) (m 22)) (n 11 (m 18) (m 24))) (n 5 (n 9 (n 17 (m 29) e) (m 11)) (n 13 (m 20) (m 11)))) (n 2 (n 4 (n 8 (n 12 (m 28) e) (m 23)) (n 16 (m 19) (m 25))) (n 6 (n 10 (n 11 (m 30) e) (m 12)) (n 14 (m 21) (m 26)))))) λa=>n a e e
def tX1(f:Nat->Nat->HN->Obj)(P:HN):HH:=ZG (λk=>.node (f (k/16) (k%16) P)) .nil
def ZF(n:Nat->HH->HH->HH)(e:HH):HH:=(λm:Nat->HH=>(n 0 (n 1 (n 31 (n 7 (n 11 (n 33 (m 50) e) (n 11 (m 59) e)) (n 22 (n 12 (m 11) e) (m 12))) (n 11 (n 18 (n 34 (m 53) e) (m 43)) (n 24 (n 38 (m 11) e) (m 48)))) (n 5 (n 9 (n 17 (n 29 (m 51) e) (n 42 (m 61) e)) (n 11 (n 37 (m 56) e) (m 11))) (n 13 (n 20 (n 35 (m 12) e) (m 45)) (n 11 (n 40 (m 58) e) (m 11))))) (n 2 (n 4 (n 8 (n 12 (n 28 (m 11) e) (n 12 (m 60) e)) (n 23 (n 36 (m 55) e) (m 46))) (n 32 (n 19 (n 22 (m 11) e) (m 44)) (n 25 (n 39 (m 12) e) (m 49)))) (n 6 (n 10 (n 11 (n 30 (m 52) e) (m 11)) (n 12 (n 11 (m 57) e) (m 47))) (n 14 (n 21 (n 11 (m 54) e) (m 11)) (n 26 (n 41 (m 11) e) (m 12))))))) λa=>n a e e
def tX2(f:Nat->Nat->HN->Obj)(P:HN):HH:=ZF (λk=>.node (f (k/16) (k%16) P)) .nil
def ZE(n:Nat->HH->HH->HH)(e:HH):HH:=(λm:Nat->HH=>(n 0 (n 1 (n 62 (n 7 (n 11 (n 33 (n 50 (m 11) e) (n 71 (m 107) e)) (n 11 (n 59 (m 98) e) (m 12))) (n 22 (n 12 (n 11 (m 93) e) (m 11)) (n 12 (n 66 (m 103) e) (m 84)))) (n 11 (n 18 (n 34 (n 53 (m 11) e) (n 11 (m 110) e)) (n 43 (n 12 (m 100) e) (m 82))) (n 24 (n 38 (n 11 (m 12) e) (m 77)) (n 48 (n 68 (m 105) e) (m 87))))) (n 5 (n 9 (n 17 (n 29 (n 51 (m 90) e) (n 12 (m 108) e)) (n 42 (n 61 (m 11) e) (m 11))) (n 11 (n 37 (n 56 (m 95) e) (m 76)) (n 11 (n 11 (m 12) e) (m 85)))) (n 13 (n 20 (n 35 (n 12 (m 92) e) (m 74)) (n 45 (n 11 (m 101) e) (m 11))) (n 11 (n 40 (n 58 (m 11) e) (m 79)) (n 11 (n 69 (m 11) e) (m 12)))))) (n 2 (n 4 (n 8 (n 12 (n 28 (n 11 (m 89) e) (n 11 (m 11) e)) (n 12 (n 60 (m 99) e) (m 80))) (n 23 (n 36 (n 55 (m 94) e) (m 12)) (n 46 (n 67 (m 11) e) (m 11)))) (n 63 (n 19 (n 22 (n 11 (m 12) e) (m 73)) (n 44 (n 64 (m 11) e) (m 83))) (n 25 (n 39 (n 12 (m 96) e) (m 78)) (n 49 (n 11 (m 106) e) (m 11))))) (n 6 (n 10 (n 11 (n 30 (n 52 (m 91) e) (n 72 (m 109) e)) (n 11 (n 11 (m 12) e) (m 81))) (n 12 (n 11 (n 57 (m 11) e) (m 11)) (n 47 (n 12 (m 104) e) (m 86)))) (n 14 (n 21 (n 11 (n 54 (m 11) e) (m 75)) (n 11 (n 65 (m 102) e) (m 12))) (n 26 (n 41 (n 11 (m 97) e) (m 11)) (n 12 (n 70 (m 12) e) (m 88)))))))) λa=>n a e e
def tX3(f:Nat->Nat->HN->Obj)(P:HN):HH:=ZE (λk=>.node (f (k/16) (k%16) P)) .nil
def ZD(n:Nat->HH->HH->HH)(e:HH):HH:=(λm:Nat->HH=>(n 0 (n 1 (n 111 (n 7 (n 11 (n 33 (n 50 (m 11) (m 12)) (n 71 (m 107) e)) (n 11 (n 59 (m 98) e) (n 12 (m 119) e))) (n 22 (n 12 (n 11 (m 93) (m 132)) (n 11 (m 114) e)) (n 12 (n 66 (m 103) e) (n 84 (m 11) e)))) (n 11 (n 18 (n 34 (n 53 (m 11) (m 130)) (n 11 (m 110) e)) (n 43 (n 12 (m 100) e) (n 82 (m 11) e))) (n 24 (n 38 (n 11 (m 12) (m 135)) (n 77 (m 116) e)) (n 48 (n 68 (m 105) e) (n 87 (m 125) e))))) (n 5 (n 9 (n 17 (n 29 (n 51 (m 90) (m 11)) (n 12 (m 108) e)) (n 42 (n 61 (m 11) e) (n 11 (m 12) e))) (n 11 (n 37 (n 56 (m 95) (m 133)) (n 76 (m 11) e)) (n 11 (n 11 (m 12) e) (n 85 (m 124) e)))) (n 13 (n 20 (n 35 (n 12 (m 92) (m 11)) (n 74 (m 12) e)) (n 45 (n 11 (m 101) e) (n 11 (m 122) e))) (n 11 (n 40 (n 58 (m 11) e) (n 79 (m 117) e)) (n 11 (n 69 (m 11) e) (n 12 (m 127) e)))))) (n 2 (n 4 (n 8 (n 12 (n 28 (n 11 (m 89) (m 128)) (n 11 (m 11) e)) (n 12 (n 60 (m 99) e) (n 80 (m 11) e))) (n 23 (n 36 (n 55 (m 94) (m 11)) (n 12 (m 115) e)) (n 46 (n 67 (m 11) e) (n 11 (m 12) e)))) (n 112 (n 19 (n 22 (n 11 (m 12) (m 131)) (n 73 (m 11) e)) (n 44 (n 64 (m 11) e) (n 83 (m 121) e))) (n 25 (n 39 (n 12 (m 96) e) (n 78 (m 11) e)) (n 49 (n 11 (m 106) e) (n 11 (m 126) e))))) (n 6 (n 10 (n 11 (n 30 (n 52 (m 91) (m 129)) (n 72 (m 109) e)) (n 11 (n 11 (m 12) e) (n 81 (m 120) e))) (n 12 (n 11 (n 57 (m 11) (m 134)) (n 11 (m 12) e)) (n 47 (n 12 (m 104) e) (n 86 (m 11) e)))) (n 14 (n 21 (n 11 (n 54 (m 11) (m 12)) (n 75 (m 113) e)) (n 11 (n 65 (m 102) e) (n 12 (m 123) e))) (n 26 (n 41 (n 11 (m 97) e) (n 11 (m 118) e)) (n 12 (n 70 (m 12) e) (n 88 (m 11) e)))))))) λa=>n a e e
def tX4(f:Nat->Nat->HN->Obj)(P:HN):HH:=ZD (λk=>.node (f (k/16) (k%16) P)) .nil
def ZC(n:Nat->HH->HH->HH)(e:HH):HH:=(λm:Nat->HH=>(n 0 (n 1 (n 136 (n 7 (n 11 (n 33 (n 50 (n 11 (m 166) e) (m 12)) (n 71 (m 107) (m 148))) (n 11 (n 59 (m 98) (m 11)) (n 12 (m 119) (m 11)))) (n 22 (n 12 (n 11 (n 93 (m 173) e) (m 132)) (n 11 (m 114) (m 153))) (n 12 (n 66 (m 103) (m 143)) (n 84 (m 11) (m 12))))) (n 11 (n 18 (n 34 (n 53 (n 11 (m 169) e) (m 130)) (n 11 (m 110) (m 150))) (n 43 (n 12 (m 100) (m 11)) (n 82 (m 11) (m 159)))) (n 24 (n 38 (n 11 (m 12) (m 135)) (n 77 (m 116) (m 11))) (n 48 (n 68 (m 105) (m 12)) (n 87 (m 125) (m 164)))))) (n 5 (n 9 (n 17 (n 29 (n 51 (n 90 (m 167) e) (m 11)) (n 12 (m 108) (m 11))) (n 42 (n 61 (m 11) (m 140)) (n 11 (m 12) (m 158)))) (n 11 (n 37 (n 56 (n 95 (m 175) e) (m 133)) (n 76 (m 11) (m 12))) (n 11 (n 11 (m 12) (m 145)) (n 85 (m 124) (m 11))))) (n 13 (n 20 (n 35 (n 12 (n 92 (m 171) e) (m 11)) (n 74 (m 12) (m 151))) (n 45 (n 11 (m 101) (m 142)) (n 11 (m 122) (m 161)))) (n 11 (n 40 (n 58 (m 11) (m 22)) (n 79 (m 117) (m 156))) (n 11 (n 69 (m 11) (m 11)) (n 12 (m 127) (m 11))))))) (n 2 (n 4 (n 8 (n 12 (n 28 (n 11 (n 89 (m 11) e) (m 128)) (n 11 (m 11) (m 149))) (n 12 (n 60 (m 99) (m 139)) (n 80 (m 11) (m 12)))) (n 23 (n 36 (n 55 (n 94 (m 174) e) (m 11)) (n 12 (m 115) (m 11))) (n 46 (n 67 (m 11) (m 144)) (n 11 (m 12) (m 162))))) (n 137 (n 19 (n 22 (n 11 (n 12 (m 170) e) (m 131)) (n 73 (m 11) (m 11))) (n 44 (n 64 (m 11) (m 12)) (n 83 (m 121) (m 160)))) (n 25 (n 39 (n 12 (m 96) (m 11)) (n 78 (m 11) (m 155))) (n 49 (n 11 (m 106) (m 146)) (n 11 (m 126) (m 165)))))) (n 6 (n 10 (n 11 (n 30 (n 52 (n 91 (m 168) e) (m 129)) (n 72 (m 109) (m 12))) (n 11 (n 11 (m 12) (m 141)) (n 81 (m 120) (m 11)))) (n 12 (n 11 (n 57 (n 11 (m 176) e) (m 134)) (n 11 (m 12) (m 154))) (n 47 (n 12 (m 104) (m 11)) (n 86 (m 11) (m 163))))) (n 14 (n 21 (n 11 (n 54 (n 11 (m 172) e) (m 12)) (n 75 (m 113) (m 152))) (n 11 (n 65 (m 102) (m 11)) (n 12 (m 123) (m 11)))) (n 26 (n 41 (n 11 (m 97) (m 138)) (n 11 (m 118) (m 157))) (n 12 (n 70 (m 12) (m 147)) (n 88 (m 11) (m 12))))))))) λa=>n a e e
def tX5(f:Nat->Nat->HN->Obj)(P:HN):HH:=ZC (λk=>.node (f (k/16) (k%16) P)) .nil
def ZA(n:Nat->HH->HH->HH)(e:HH):HH:=(λm:Nat->HH=>(n 0 (n 1 (n 177 (n 7 (n 11 (n 33 (n 50 (n 11 (m 166) e) (n 12 (m 209) e)) (n 71 (n 107 (m 12) e) (m 148))) (n 11 (n 59 (n 98 (m 181) e) (n 11 (m 218) e)) (n 12 (n 119 (m 200) e) (m 11)))) (n 22 (n 12 (n 11 (n 93 (m 173) e) (n 132 (m 11) e)) (n 11 (n 114 (m 194) e) (m 153))) (n 12 (n 66 (n 103 (m 11) e) (n 143 (m 223) e)) (n 84 (n 11 (m 205) e) (m 12))))) (n 11 (n 18 (n 34 (n 53 (n 11 (m 169) e) (n 130 (m 212) e)) (n 11 (n 110 (m 192) e) (m 150))) (n 43 (n 12 (n 100 (m 11) e) (n 11 (m 12) e)) (n 82 (n 11 (m 202) e) (m 159)))) (n 24 (n 38 (n 11 (n 12 (m 11) e) (n 135 (m 11) e)) (n 77 (n 116 (m 12) e) (m 11))) (n 48 (n 68 (n 105 (m 187) e) (m 12)) (n 87 (n 125 (m 207) e) (m 164)))))) (n 5 (n 9 (n 17 (n 29 (n 51 (n 90 (m 167) e) (n 11 (m 210) e)) (n 12 (n 108 (m 11) e) (m 11))) (n 42 (n 61 (n 11 (m 12) e) (n 140 (m 220) e)) (n 11 (n 12 (m 11) e) (m 158)))) (n 11 (n 37 (n 56 (n 95 (m 175) e) (n 133 (m 215) e)) (n 76 (n 11 (m 196) e) (m 12))) (n 11 (n 11 (n 12 (m 186) e) (m 145)) (n 85 (n 124 (m 12) e) (m 11))))) (n 13 (n 20 (n 35 (n 12 (n 92 (m 171) e) (n 11 (m 12) e)) (n 74 (n 12 (m 11) e) (m 151))) (n 45 (n 11 (n 101 (m 184) e) (n 142 (m 11) e)) (n 11 (n 122 (m 203) e) (m 161)))) (n 11 (n 40 (n 58 (n 11 (m 179) e) (n 22 (m 217) e)) (n 79 (n 117 (m 198) e) (m 156))) (n 11 (n 69 (n 11 (m 189) e) (m 11)) (n 12 (n 127 (m 11) e) (m 11))))))) (n 2 (n 4 (n 8 (n 12 (n 28 (n 11 (n 89 (m 11) e) (n 128 (m 11) e)) (n 11 (n 11 (m 190) e) (m 149))) (n 12 (n 60 (n 99 (m 11) e) (n 139 (m 219) e)) (n 80 (n 11 (m 201) e) (m 12)))) (n 23 (n 36 (n 55 (n 94 (m 174) e) (n 11 (m 214) e)) (n 12 (n 115 (m 195) e) (m 11))) (n 46 (n 67 (n 11 (m 12) e) (n 144 (m 224) e)) (n 11 (n 12 (m 11) e) (m 162))))) (n 178 (n 19 (n 22 (n 11 (n 12 (m 170) e) (n 131 (m 11) e)) (n 73 (n 11 (m 193) e) (m 11))) (n 44 (n 64 (n 11 (m 183) e) (n 12 (m 221) e)) (n 83 (n 121 (m 11) e) (m 160)))) (n 25 (n 39 (n 12 (n 96 (m 12) e) (n 11 (m 12) e)) (n 78 (n 11 (m 197) e) (m 155))) (n 49 (n 11 (n 106 (m 188) e) (m 146)) (n 11 (n 126 (m 208) e) (m 165)))))) (n 6 (n 10 (n 11 (n 30 (n 52 (n 91 (m 168) e) (n 129 (m 211) e)) (n 72 (n 109 (m 191) e) (m 12))) (n 11 (n 11 (n 12 (m 182) e) (n 141 (m 11) e)) (n 81 (n 120 (m 12) e) (m 11)))) (n 12 (n 11 (n 57 (n 11 (m 176) e) (n 134 (m 216) e)) (n 11 (n 12 (m 11) e) (m 154))) (n 47 (n 12 (n 104 (m 11) e) (m 11)) (n 86 (n 11 (m 206) e) (m 163))))) (n 14 (n 21 (n 11 (n 54 (n 11 (m 172) e) (n 12 (m 213) e)) (n 75 (n 113 (m 12) e) (m 152))) (n 11 (n 65 (n 102 (m 185) e) (n 11 (m 222) e)) (n 12 (n 123 (m 204) e) (m 11)))) (n 26 (n 41 (n 11 (n 97 (m 180) e) (n 138 (m 11) e)) (n 11 (n 118 (m 199) e) (m 157))) (n 12 (n 70 (n 12 (m 11) e) (m 147)) (n 88 (n 11 (m 12) e) (m 12))))))))) λa=>n a e e
def tX6(f:Nat->Nat->HN->Obj)(P:HN):HH:=ZA (λk=>.node (f (k/16) (k%16) P)) .nil
def Yz(n:Nat->HH->HH->HH)(e:HH):HH:=(λm:Nat->HH=>(n 0 (n 1 (n 225 (n 7 (n 11 (n 33 (n 50 (n 11 (m 166) (m 248)) (n 12 (m 209) e)) (n 71 (n 107 (m 12) e) (n 148 (m 230) e))) (n 11 (n 59 (n 98 (m 181) (m 258)) (n 11 (m 218) e)) (n 12 (n 119 (m 200) e) (n 11 (m 11) e)))) (n 22 (n 12 (n 11 (n 93 (m 173) (m 12)) (n 132 (m 11) e)) (n 11 (n 114 (m 194) e) (n 153 (m 11) e))) (n 12 (n 66 (n 103 (m 11) e) (n 143 (m 223) e)) (n 84 (n 11 (m 205) e) (n 12 (m 243) e))))) (n 11 (n 18 (n 34 (n 53 (n 11 (m 169) (m 250)) (n 130 (m 212) e)) (n 11 (n 110 (m 192) e) (n 150 (m 11) e))) (n 43 (n 12 (n 100 (m 11) e) (n 11 (m 12) e)) (n 82 (n 11 (m 202) e) (n 159 (m 11) e)))) (n 24 (n 38 (n 11 (n 12 (m 11) (m 11)) (n 135 (m 11) e)) (n 77 (n 116 (m 12) e) (n 11 (m 237) e))) (n 48 (n 68 (n 105 (m 187) e) (n 12 (m 227) e)) (n 87 (n 125 (m 207) e) (n 164 (m 12) e)))))) (n 5 (n 9 (n 17 (n 29 (n 51 (n 90 (m 167) (m 11)) (n 11 (m 210) e)) (n 12 (n 108 (m 11) e) (n 11 (m 12) e))) (n 42 (n 61 (n 11 (m 12) e) (n 140 (m 220) e)) (n 11 (n 12 (m 11) e) (n 158 (m 240) e)))) (n 11 (n 37 (n 56 (n 95 (m 175) (m 254)) (n 133 (m 215) e)) (n 76 (n 11 (m 196) e) (n 12 (m 235) e))) (n 11 (n 11 (n 12 (m 186) e) (n 145 (m 11) e)) (n 85 (n 124 (m 12) e) (n 11 (m 245) e))))) (n 13 (n 20 (n 35 (n 12 (n 92 (m 171) (m 252)) (n 11 (m 12) e)) (n 74 (n 12 (m 11) e) (n 151 (m 233) e))) (n 45 (n 11 (n 101 (m 184) e) (n 142 (m 11) e)) (n 11 (n 122 (m 203) e) (n 161 (m 242) e)))) (n 11 (n 40 (n 58 (n 11 (m 179) (m 256)) (n 22 (m 217) e)) (n 79 (n 117 (m 198) e) (n 156 (m 12) e))) (n 11 (n 69 (n 11 (m 189) e) (n 11 (m 228) e)) (n 12 (n 127 (m 11) e) (n 11 (m 11) e))))))) (n 2 (n 4 (n 8 (n 12 (n 28 (n 11 (n 89 (m 11) (m 249)) (n 128 (m 11) e)) (n 11 (n 11 (m 190) e) (n 149 (m 11) e))) (n 12 (n 60 (n 99 (m 11) e) (n 139 (m 219) e)) (n 80 (n 11 (m 201) e) (n 12 (m 239) e)))) (n 23 (n 36 (n 55 (n 94 (m 174) (m 253)) (n 11 (m 214) e)) (n 12 (n 115 (m 195) e) (n 11 (m 12) e))) (n 46 (n 67 (n 11 (m 12) e) (n 144 (m 224) e)) (n 11 (n 12 (m 11) e) (n 162 (m 244) e))))) (n 226 (n 19 (n 22 (n 11 (n 12 (m 170) (m 251)) (n 131 (m 11) e)) (n 73 (n 11 (m 193) e) (n 11 (m 232) e))) (n 44 (n 64 (n 11 (m 183) e) (n 12 (m 221) e)) (n 83 (n 121 (m 11) e) (n 160 (m 12) e)))) (n 25 (n 39 (n 12 (n 96 (m 12) (m 12)) (n 11 (m 12) e)) (n 78 (n 11 (m 197) e) (n 155 (m 11) e))) (n 49 (n 11 (n 106 (m 188) e) (n 146 (m 11) e)) (n 11 (n 126 (m 208) e) (n 165 (m 246) e)))))) (n 6 (n 10 (n 11 (n 30 (n 52 (n 91 (m 168) (m 12)) (n 129 (m 211) e)) (n 72 (n 109 (m 191) e) (n 12 (m 231) e))) (n 11 (n 11 (n 12 (m 182) e) (n 141 (m 11) e)) (n 81 (n 120 (m 12) e) (n 11 (m 241) e)))) (n 12 (n 11 (n 57 (n 11 (m 176) (m 255)) (n 134 (m 216) e)) (n 11 (n 12 (m 11) e) (n 154 (m 236) e))) (n 47 (n 12 (n 104 (m 11) e) (n 11 (m 12) e)) (n 86 (n 11 (m 206) e) (n 163 (m 11) e))))) (n 14 (n 21 (n 11 (n 54 (n 11 (m 172) (m 11)) (n 12 (m 213) e)) (n 75 (n 113 (m 12) e) (n 152 (m 234) e))) (n 11 (n 65 (n 102 (m 185) e) (n 11 (m 222) e)) (n 12 (n 123 (m 204) e) (n 11 (m 11) e)))) (n 26 (n 41 (n 11 (n 97 (m 180) (m 257)) (n 138 (m 11) e)) (n 11 (n 118 (m 199) e) (n 157 (m 238) e))) (n 12 (n 70 (n 12 (m 11) e) (n 147 (m 229) e)) (n 88 (n 11 (m 12) e) (n 12 (m 247) e))))))))) λa=>n a e e
def tX7(f:Nat->Nat->HN->Obj)(P:HN):HH:=Yz (λk=>.node (f (k/16) (k%16) P)) .nil
def Yy(n:Nat->HH->HH->HH)(e:HH):HH:=(λm:Nat->HH=>(n 0 (n 1 (n 259 (n 7 (n 11 (n 33 (n 50 (n 11 (m 166) (m 248)) (n 12 (m 209) e)) (n 71 (n 107 (m 12) (m 11)) (n 148 (m 230) e))) (n 11 (n 59 (n 98 (m 181) (m 258)) (n 11 (m 218) e)) (n 12 (n 119 (m 200) (m 11)) (n 11 (m 11) e)))) (n 22 (n 12 (n 11 (n 93 (m 173) (m 12)) (n 132 (m 11) e)) (n 11 (n 114 (m 194) (m 278)) (n 153 (m 11) e))) (n 12 (n 66 (n 103 (m 11) (m 11)) (n 143 (m 223) e)) (n 84 (n 11 (m 205) (m 12)) (n 12 (m 243) e))))) (n 11 (n 18 (n 34 (n 53 (n 11 (m 169) (m 250)) (n 130 (m 212) e)) (n 11 (n 110 (m 192) (m 274)) (n 150 (m 11) e))) (n 43 (n 12 (n 100 (m 11) (m 11)) (n 11 (m 12) e)) (n 82 (n 11 (m 202) (m 284)) (n 159 (m 11) e)))) (n 24 (n 38 (n 11 (n 12 (m 11) (m 11)) (n 135 (m 11) e)) (n 77 (n 116 (m 12) (m 11)) (n 11 (m 237) e))) (n 48 (n 68 (n 105 (m 187) (m 269)) (n 12 (m 227) e)) (n 87 (n 125 (m 207) (m 289)) (n 164 (m 12) e)))))) (n 5 (n 9 (n 17 (n 29 (n 51 (n 90 (m 167) (m 11)) (n 11 (m 210) e)) (n 12 (n 108 (m 11) (m 272)) (n 11 (m 12) e))) (n 42 (n 61 (n 11 (m 12) (m 22)) (n 140 (m 220) e)) (n 11 (n 12 (m 11) (m 283)) (n 158 (m 240) e)))) (n 11 (n 37 (n 56 (n 95 (m 175) (m 254)) (n 133 (m 215) e)) (n 76 (n 11 (m 196) (m 12)) (n 12 (m 235) e))) (n 11 (n 11 (n 12 (m 186) (m 267)) (n 145 (m 11) e)) (n 85 (n 124 (m 12) (m 11)) (n 11 (m 245) e))))) (n 13 (n 20 (n 35 (n 12 (n 92 (m 171) (m 252)) (n 11 (m 12) e)) (n 74 (n 12 (m 11) (m 276)) (n 151 (m 233) e))) (n 45 (n 11 (n 101 (m 184) (m 265)) (n 142 (m 11) e)) (n 11 (n 122 (m 203) (m 286)) (n 161 (m 242) e)))) (n 11 (n 40 (n 58 (n 11 (m 179) (m 256)) (n 22 (m 217) e)) (n 79 (n 117 (m 198) (m 281)) (n 156 (m 12) e))) (n 11 (n 69 (n 11 (m 189) (m 12)) (n 11 (m 228) e)) (n 12 (n 127 (m 11) e) (n 11 (m 11) e))))))) (n 2 (n 4 (n 8 (n 12 (n 28 (n 11 (n 89 (m 11) (m 249)) (n 128 (m 11) e)) (n 11 (n 11 (m 190) (m 271)) (n 149 (m 11) e))) (n 12 (n 60 (n 99 (m 11) (m 262)) (n 139 (m 219) e)) (n 80 (n 11 (m 201) (m 12)) (n 12 (m 239) e)))) (n 23 (n 36 (n 55 (n 94 (m 174) (m 253)) (n 11 (m 214) e)) (n 12 (n 115 (m 195) (m 11)) (n 11 (m 12) e))) (n 46 (n 67 (n 11 (m 12) (m 12)) (n 144 (m 224) e)) (n 11 (n 12 (m 11) (m 287)) (n 162 (m 244) e))))) (n 260 (n 19 (n 22 (n 11 (n 12 (m 170) (m 251)) (n 131 (m 11) e)) (n 73 (n 11 (m 193) (m 275)) (n 11 (m 232) e))) (n 44 (n 64 (n 11 (m 183) (m 264)) (n 12 (m 221) e)) (n 83 (n 121 (m 11) (m 285)) (n 160 (m 12) e)))) (n 25 (n 39 (n 12 (n 96 (m 12) (m 12)) (n 11 (m 12) e)) (n 78 (n 11 (m 197) (m 280)) (n 155 (m 11) e))) (n 49 (n 11 (n 106 (m 188) (m 11)) (n 146 (m 11) e)) (n 11 (n 126 (m 208) (m 290)) (n 165 (m 246) e)))))) (n 6 (n 10 (n 11 (n 30 (n 52 (n 91 (m 168) (m 12)) (n 129 (m 211) e)) (n 72 (n 109 (m 191) (m 273)) (n 12 (m 231) e))) (n 11 (n 11 (n 12 (m 182) (m 263)) (n 141 (m 11) e)) (n 81 (n 120 (m 12) (m 11)) (n 11 (m 241) e)))) (n 12 (n 11 (n 57 (n 11 (m 176) (m 255)) (n 134 (m 216) e)) (n 11 (n 12 (m 11) (m 279)) (n 154 (m 236) e))) (n 47 (n 12 (n 104 (m 11) (m 268)) (n 11 (m 12) e)) (n 86 (n 11 (m 206) (m 288)) (n 163 (m 11) e))))) (n 14 (n 21 (n 11 (n 54 (n 11 (m 261) (m 11)) (n 12 (m 213) e)) (n 75 (n 113 (m 12) (m 277)) (n 152 (m 234) e))) (n 11 (n 65 (n 102 (m 185) (m 266)) (n 11 (m 222) e)) (n 12 (n 123 (m 204) (m 11)) (n 11 (m 11) e)))) (n 26 (n 41 (n 11 (n 97 (m 180) (m 257)) (n 138 (m 11) e)) (n 11 (n 118 (m 199) (m 282)) (n 157 (m 238) e))) (n 12 (n 70 (n 12 (m 11) (m 270)) (n 147 (m 229) e)) (n 88 (n 11 (m 12) e) (n 12 (m 247) e))))))))) λa=>n a e e
def tX8(f:Nat->Nat->HN->Obj)(P:HN):HH:=Yy (λk=>.node (f (k/16) (k%16) P)) .nil
def Yx(n:Nat->HH->HH->HH)(e:HH):HH:=(λm:Nat->HH=>(n 0 (n 1 (n 291 (n 7 (n 11 (n 33 (n 50 (n 11 (n 166 (m 330) e) (m 248)) (n 12 (m 209) (m 293))) (n 71 (n 107 (m 12) (m 11)) (n 148 (m 230) (m 312)))) (n 11 (n 59 (n 98 (m 181) (m 258)) (n 11 (m 218) (m 302))) (n 12 (n 119 (m 200) (m 11)) (n 11 (m 11) (m 321))))) (n 22 (n 12 (n 11 (n 93 (n 173 (m 335) e) (m 12)) (n 132 (m 11) (m 11))) (n 11 (n 114 (m 194) (m 278)) (n 153 (m 11) (m 316)))) (n 12 (n 66 (n 103 (m 11) (m 11)) (n 143 (m 223) (m 307))) (n 84 (n 11 (m 205) (m 12)) (n 12 (m 243) (m 12)))))) (n 11 (n 18 (n 34 (n 53 (n 11 (n 169 (m 12) e) (m 250)) (n 130 (m 212) (m 296))) (n 11 (n 110 (m 192) (m 274)) (n 150 (m 11) (m 314)))) (n 43 (n 12 (n 100 (m 11) (m 11)) (n 11 (m 12) (m 12))) (n 82 (n 11 (m 202) (m 284)) (n 159 (m 11) (m 323))))) (n 24 (n 38 (n 11 (n 12 (n 11 (m 337) e) (m 11)) (n 135 (m 11) (m 11))) (n 77 (n 116 (m 12) (m 11)) (n 11 (m 237) (m 12)))) (n 48 (n 68 (n 105 (m 187) (m 269)) (n 12 (m 227) (m 309))) (n 87 (n 125 (m 207) (m 289)) (n 164 (m 12) (m 328))))))) (n 5 (n 9 (n 17 (n 29 (n 51 (n 90 (n 167 (m 332) e) (m 11)) (n 11 (m 210) (m 294))) (n 12 (n 108 (m 11) (m 272)) (n 11 (m 12) (m 12)))) (n 42 (n 61 (n 11 (m 12) (m 22)) (n 140 (m 220) (m 304))) (n 11 (n 12 (m 11) (m 283)) (n 158 (m 240) (m 11))))) (n 11 (n 37 (n 56 (n 95 (n 175 (m 11) e) (m 254)) (n 133 (m 215) (m 299))) (n 76 (n 11 (m 196) (m 12)) (n 12 (m 235) (m 318)))) (n 11 (n 11 (n 12 (m 186) (m 267)) (n 145 (m 11) (m 11))) (n 85 (n 124 (m 12) (m 11)) (n 11 (m 245) (m 11)))))) (n 13 (n 20 (n 35 (n 12 (n 92 (n 171 (m 11) e) (m 252)) (n 11 (m 12) (m 12))) (n 74 (n 12 (m 11) (m 276)) (n 151 (m 233) (m 11)))) (n 45 (n 11 (n 101 (m 184) (m 265)) (n 142 (m 11) (m 11))) (n 11 (n 122 (m 203) (m 286)) (n 161 (m 242) (m 325))))) (n 11 (n 40 (n 58 (n 11 (n 179 (m 339) e) (m 256)) (n 22 (m 217) (m 301))) (n 79 (n 117 (m 198) (m 281)) (n 156 (m 12) (m 11)))) (n 11 (n 69 (n 11 (m 189) (m 12)) (n 11 (m 228) (m 310))) (n 12 (n 127 (m 11) (m 11)) (n 11 (m 11) (m 11)))))))) (n 2 (n 4 (n 8 (n 12 (n 28 (n 11 (n 89 (n 11 (m 331) e) (m 249)) (n 128 (m 11) (m 11))) (n 11 (n 11 (m 190) (m 271)) (n 149 (m 11) (m 11)))) (n 12 (n 60 (n 99 (m 11) (m 262)) (n 139 (m 219) (m 303))) (n 80 (n 11 (m 201) (m 12)) (n 12 (m 239) (m 322))))) (n 23 (n 36 (n 55 (n 94 (n 174 (m 336) e) (m 253)) (n 11 (m 214) (m 298))) (n 12 (n 115 (m 195) (m 11)) (n 11 (m 12) (m 317)))) (n 46 (n 67 (n 11 (m 12) (m 12)) (n 144 (m 224) (m 308))) (n 11 (n 12 (m 11) (m 287)) (n 162 (m 244) (m 326)))))) (n 292 (n 19 (n 22 (n 11 (n 12 (n 170 (m 333) e) (m 251)) (n 131 (m 11) (m 11))) (n 73 (n 11 (m 193) (m 275)) (n 11 (m 232) (m 315)))) (n 44 (n 64 (n 11 (m 183) (m 264)) (n 12 (m 221) (m 305))) (n 83 (n 121 (m 11) (m 285)) (n 160 (m 12) (m 324))))) (n 25 (n 39 (n 12 (n 96 (n 12 (m 338) e) (m 12)) (n 11 (m 12) (m 12))) (n 78 (n 11 (m 197) (m 280)) (n 155 (m 11) (m 319)))) (n 49 (n 11 (n 106 (m 188) (m 11)) (n 146 (m 11) (m 11))) (n 11 (n 126 (m 208) (m 290)) (n 165 (m 246) (m 329))))))) (n 6 (n 10 (n 11 (n 30 (n 52 (n 91 (n 168 (m 11) e) (m 12)) (n 129 (m 211) (m 295))) (n 72 (n 109 (m 191) (m 273)) (n 12 (m 231) (m 313)))) (n 11 (n 11 (n 12 (m 182) (m 263)) (n 141 (m 11) (m 11))) (n 81 (n 120 (m 12) (m 11)) (n 11 (m 241) (m 12))))) (n 12 (n 11 (n 57 (n 11 (n 176 (m 12) e) (m 255)) (n 134 (m 216) (m 300))) (n 11 (n 12 (m 11) (m 279)) (n 154 (m 236) (m 11)))) (n 47 (n 12 (n 104 (m 11) (m 268)) (n 11 (m 12) (m 12))) (n 86 (n 11 (m 206) (m 288)) (n 163 (m 11) (m 327)))))) (n 14 (n 21 (n 11 (n 54 (n 11 (n 261 (m 334) e) (m 11)) (n 12 (m 213) (m 297))) (n 75 (n 113 (m 12) (m 277)) (n 152 (m 234) (m 12)))) (n 11 (n 65 (n 102 (m 185) (m 266)) (n 11 (m 222) (m 306))) (n 12 (n 123 (m 204) (m 11)) (n 11 (m 11) (m 11))))) (n 26 (n 41 (n 11 (n 97 (m 180) (m 257)) (n 138 (m 11) (m 11))) (n 11 (n 118 (m 199) (m 282)) (n 157 (m 238) (m 320)))) (n 12 (n 70 (n 12 (m 11) (m 270)) (n 147 (m 229) (m 311))) (n 88 (n 11 (m 12) (m 12)) (n 12 (m 247) (m 12)))))))))) λa=>n a e e
def tX9(f:Nat->Nat->HN->Obj)(P:HN):HH:=Yx (λk=>.node (f (k/16) (k%16) P)) .nil
def Wc(n:Nat->HH->HH->HH)(e:HH):HH:=(λm:Nat->HH=>(n 0 (n 1 (n 340 (n 7 (n 11 (n 33 (n 50 (n 11 (n 166 (m 330) e) (m 248)) (n 12 (m 209) (m 293))) (n 71 (n 107 (n 12 (m 11) e) (m 11)) (n 148 (m 230) (m 312)))) (n 11 (n 59 (n 98 (n 181 (m 12) e) (m 258)) (n 11 (m 218) (m 302))) (n 12 (n 119 (n 200 (m 360) e) (m 11)) (n 11 (m 11) (m 321))))) (n 22 (n 12 (n 11 (n 93 (n 173 (m 335) e) (m 12)) (n 132 (m 11) (m 11))) (n 11 (n 114 (n 194 (m 355) e) (m 278)) (n 153 (m 11) (m 316)))) (n 12 (n 66 (n 103 (n 11 (m 346) e) (m 11)) (n 143 (m 223) (m 307))) (n 84 (n 11 (m 205) (m 12)) (n 12 (m 243) (m 12)))))) (n 11 (n 18 (n 34 (n 53 (n 11 (n 169 (m 12) e) (m 250)) (n 130 (m 212) (m 296))) (n 11 (n 110 (n 192 (m 11) e) (m 274)) (n 150 (m 11) (m 314)))) (n 43 (n 12 (n 100 (n 11 (m 344) e) (m 11)) (n 11 (m 12) (m 12))) (n 82 (n 11 (m 202) (m 284)) (n 159 (m 11) (m 323))))) (n 24 (n 38 (n 11 (n 12 (n 11 (m 337) e) (m 11)) (n 135 (m 11) (m 11))) (n 77 (n 116 (n 12 (m 12) e) (m 11)) (n 11 (m 237) (m 12)))) (n 48 (n 68 (n 105 (n 187 (m 349) e) (m 269)) (n 12 (m 227) (m 309))) (n 87 (n 125 (m 207) (m 289)) (n 164 (m 12) (m 328))))))) (n 5 (n 9 (n 17 (n 29 (n 51 (n 90 (n 167 (m 332) e) (m 11)) (n 11 (m 210) (m 294))) (n 12 (n 108 (n 11 (m 352) e) (m 272)) (n 11 (m 12) (m 12)))) (n 42 (n 61 (n 11 (n 12 (m 11) e) (m 22)) (n 140 (m 220) (m 304))) (n 11 (n 12 (m 11) (m 283)) (n 158 (m 240) (m 11))))) (n 11 (n 37 (n 56 (n 95 (n 175 (m 11) e) (m 254)) (n 133 (m 215) (m 299))) (n 76 (n 11 (n 196 (m 357) e) (m 12)) (n 12 (m 235) (m 318)))) (n 11 (n 11 (n 12 (n 186 (m 347) e) (m 267)) (n 145 (m 11) (m 11))) (n 85 (n 124 (m 12) (m 11)) (n 11 (m 245) (m 11)))))) (n 13 (n 20 (n 35 (n 12 (n 92 (n 171 (m 11) e) (m 252)) (n 11 (m 12) (m 12))) (n 74 (n 12 (n 11 (m 354) e) (m 276)) (n 151 (m 233) (m 11)))) (n 45 (n 11 (n 101 (n 184 (m 11) e) (m 265)) (n 142 (m 11) (m 11))) (n 11 (n 122 (m 203) (m 286)) (n 161 (m 242) (m 325))))) (n 11 (n 40 (n 58 (n 11 (n 179 (m 339) e) (m 256)) (n 22 (m 217) (m 301))) (n 79 (n 117 (n 198 (m 11) e) (m 281)) (n 156 (m 12) (m 11)))) (n 11 (n 69 (n 11 (n 189 (m 12) e) (m 12)) (n 11 (m 228) (m 310))) (n 12 (n 127 (m 11) (m 11)) (n 11 (m 11) (m 11)))))))) (n 2 (n 4 (n 8 (n 12 (n 28 (n 11 (n 89 (n 11 (m 331) e) (m 249)) (n 128 (m 11) (m 11))) (n 11 (n 11 (n 190 (m 351) e) (m 271)) (n 149 (m 11) (m 11)))) (n 12 (n 60 (n 99 (n 11 (m 342) e) (m 262)) (n 139 (m 219) (m 303))) (n 80 (n 11 (n 201 (m 361) e) (m 12)) (n 12 (m 239) (m 322))))) (n 23 (n 36 (n 55 (n 94 (n 174 (m 336) e) (m 253)) (n 11 (m 214) (m 298))) (n 12 (n 115 (n 195 (m 356) e) (m 11)) (n 11 (m 12) (m 317)))) (n 46 (n 67 (n 11 (n 12 (m 11) e) (m 12)) (n 144 (m 224) (m 308))) (n 11 (n 12 (m 11) (m 287)) (n 162 (m 244) (m 326)))))) (n 341 (n 19 (n 22 (n 11 (n 12 (n 170 (m 333) e) (m 251)) (n 131 (m 11) (m 11))) (n 73 (n 11 (n 193 (m 12) e) (m 275)) (n 11 (m 232) (m 315)))) (n 44 (n 64 (n 11 (n 183 (m 345) e) (m 264)) (n 12 (m 221) (m 305))) (n 83 (n 121 (m 11) (m 285)) (n 160 (m 12) (m 324))))) (n 25 (n 39 (n 12 (n 96 (n 12 (m 338) e) (m 12)) (n 11 (m 12) (m 12))) (n 78 (n 11 (n 197 (m 358) e) (m 280)) (n 155 (m 11) (m 319)))) (n 49 (n 11 (n 106 (n 188 (m 11) e) (m 11)) (n 146 (m 11) (m 11))) (n 11 (n 126 (m 208) (m 290)) (n 165 (m 246) (m 329))))))) (n 6 (n 10 (n 11 (n 30 (n 52 (n 91 (n 168 (m 11) e) (m 12)) (n 129 (m 211) (m 295))) (n 72 (n 109 (n 191 (m 353) e) (m 273)) (n 12 (m 231) (m 313)))) (n 11 (n 11 (n 12 (n 182 (m 343) e) (m 263)) (n 141 (m 11) (m 11))) (n 81 (n 120 (m 12) (m 11)) (n 11 (m 241) (m 12))))) (n 12 (n 11 (n 57 (n 11 (n 176 (m 12) e) (m 255)) (n 134 (m 216) (m 300))) (n 11 (n 12 (n 11 (m 11) e) (m 279)) (n 154 (m 236) (m 11)))) (n 47 (n 12 (n 104 (n 11 (m 348) e) (m 268)) (n 11 (m 12) (m 12))) (n 86 (n 11 (m 206) (m 288)) (n 163 (m 11) (m 327)))))) (n 14 (n 21 (n 11 (n 54 (n 11 (n 261 (m 334) e) (m 11)) (n 12 (m 213) (m 297))) (n 75 (n 113 (n 12 (m 11) e) (m 277)) (n 152 (m 234) (m 12)))) (n 11 (n 65 (n 102 (n 185 (m 12) e) (m 266)) (n 11 (m 222) (m 306))) (n 12 (n 123 (m 204) (m 11)) (n 11 (m 11) (m 11))))) (n 26 (n 41 (n 11 (n 97 (n 180 (m 11) e) (m 257)) (n 138 (m 11) (m 11))) (n 11 (n 118 (n 199 (m 359) e) (m 282)) (n 157 (m 238) (m 320)))) (n 12 (n 70 (n 12 (n 11 (m 350) e) (m 270)) (n 147 (m 229) (m 311))) (n 88 (n 11 (m 12) (m 12)) (n 12 (m 247) (m 12)))))))))) λa=>n a e e
def tX10(f:Nat->Nat->HN->Obj)(P:HN):HH:=Wc (λk=>.node (f (k/16) (k%16) P)) .nil
def hX0(f:Nat->Nat->HN->Obj)(P:HN):r_:=(λg:Nat->Obj=>(#[⟨[g 0,g 1,g 2,g 3,g 4,g 5,g 6,g 7,g 8,g 9,g 10,g 11,g 12,g 13,g 14]⟩,{}]:r_)) λk=>f (k/16) (k%16) P
def hX1(f:Nat->Nat->HN->Obj)(P:HN):r_:=(λg:Nat->Obj=>(#[⟨[g 0,g 1,g 2,g 340,g 4,g 5,g 6,g 7,g 8,g 9,g 10,g 11,g 341,g 13,g 14,g 11,g 12,g 17,g 11,g 18,g 19,g 20,g 21,g 22,g 23,g 11,g 12,g 24,g 25,g 11,g 26,g 33,g 28,g 29,g 30,g 34,g 22,g 35,g 11,g 12,g 36,g 37,g 11,g 38,g 39,g 40,g 41,g 11,g 12,g 42,g 11,g 43,g 44,g 45,g 11,g 12,g 46,g 11,g 47,g 48,g 49,g 11,g 12,g 50,g 11,g 51,g 52,g 53,g 11,g 12,g 54,g 11,g 55,g 56,g 57,g 11,g 12,g 58,g 11,g 59,g 60,g 61,g 11,g 12,g 64,g 11,g 65,g 66,g 67,g 11,g 12,g 68,g 11,g 69,g 70,g 71,g 11,g 12,g 72,g 11,g 73,g 74,g 75,g 11,g 12,g 76,g 11,g 77,g 78,g 79,g 11,g 12,g 80,g 11,g 81,g 82,g 83,g 11,g 12,g 84,g 11,g 85,g 86,g 87,g 11,g 12,g 88,g 11,g 89,g 90,g 91,g 11,g 12,g 92,g 11,g 93,g 94,g 95,g 11,g 12,g 96,g 11,g 97,g 98,g 99,g 11,g 12,g 100,g 11,g 101,g 102,g 103,g 11,g 12,g 104,g 105,g 106,g 11,g 12,g 107,g 11,g 108,g 109,g 110,g 11,g 12,g 113,g 114,g 115,g 11,g 12,g 116,g 11,g 117,g 118,g 119,g 11,g 12,g 120,g 11,g 121,g 122,g 123,g 11,g 12,g 124,g 11,g 125,g 126,g 127,g 11,g 12,g 128,g 11,g 129,g 130,g 131,g 11,g 12,g 132,g 11,g 133,g 134,g 135,g 11,g 22,g 138,g 11,g 139,g 140,g 141,g 11,g 12,g 142,g 11,g 143,g 144,g 145,g 11,g 12,g 146,g 11,g 147,g 148,g 149,g 11,g 12,g 150,g 11,g 151,g 152,g 153,g 11,g 12,g 154,g 11,g 155,g 156,g 157,g 11,g 12,g 158,g 11,g 159,g 160,g 161,g 11,g 12,g 162,g 11,g 163,g 164,g 165,g 11,g 12,g 166,g 11,g 167,g 168,g 169,g 170,g 171,g 261,g 173,g 174,g 175,g 176,g 11,g 12,g 179,g 180,g 181,g 11,g 12,g 182,g 11,g 183,g 184,g 185,g 11,g 12,g 186,g 11,g 187,g 188,g 189,g 11,g 12,g 190,g 11,g 191,g 192,g 193,g 11,g 12,g 194,g 195,g 196,g 11,g 12,g 197,g 198,g 199,g 200,g 201,g 11,g 12,g 202,g 11,g 203,g 204,g 205,g 11,g 12,g 206,g 207,g 208,g 11,g 12,g 209,g 11,g 210,g 211,g 212,g 11,g 12,g 213,g 11,g 214,g 215,g 216,g 11,g 12,g 217,g 11,g 218,g 219,g 220,g 11,g 12,g 221,g 11,g 222,g 223,g 224,g 11,g 12,g 227,g 11,g 228,g 229,g 230,g 11,g 12,g 231,g 11,g 232,g 233,g 234,g 11,g 12,g 235,g 236,g 237,g 11,g 12,g 238,g 11,g 239,g 240,g 241,g 11,g 12,g 242,g 11,g 243,g 244,g 245,g 11,g 12,g 246,g 11,g 247,g 248,g 249,g 11,g 12,g 250,g 251,g 252,g 11,g 12,g 253,g 254,g 255,g 11,g 12,g 256,g 257,g 258,g 262,g 22,g 263,g 11,g 264,g 265,g 266,g 11,g 12,g 267,g 268,g 269,g 11,g 12,g 270,g 11,g 271,g 272,g 273,g 274,g 275,g 276,g 277,g 278,g 11,g 12,g 279,g 11,g 280,g 281,g 282,g 11,g 12,g 283,g 11,g 284,g 285,g 286,g 11,g 12,g 287,g 11,g 288,g 289,g 290,g 11,g 12,g 293,g 11,g 294,g 295,g 296,g 11,g 12,g 297,g 11,g 298,g 299,g 300,g 11,g 12,g 301,g 11,g 302,g 303,g 304,g 11,g 12,g 305,g 11,g 306,g 307,g 308,g 11,g 12,g 309,g 11,g 310,g 311,g 312,g 11,g 12,g 313,g 314,g 315,g 11,g 12,g 316,g 317,g 318,g 11,g 12,g 319,g 11,g 320,g 321,g 322,g 11,g 12,g 323,g 324,g 325,g 11,g 12,g 326,g 11,g 327,g 328,g 329,g 11,g 12,g 330,g 331,g 332,g 11,g 12,g 333,g 11,g 334,g 335,g 336,g 11,g 12,g 337,g 338,g 339,g 11,g 12,g 342,g 11,g 343,g 344,g 345,g 11,g 12,g 346,g 11,g 347,g 348,g 349,g 11,g 12,g 350,g 11,g 351,g 352,g 353,g 11,g 12,g 354,g 11,g 355,g 356,g 357,g 11,g 12,g 358,g 11,g 359,g 360,g 361]⟩,{}]:r_)) λk=>f (k/16) (k%16) P
def laid:(λ(_:HL) (_:HL) (_:Nat->Nat->HN->Obj) (_:tq) (_:tq) (_:tq) (_:tq) (_:tq) (_:tq) (_:tq) (_:tq) (_:tq) (_:tq)=>KD) pw2 vw fA sx0 sx1 sx2 sx3 sx4 sx5 sx6 sx7 sx8 sx9=KD:=by k_qdec
end QQ
namespace PySem.W.Fast
def tw16018305064033737724:HL:=tw4061903402435717205
theorem te16018305064033737724:Ip=tw16018305064033737724:=Eq.trans (by kernel_rfl:Ip=QQ.pw2) te4061903402435717205
def tw11494920736846983604:HL:=tw2543460329597916322
theorem te11494920736846983604:QQ.vw=tw11494920736846983604:=te2543460329597916322
def tw13169783875021743120:tq:=tw4220349153739756805
theorem te13169783875021743120:QQ.sx0=tw13169783875021743120:=te4220349153739756805
def tw7256598679529932392:tq:=tw11397161696757032129
theorem te7256598679529932392:QQ.sx1=tw7256598679529932392:=te11397161696757032129
def tw17617711857463645040:tq:=tw10303515436491237874
theorem te17617711857463645040:QQ.sx2=tw17617711857463645040:=te10303515436491237874
def tw3657434119947367475:tq:=tw12358083906500975388
theorem te3657434119947367475:QQ.sx3=tw3657434119947367475:=te12358083906500975388
def tw9125293189090304483:tq:=tw2861187580803015100
theorem te9125293189090304483:QQ.sx4=tw9125293189090304483:=te2861187580803015100
def tw11980027807785605870:tq:=tw9932084693255007381
theorem te11980027807785605870:QQ.sx5=tw11980027807785605870:=te9932084693255007381
def tw12164029899069087760:tq:=tw1890974291257386441
theorem te12164029899069087760:QQ.sx6=tw12164029899069087760:=te1890974291257386441
def tw16273632519200725809:tq:=tw11967835380637100291
theorem te16273632519200725809:QQ.sx7=tw16273632519200725809:=te11967835380637100291
def tw8938668655869406815:tq:=tw17779941298030502338
theorem te8938668655869406815:QQ.sx8=tw8938668655869406815:=te17779941298030502338
def tw292281799764723224:tq:=tw17991644005593546017
theorem te292281799764723224:QQ.sx9=tw292281799764723224:=te17991644005593546017
def tw12867994254990540035:HN->BT:=QQ.tX0 tw16523235828492288951
theorem te12867994254990540035:QQ.tX0 QQ.fA=tw12867994254990540035:=congrArg QQ.tX0 te16523235828492288951
def tw6586493804627349573:HN->BT:=QQ.tX1 tw16523235828492288951
theorem te6586493804627349573:QQ.tX1 QQ.fA=tw6586493804627349573:=congrArg QQ.tX1 te16523235828492288951
def tw11680973135995681065:HN->BT:=QQ.tX2 tw16523235828492288951
theorem te11680973135995681065:QQ.tX2 QQ.fA=tw11680973135995681065:=congrArg QQ.tX2 te16523235828492288951
def tw10235188918833042396:HN->BT:=QQ.tX3 tw16523235828492288951
theorem te10235188918833042396:QQ.tX3 QQ.fA=tw10235188918833042396:=congrArg QQ.tX3 te16523235828492288951
def tw10089059231484842585:HN->BT:=QQ.tX4 tw16523235828492288951
theorem te10089059231484842585:QQ.tX4 QQ.fA=tw10089059231484842585:=congrArg QQ.tX4 te16523235828492288951
def tw10567159180875175554:HN->BT:=QQ.tX5 tw16523235828492288951
theorem te10567159180875175554:QQ.tX5 QQ.fA=tw10567159180875175554:=congrArg QQ.tX5 te16523235828492288951
def tw859226227218875507:HN->BT:=QQ.tX6 tw16523235828492288951
theorem te859226227218875507:QQ.tX6 QQ.fA=tw859226227218875507:=congrArg QQ.tX6 te16523235828492288951
def tw16662325264543950522:HN->BT:=QQ.tX7 tw16523235828492288951
theorem te16662325264543950522:QQ.tX7 QQ.fA=tw16662325264543950522:=congrArg QQ.tX7 te16523235828492288951
def tw16614617733323054446:HN->BT:=QQ.tX8 tw16523235828492288951
theorem te16614617733323054446:QQ.tX8 QQ.fA=tw16614617733323054446:=congrArg QQ.tX8 te16523235828492288951
def tw9736487225836578650:HN->BT:=QQ.tX9 tw16523235828492288951
theorem te9736487225836578650:QQ.tX9 QQ.fA=tw9736487225836578650:=congrArg QQ.tX9 te16523235828492288951
def tw5457214168108529620:HN->BT:=QQ.tX10 tw16523235828492288951
theorem te5457214168108529620:QQ.tX10 QQ.fA=tw5457214168108529620:=congrArg QQ.tX10 te16523235828492288951
def tw10217482789629903633:HN->PySem.Heap:=QQ.hX0 tw16523235828492288951
theorem te10217482789629903633:QQ.hX0 QQ.fA=tw10217482789629903633:=congrArg QQ.hX0 te16523235828492288951
def tw2308942723508747852:HN->PySem.Heap:=QQ.hX1 tw16523235828492288951
theorem te2308942723508747852:QQ.hX1 QQ.fA=tw2308942723508747852:=congrArg QQ.hX1 te16523235828492288951
end PySem.W.Fast
end
open PySem PySem.W PyProof.Rows
set_option maxRecDepth 100000 in
set_option maxHeartbeats 0 in
theorem PySem.Challenge.cw_spotlook_k47_looks_that_hold_holds : PySem.Challenge.rw_spotlook_k47_looks_that_hold.Holds := by
 w_on;o_law;o_head (PySem.W.kmHook QQ.kK [!2,!3,!4,!20,!21,!30,!31,!43,!44,!52,!53,!59,!60,!66,!67,!73,!74,!80,!81,!87,!88,!94,!95,!101,!102,!108,!109,!115,!116,!122,!123,!129,!130,!136,!137,!143,!144,!150,!151,!155,!156,!162,!163,!167,!168,!174,!175,!181,!182,!188,!189,!195,!196,!202,!203,!216,!217,!223,!224,!230,!231,!237,!238,!244,!245,!251,!252,!258,!259,!261,!262,!270,!271,!277,!278,!284,!285,!291,!292,!296,!297,!303,!304,!310,!311,!315,!316,!322,!323,!329,!330,!336,!337,!343,!344,!350,!351,!357,!358,!362,!363,!369,!370,!376,!377,!383,!384,!388,!389,!393,!394,!398,!399,!410,!411,!417,!418,!420,!421,!429,!430,!436,!437,!443,!444,!450,!451,!457,!458,!464,!465,!471,!472,!478,!479,!483,!484,!488,!489,!495,!496,!500,!501,!507,!508,!512,!513,!519,!520,!524,!525,!531,!532,!538,!539,!545,!546,!552,!553,!559,!560] (λ_=>by kernel_rfl) [299]);(case hw=>w_witness2)
 k_fill
 refine SD.vf (Pt:=299) (c0:=303) (k:=13) (x:="_law_script") (sp:=QQ.kD) (l:=PySem.Challenge.rw_spotlook_k47_looks_that_hold) rfl rfl #[8,⋯,⋯,rfl] (λw h Y=>PySem.W.km_in_of Y) (λw h Y=>PySem.W.km_tabs_of Y _ (_)) (λw=>by kernel_rfl) (λw=>by kernel_rfl) ?F QQ.DO
 case F=>
  intro w mg fa h KX G hmg
  let fc_lowest_first:SD.vF (L2.KOf KX) mg "lowest_first" QQ.bQ 303:=by
   dsimp only[L2.KOf]
   refine' SD.vF.mk KX G ?a ?l ?c ?k
   (case a=>k_is);(case l=>k_is);(case c=>k_is);(case k=>k_is)
  let lm:SD.Mk (L2.KOf KX) mg 303 299:=by
   dsimp only[L2.KOf]
   refine' SD.EH KX G (by kernel_rfl) ?a ?l ?b ?c ?d ?e ?f
   (case a=>k_is);(case l=>k_is);(case b=>decide);(case c=>decide);(case d=>rfl);(case e=>rfl);(case f=>rfl)
  let rf:SD.pH (L2.KOf KX) (SD.cl (L2.KOf KX) "Steps") "side_at" "Way.side_at" QQ.fR:=by
   dsimp only[L2.KOf]
   refine' SD.pH.mk ?a ?b ?e ?l ?d ?k
   (case a=>k_is);(case b=>k_is);(case e=>k_is);(case l=>k_is);(case d=>k_is);(case k=>k_is)
  let ri:SD.pH (L2.KOf KX) (SD.cl (L2.KOf KX) "Steps") "looks" "Way.looks" QQ.gU:=by
   dsimp only[L2.KOf]
   refine' SD.pH.mk ?a ?b ?e ?l ?d ?k
   (case a=>k_is);(case b=>k_is);(case e=>k_is);(case l=>k_is);(case d=>k_is);(case k=>k_is)
  let ro:SD.wb (L2.KOf KX) mg "Way" "__init__" "Way.__init__" QQ.eU:=by
   dsimp only[L2.KOf]
   refine' SD.wb.mk KX G ?a ?b ?e ?r ?l ?d ?k
   (case a=>k_is);(case b=>k_is);(case e=>k_is);(case r=>k_is);(case l=>k_is);(case d=>k_is);(case k=>k_is)
  let ry:SD.oA (L2.KOf KX) mg "Steps" (SD.cl (L2.KOf KX) "Steps") "Steps.__init__" QQ.dF:=by
   dsimp only[L2.KOf]
   refine' SD.oA.mk KX G ?a ?m ?b ?e ?kc ?l ?d ?k
   (case a=>k_is);(case m=>k_is);(case b=>k_is);(case e=>k_is);(case kc=>k_is);(case l=>k_is);(case d=>k_is);(case k=>k_is)
  let cl_Steps:L2.Cls (L2.KOf KX) (SD.cl (L2.KOf KX) "Steps"):=by
   dsimp only[L2.KOf]
   refine' SD.D0 ?a ?pg ?hd ?po ?sa
   (case a=>k_is);(case pg=>k_is);(case hd=>k_is);(case po=>k_is);(case sa=>k_is)
  refine QQ.FO ⟨?_,?_,?_,?_,?_,?_,?_,?_,?_,?_,?_,?_,?_,?_,?_,?_,?_,?_,?_,?_,?_,?_,?_,?_,?_,?_,?_,?_,?_,?_,?_,?_,?_,?_,?_,?_,?_,?_,?_,?_,?_,?_,?_,?_,?_,?_,?_,?_,?_,?_,?_,?_,?_,?_,?_,?_,?_,?_,?_,?_,?_,?_,?_,?_,?_,fc_lowest_first,lm,?_,?_,?_,?_,?_,?_,?_,?_,?_,?_,?_,?_,?_,?_,rf,ri,ro,ry,cl_Steps,?_,?_,?_,?_,?_⟩ hmg
  all_goals first|((try dsimp only[L2.KOf]);refine' SD.Txt.mk KX G ?a ?l ?c ?k;(case a=>k_is);(case l=>k_is);(case c=>k_is);(case k=>k_is))|(refine' IF KX G ?a;(case a=>k_is))|((try dsimp only[L2.KOf]);refine' SD.qk ?a ?h;(case a=>k_is);(case h=>k_is))
