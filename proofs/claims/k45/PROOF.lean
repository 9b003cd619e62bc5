import PyProof.Rows.All
import Wide.All
import OpenK.AllK
import Wide.FinOn
import Lean
import PyProof.EqAt
import PyProof.EqKinds
import PyProof.TupleCall
import PySem.Challenge.RW_spotlook_k45_fewest_refused
noncomputable section
set_option compiler.extract_closed false
set_option genInjectivity false
set_option genSizeOf false
local macro_rules|`(#[$xs,*])=>do
  let a:=xs.getElems
  if a.size<2 then Lean.Macro.throwUnsupported
  let mut r:Array Lean.Term:=#[]
  for x in a do
    match x with
    |`(7)=>r:=(r.push (← `(_))).push (← `(rfl))
    |`(8)=>r:=r.push (← `(rfl))
    |_=>r:=r.push x
  `(⟨$r,*⟩)
local macro_rules|`(tactic|let [$xs,*]:=$e)=>do
  let r←xs.getElems.mapM fun x=>match x with
    |`(_)=>`(Lean.Parser.Tactic.rcasesPatLo|_)
    |`(8)=>`(Lean.Parser.Tactic.rcasesPatLo|$(Lean.mkIdent `rfl):ident)
    |`($i:ident)=>`(Lean.Parser.Tactic.rcasesPatLo|$i:ident)
    |_=>Lean.Macro.throwUnsupported
  `(tactic|obtain ⟨$r,*⟩:=$e)
local macro_rules|`(tactic|exists $xs,*)=>do
  let r:=xs.getElems.push (← `(?_))
  `(tactic|refine #[$r,*])
local macro_rules|`(def $n $s:optDeclSig $v:declVal)=>`(noncomputable def $n $s:optDeclSig $v)
local macro_rules|`((_))=>`(by simp)
local macro_rules|`(tactic|let $x:ident : $t := $e)=>`(tactic|have $x:ident : $t := $e)|`(tactic|let $x:ident := $e)=>`(tactic|have $x:ident := $e)
local macro_rules|`(def $n:declId $[$b:bracketedBinder]* : $t := by $s)=>`(theorem $n:declId $[$b:bracketedBinder]* : $t := by $s)
open Option renaming some->MW
open Option renaming none->MX
open Bool renaming true->MY
open Bool renaming false->MZ
theorem NA{c:Prop}{d:Decidable c}(h:¬c){a:Sort _}{x y:a}:(if c then x else y)=y:=if_neg h
theorem NB{c:Prop}{d:Decidable c}(h:c){a:Sort _}{x y:a}:(if c then x else y)=x:=if_pos h
theorem NC{p:Prop}[Decidable p](h:¬p):decide p=false:=decide_eq_false h
theorem ND{p:Prop}[Decidable p](h:p):decide p=true:=decide_eq_true h
theorem NF{p:Prop}[Decidable p](h:decide p=true):p:=of_decide_eq_true h
theorem NG{p q:Prop}{_:Decidable p}{_:Decidable q}:(decide p=decide q)=(p↔q):=propext decide_eq_decide
theorem NH{p:Prop}[Decidable p]:(decide p=true)=p:=decide_eq_true_eq
local macro_rules|`(())=>`(by omega)
local macro_rules|`(‹$x›)=>`(by simpa using $x)
local macro_rules|`(⋯)=>`(by first|decide|walk_at "sc")
local macro_rules | `(tactic| omega) => `(tactic| lia)
open Array renaming length_toList->JG,getElem?_eq_getElem->JT,getElem?_toList->JX,forIn_toList->Ly,getElem?_eq_none->Mn,getElem?_eq_some_iff->Mu
open Bool renaming false_eq_true->JD,false_ne_true->JO,and_eq_true->Kq,not_true->KD,eq_iff_iff->Mh
open False renaming elim->JK
open ForInStep renaming yield->Mf
open Int renaming sign->KG,toNat_natCast->Lf,sign_eq_neg_one_of_neg->Lj,sign_eq_one_of_pos->Lk,mul_pos->LU,lt_trichotomy->LX,ofNat->MR
open LawfulMonad renaming pure_bind->Lb,bind_assoc->MK
open List renaming length_map->J7,map_cons->J9,getElem?_eq_some_iff->Jp,size_toArray->Jw,toArray->Jy,getElem?_eq_getElem->JB,mem_cons_of_mem->JC,length_cons->JE,getElem?_map->JI,mem_append_right->JL,range->JM,mem_of_getElem?->JN,find?_cons->JS,mem_cons->JU,mem_cons_self->JW,mem_map->JZ,getElem?_append_right->K4,mem_append->K5,getElem?_append_left->K7,pairwise_iff_getElem->Kd,mem_filter->Ke,length_append->Ki,map_append->Kr,lookup_cons->Kw,mem_range->KI,append_nil->KP,length_eq_zero_iff->KR,map_nil->L7,take_of_length_le->L8,mem_singleton->L9,length_take->La,getElem_mem->Lc,filterMap_cons->Ll,length_filter_le->Lp,map_map->Lr,map->LG,map_congr_left->LJ,any_cons->LP,lookup->LQ,pairwise_map->LY,nodup_cons->Md,length_nil->Me,forIn_cons->Mg,countP_eq_length_filter->Mi,getElem_of_mem->Mj,any_eq_true->Mq,forIn_nil->Ms,take_append_drop->Mv,length_range->MG
open Nat renaming le_refl->Jo,lt_of_lt_of_le->JF,ne_of_lt->JH,le_trans->K0,zero_le->Kh,lt_succ_of_lt->KL,lt_irrefl->KS,le_of_lt->Mm,le_succ->MC,pow_le_pow_right->MD,lt_trichotomy->ME
open Option renaming map_eq_some_iff->LH
open PyProof.Rows renaming seqObj->K9,slot_tuple_getitem->KO,IntsAre->L6,callWith_type1->LA,envOfC->MT
open PySem renaming wpAny_bind->J0,Value->J3,Shared->J4,wpAny_pure->J5,wpAny->Jq,model->Ju,Program->Jv,wpAny_mono->Jx,starEach->Jz,Params->JA,sizeLine->JJ,World->JP,Around->JQ,mainGlobals->JR,mem_of_lookup->K1,foldedSetIterable->K6,compareOp->K8,wpAny_newObj_type->Kf,SetTable->Kg,bootBuiltins->Kk,wpAny_holding->Kl,sizeLine_eq->Ku,cLine->Ky,DictEntry->KH,wpAny_standAt->KN,wpAny_call_entry->KQ,codeAny->L5,Spec->Ld,wpAny_truthy_bool->Le,backTo->Lh,cellsFrom->Lo,Scope->Lq,assignEach->Lv,rawInt->Lw,wpAny_Call_Name_kw->Lx,wpAny_callSpecial?_slot->Lz,attributeBase->LB,intKind->LC,Builtin->LD,letOwnedTupleGo->LK,sysModules->LL,NameKind->LR,wpAny_typeNameOfWhole_keyiter->LV,swapsWith->LW,Paired->Ml,wpAny_isInstance->Mp,wpAny_askSetting->Mr,wpAny_passesOwn->Mw,binaryOp->Mz,FuncData->MA,codeAny_mono->MB,codeAny_call_builtin->MF,behindInMarks->MI,standAt->ML,bindArgs->MM,PyData->MN,newFunctionEnv->MP,wpAny_seqItems->MQ,pyNext->MU,Addr->k_,Stmt->lb,Heap->lj,Expr->l_
open PySem.Builtin.ObjectAttr renaming storeInDict->LM
open PySem.Challenge renaming pw_spotlook_k45_fewest_refused->Ka
open PySem.F renaming slot_dict_keyiterator_next->Ls
open PySem.Heap renaming get?_push_of_some->J6,lt_size->Js,get?_push_size->Jt,get?_update_other->Kn,get?_update_self->KC,size_push->Li,SameBut->LN
open PySem.NameKind renaming free->Mo
open PySem.Obj renaming mapSeq->Kt,data_mapFields->Mt
open PySem.PassesOwn renaming never->Ks
open PySem.PyData renaming eqv->KA,eqvAll->KU,canLayAll0->KW,depthAll->My
open PySem.SetTable renaming insertAt->KY
open PySem.Str renaming ofString->Km
open PySem.Value renaming ref->JV,int->KZ,none->Lg,builtin->LO,type->MS
open PySem.W renaming Frag->J1,BT->Jr,kitOne->JY,nsIn->Kb,subIn->Kc,mg_none_of->Kj,findIn->Ko,fnOf->Kp,keepIn->Kz,hasDictIn->KJ,emptyDict->Ln,kla_obj->Lu,codeIn->LS,instObj->LZ,kia_one->Mx,excIn->MJ,Looks->MV
open True renaming intro->Lm
local macro_rules | `(↑$n:num) => `(nat_lit $n)
local macro_rules | `(!$n:num) => `(nat_lit $n)
set_option Elab.async false
set_option linter.all false
set_option maxRecDepth 100000
set_option maxHeartbeats 4000000
set_option allowUnsafeReducibility true
abbrev PySem.Shared.z(s:PySem.Shared):=s.heap.objs.size
abbrev _root_.nq:=Nat->Int
abbrev _root_.nj:=List PySem.Str
abbrev _root_.m_:=List k_
abbrev _root_.m3:=List l_
abbrev _root_.mv:=List lb
abbrev _root_.mu:=Option Int
abbrev _root_.ml:=List Int
abbrev _root_.ma:=List Nat
abbrev _root_.l':=List (k_×PySem.Obj)
theorem Ng{n m:Nat}(h:Nat.ble n m=MY):n<=m:=Nat.le_of_ble_eq_true h
namespace L2
open PySem PySem.Spec PyProof.Rows
abbrev Key:=Sum Int Str
def CM:Key->J3->Bool
 |.inl k,v=>Value.isInt k v
 |.inr x,v=>Value.isStrOf x v
def IA(w:JP):Key->Int
 |.inl k=>hashInt k
 |.inr x=>hashStr w x
theorem bA:∀{k:Key}{v:J3},CM k v=MY->(∃i t,k=Sum.inl i/\v=KZ i t)\/(∃x t,k=Sum.inr x/\v=Value.str x t)
 |.inl i,v,h=>by
  let[t,e]:=Value.isInt_shape (k:=i) (v:=v) h
  exact .inl #[i,t,8,e]
 |.inr x,v,h=>by
  let[t,e]:=Value.isStrOf_shape (x:=x) (v:=v) h
  exact .inr #[x,t,8,e]
def D7(a b:Int):decide ((Sum.inl a:Key)=Sum.inl b)=(a==b):=by
 by_cases e:a=b
 .subst e;simp
 .have h:¬(Sum.inl a:Key)=Sum.inl b:=λq=>e (Sum.inl.inj q);rw[NC h];exact(beq_eq_false_iff_ne.mpr e).symm
def Em(a b:Str):decide ((Sum.inr a:Key)=Sum.inr b)=decide (a=b):=by
 by_cases e:a=b
 .subst e;simp
 .have h:¬(Sum.inr a:Key)=Sum.inr b:=λq=>e (Sum.inr.inj q);rw[NC h,NC e]
theorem D0(a:Int)(b:Str):decide ((Sum.inl a:Key)=Sum.inr b)=MZ:=NC (λq=>nomatch q)
theorem FF(a:Str)(b:Int):decide ((Sum.inr a:Key)=Sum.inl b)=MZ:=NC (λq=>nomatch q)
def oU(prog:Jv)(w:JP):PySem.KeyKind prog w Key where
 is:=CM
 hash:=IA w
 inj:=λv a b ha d=>by
  rcases bA ha with⟨i,t,rfl,rfl⟩|⟨x,t,rfl,rfl⟩
  .rcases bA d with⟨j,u,rfl,e⟩|⟨y,u,rfl,e⟩
   .injection e with e1 _;rw[e1]
   .exact nomatch e
  .rcases bA d with⟨j,u,rfl,e⟩|⟨y,u,rfl,e⟩
   .exact nomatch e
   .injection e with e1 _;rw[e1]
 byValue:=λk v h=>by
  rcases bA h with⟨i,t,rfl,rfl⟩|⟨x,t,rfl,rfl⟩<;>rfl
 pyHash:=λc h=>by
  rcases bA c with⟨i,t,rfl,rfl⟩|⟨x,t,rfl,rfl⟩
  .exact wpAny_pyHash_int h
  .exact wpAny_pyHash_str h
 eqBool:=λf c h=>by
  rcases bA f with⟨i,t,rfl,rfl⟩|⟨x,t,rfl,rfl⟩
  .rcases bA c with⟨j,u,rfl,rfl⟩|⟨y,u,rfl,rfl⟩
   .rw[D7]at h;exact wpAny_eqBool_int h
   .rw[D0]at h;exact SeqAt.EqAt.int_str i t y u _ _ _ _ h
  .rcases bA c with⟨j,u,rfl,rfl⟩|⟨y,u,rfl,rfl⟩
   .rw[FF]at h;exact SeqAt.EqAt.str_int x t j u _ _ _ _ h
   .rw[Em]at h;exact wpAny_eqBool_str h
 «strs»:=λk x t v h=>by
  rcases bA h with⟨i,u,rfl,e⟩|⟨y,u,rfl,e⟩
  .exact nomatch e
  .injection e with e1 _
   subst e1
   cases v<;>rfl
inductive V where
 |non|bl (b:Bool)|int (i:Int)|str (x:Str)|byt (b:Array UInt8)|flt (b:UInt64)|ref (a:k_)|ty (n:String)
 deriving DecidableEq
abbrev _root_.n7:=List V
def RelV:V->J3->Prop
 |.non,u=>u=Lg
 |.bl b,u=>u=Value.bool b
 |.int i,u=>∃t,u=KZ i t
 |.str x,u=>∃t,u=Value.str x t
 |.byt b,u=>∃t,u=Value.bytes b t
 |.flt b,u=>∃t,u=Value.float b t
 |.ref a,u=>u=JV a
 |.ty n,u=>u=MS n
abbrev Vals:n7->List J3->Prop:=Ml RelV
theorem Vals.length{xs:n7}{us:List J3}(r:Vals xs us):xs.length=us.length:=Paired.length r
theorem Vals.get:∀{xs:n7}{us:List J3}{i:Nat}{x:V},Vals xs us->xs[i]?=MW x->∃u,us[i]?=MW u/\RelV x u
 |_,_,_,_,.nil,e=>by simp at e
 |_,_,0,_,.cons r _,e=>by simp at e;subst e;exact #[7,r]
 |_,_,i+1,x,.cons _ t,e=>by
  let[u,h1,h2]:=Vals.get (i:=i) (x:=x) t ‹e›
  exact #[u,‹h1›,h2]
theorem Vals.set{x:V}{u:J3}(r:RelV x u):∀{xs:n7}{us:List J3}(i:Nat),Vals xs us->Vals (xs.set i x) (us.set i u)
 |_,_,_,.nil=>.nil
 |_,_,0,.cons _ t=>.cons r t
 |_,_,i+1,.cons q t=>.cons q (Vals.set r i t)
def Vals.append:∀{xs a:n7}{us ws:List J3},Vals xs us->Vals a ws->Vals (xs++a) (us++ws):=by
 intro xs a us ws h s
 induction h with
 |nil=>exact s
 |cons r t b=>exact .cons r b
theorem Vals.take:∀{xs:n7}{us:List J3}(n:Nat),Vals xs us->Vals (xs.take n) (us.take n)
 |_,_,0,_=>.nil
 |_,_,_+1,.nil=>.nil
 |_,_,n+1,.cons r t=>.cons r (Vals.take n t)
theorem Vals.drop:∀{xs:n7}{us:List J3}(n:Nat),Vals xs us->Vals (xs.drop n) (us.drop n)
 |_,_,0,r=>r
 |_,_,_+1,.nil=>.nil
 |_,_,n+1,.cons _ t=>Vals.drop n t
def iU:Option V->Option J3->Prop
 |some v,MW u=>RelV v u
 |none,MX=>True
 |_,_=>False
def KV{κ:Type}:List (κ×V)->List (κ×J3)->Prop:=Ml λ(p:κ×V) (q:κ×J3)=>p.1=q.1/\RelV p.2 q.2
def kV:Key->V
 |.inl i=>.int i
 |.inr x=>.str x
inductive HO where
 |lst (xs:n7)
 |tup (xs:n7)
 |dK (kvs:List (Key×V))|dT (kvs:List (List Key×V))
 |set (S:Int->Bool) (n:Nat)
 |ins (C dx:k_) (fs:List (Str×V))
 |own (x:k_)
 |xd (fs:List (Str×V))
 |met (f x:k_)
 |rng (lo hi:Int)
 |frz (o:Obj) (u:HO)
 |tbl (ps:Array J3)
 |ext (φ:lj->Prop)
abbrev Hp:=k_->Option HO
def upd(H:Hp)(a:k_)(o:HO):Hp:=λb=>if b=a then MW o else H b
def az{H:Hp}{a:k_}{o:HO}:upd H a o a=MW o:=by unfold upd;rw[NB rfl]
def ay{H:Hp}{a b:k_}{o:HO}(h:b≠a):upd H a o b=H b:=by unfold upd;rw[NA h]
def Ca{H:Hp}{a:k_}{o u:HO}:upd (upd H a o) a u=upd H a u:=by funext b;unfold upd;split<;>rfl
def dJ{H:Hp}{a b:k_}{o:HO}(h:H a=MW o)(h':H b=MX):a≠b:=by intro e;subst e;rw[h]at h';cases h'
section
variable(P:Jv)(w:JP)
def Ry(h:lj)(a:k_):Prop:=∃o,h.get? a=MW o/\o.dict=MX
theorem Ry.new(h:lj)(u:Array J3):Ry (h.push { cls:=.type "tuple",data:=.seq u }) h.objs.size:=#[_,Jt _ rfl,rfl]
def bB(H:Hp)(h:lj)(a:k_):HO->Prop
 |.lst xs=>xs.length<=JJ/\∃(b:List J3) (n:Nat),Vals xs b/\h.get? a=MW { cls:=.type "list",data:=.seq b.toArray n }
 |.tup xs=>xs.length<=JJ/\∃b:List J3,Vals xs b/\IsTup h a b.toArray/\Ry h a
 |.dK kvs=>kvs.length<=JJ/\(a==LL)=MZ/\∃vs,KV kvs vs/\h.DictOf (oU P w) a vs
 |.dT kvs=>kvs.length<=JJ/\(a==LL)=MZ/\∃xs:List (List Key×k_×J3),
  Ml (λ(p:List Key×V) (q:List Key×k_×J3)=>p.1=q.1/\H q.2.1=MW (.tup (p.1.map kV))/\RelV p.2 q.2.2) kvs xs/\
  ∃o es ep,h.get? a=MW o/\o.ExactDict/\o.data=.dict es ep/\es.toList=xs.map (entryOfKey (tupleKind (oU P w)))/\(xs.map (·.1)).Nodup
 |.set S n=>h.SetOf (LC P w) a S n
 |.ins C c fs=>H c=MW (.own a)/\fs.length<=1000/\c≠a/\h.get? a=MW (LZ C c)/\
  ∃mA,h.Ns1 c mA/\(∀f,iU (fs.lookup f) (mA f))/\PySem.Within mA (fs.map (·.1))
 |.own _=>∃o,h.get? a=MW o
 |.xd fs=>∃mA,h.Ns1 a mA/\∀f,iU (fs.lookup f) (mA f)
 |.rng lo hi=>∃t u v,h.get? a=MW { cls:=.type "range",data:=.fields (List.toArray [.int lo t,.int hi u,.int 1 v]) }
 |.frz o u=>h.get? a=MW o/\bB H h a u
 |.tbl ps=>h.get? a=MW { cls:=.none,data:=.fields ps }
 |.met f x=>h.get? a=MW (PySem.W.methodObj (.ref f) (.ref x))
 |.ext d=>d h/\(∃o,h.get? a=MW o)/\∀h1 h2:lj,d h1->(∀o,h1.get? a=MW o->h2.get? a=MW o)->d h2
def O8(H:Hp)(h:lj):Prop:=∀a o,H a=MW o->bB P w H h a o
end
section
variable{P:Jv}{w:JP}{H H':Hp}{h h':lj}{a:k_}{o:HO}
def bB.lt(x:bB P w H h a o):a<h.objs.size:=by
 cases o with
 |lst xs=>let[_,_,_,_,e]:=x;exact Js e
 |tup xs=>let[_,_,_,p,_]:=x;exact p.lt
 |dK kvs=>let[_,_,_,_,o,_,_,e,_]:=x;exact Js e
 |dT kvs=>let[_,_,_,_,o,_,_,e,_]:=x;exact Js e
 |set S n=>let[o,_,_,_,e,_]:=x;exact Js e
 |ins C b fs=>let[_,_,_,e,_]:=x;exact Js e
 |own y=>let[_,e]:=x;exact Js e
 |xd fs=>obtain⟨_,⟨_,_,_,e,_⟩,_⟩:=x;exact Js e
 |rng lo hi=>let[_,_,_,e]:=x;exact Js e
 |frz ob u=>let[e,_]:=x;exact Js e
 |tbl ps=>exact Js (show h.get? a=MW _ from x)
 |met f y=>exact Js (show h.get? a=MW _ from x)
 |ext c=>obtain⟨_,⟨_,e⟩,_⟩:=x;exact Js e
def Paired.Jl{c d:Type}{F G:c->d->Prop}:∀{l₁:List c}{l₂:List d},Ml F l₁ l₂->(∀a b,F a b->G a b)->Ml G l₁ l₂:=by
 intro l₁ l₂ h f
 induction h with
 |nil=>exact .nil
 |cons r t e=>exact .cons (f _ _ r) e
def bB.dg(x:bB P w H h a o)(k:∀b u,(b=a\/H b=MW (.own a))->h.get? b=MW u->h'.get? b=MW u) (i:∀b,H b=MW (.own a)->H' b=MW (.own a)) (ht:∀b xs,H b=MW (.tup xs)->H' b=MW (.tup xs)):bB P w H' h' a o:=by
 induction o with
 |lst xs=>let[z,g,n,r,e]:=x;exact #[z,g,n,r,k _ _ (.inl rfl) e]
 |tup xs=>obtain⟨z,g,r,⟨ob,e,c⟩,j,e2,l⟩:=x;exact #[z,g,r,#[ob,k _ _ (.inl rfl) e,c],j,k _ _ (.inl rfl) e2,l]
 |dK kvs=>let[z,y,vs,r,ob,es,ep,e,c]:=x;exact #[z,y,vs,r,ob,es,ep,k _ _ (.inl rfl) e,c]
 |dT kvs=>
  let[z,y,xs,r,ob,es,ep,e,c]:=x
  exact #[z,y,xs,Paired.Jl r λp q z=>#[z.1,ht _ _ z.2.1,z.2.2],ob,es,ep,k _ _ (.inl rfl) e,c]
 |set S n=>let[ob,es,ep,t,e,c]:=x;exact #[ob,es,ep,t,k _ _ (.inl rfl) e,c]
 |ins C s fs=>
  obtain⟨d,z,ne,e,mA,⟨od,es,ep,e2,c⟩,r⟩:=x
  exact #[i _ d,z,ne,k _ _ (.inl rfl) e,mA,#[od,es,ep,k _ _ (.inr d) e2,c],r]
 |own y=>let[ob,e]:=x;exact #[ob,k _ _ (.inl rfl) e]
 |xd fs=>obtain⟨mA,⟨od,es,ep,e,c⟩,r⟩:=x;exact #[mA,#[od,es,ep,k _ _ (.inl rfl) e,c],r]
 |rng lo hi=>let[t,u,v,e]:=x;exact #[t,u,v,k _ _ (.inl rfl) e]
 |frz ob u m=>let[e,q]:=x;exact #[k _ _ (.inl rfl) e,m q]
 |tbl ps=>
  let e:h.get? a=MW { cls:=.none,data:=.fields ps }:=x
  show h'.get? a=MW { cls:=.none,data:=.fields ps }
  exact k a _ (.inl rfl) e
 |met f y=>
  let e:h.get? a=MW (PySem.W.methodObj (.ref f) (.ref y)):=x
  show h'.get? a=MW (PySem.W.methodObj (.ref f) (.ref y))
  exact k a _ (.inl rfl) e
 |ext A=>obtain⟨p,⟨o,e⟩,st⟩:=x;exact #[st _ _ p λo q=>k _ _ (.inl rfl) q,#[o,k _ _ (.inl rfl) e],st]
theorem O8.lt(x:O8 P w H h)(e:H a=MW o):a<h.objs.size:=(x a o e).lt
def O8.fresh(x:O8 P w H h)(e:h.objs.size<=a):H a=MX:=by
 cases q:H a with
 |none=>rfl
 |some u=>exact absurd (JF (x.lt q) e) (KS _)
theorem O8.kept(x:O8 P w H h)(k:∀b u,h.get? b=MW u->h'.get? b=MW u):O8 P w H h':=λa o e=>(x a o e).dg (λb u _ q=>k b u q) (λ_ q=>q) λ_ _ q=>q
theorem O8.laid(x:O8 P w H h)(k:∀b u,h.get? b=MW u->h'.get? b=MW u)(g:h.objs.size<=a)(new:bB P w (upd H a o) h' a o):O8 P w (upd H a o) h':=λb u e=>by
 let d:=x.fresh g;by_cases f:b=a
 .subst f;rw[az]at e;cases e;exact new
 .rw[ay f]at e;exact(x b u e).dg (λc v _ q=>k c v q) (λc q=>by rw[ay (dJ q d)];exact q) λc xs q=>by rw[ay (dJ q d)];exact q
end
def Rd(H:Hp)(a:k_)(u:HO):Prop:=H a=MW u\/∃o,H a=MW (.frz o u)
def Rd.ok{P:Jv}{w:JP}{H:Hp}{h:lj}{a:k_}{u:HO}(r:Rd H a u)(x:O8 P w H h):bB P w H h a u:=by
 rcases r with r|⟨o,r⟩
 .exact x a u r
 .obtain⟨_,q⟩:=x a _ r;exact q
def Wm:Option HO->Prop
 |some (.lst _)=>True
 |some (.dK _)=>True
 |some (.dT _)=>True
 |some (.set _ _)=>True
 |some (.ins _ _ _)=>True
 |some (.ext _)=>True
 |_=>False
section
variable{P:Jv}{w:JP}{H:Hp}{h h':lj}{x e:k_}{o':HO}
theorem O8.write(ok:O8 P w H h)(g:Wm (H x))(he:e=x\/H e=MW (.own x))(k:∀b u,b≠e->h.get? b=MW u->h'.get? b=MW u)(l:∃u,h'.get? e=MW u)
 (new:bB P w (upd H x o') h' x o'):O8 P w (upd H x o') h':=λb u q=>by
 let d:∀c y,H c=MW (.own y)->c≠x:=λc y r z=>by subst z;rw[r]at g;exact g
 let f:∀c xs,H c=MW (.tup xs)->c≠x:=λc xs r z=>by subst z;rw[r]at g;exact g
 by_cases i:b=x
 .subst i;rw[az]at q;cases q;exact new
 .rw[ay i]at q
  by_cases a:b=e
  .have m:H b=MW (.own x):=by
    rcases he with z|z
    .exact absurd (a.trans z) i
    .rw[a];exact z
   rw[q]at m;cases m
   let[v,n]:=l
   exact #[v,by rw[a];exact n]
  .refine(ok b u q).dg (λc v j r=>k c v ?_ r) (λc r=>by rw[ay (d c b r)];exact r) λc xs r=>by rw[ay (f c xs r)];exact r
   rcases j with rfl|j
   .exact a
   .rintro rfl
    rcases he with z|z
    .exact d c b j z
    .rw[j]at z;cases z;exact i rfl
end
structure Un(fs ex:m_)(H H':Hp)(h h':lj):Prop where
 keep:∀b o,h.get? b=MW o->H b=MX->b∉fs->b∉ex->h'.get? b=MW o
 slot:∀b o,h.get? b=MW o->H b=MX->b∈fs->b∉ex->∃sl,h'.get? b=MW { o with slots:=sl }
 free:∀b o,h.get? b=MW o->H b=MX->b∉ex->H' b=MX
 there:∀b o,h.get? b=MW o->b∉ex->∃o',h'.get? b=MW o'
 tups:∀b xs,H b=MW (.tup xs)->H' b=MW (.tup xs)
 frzs:∀b o u,H b=MW (.frz o u)->H' b=MW (.frz o u)
 tbls:∀b ps,H b=MW (.tbl ps)->∃more,H' b=MW (.tbl (ps++more))
section
variable{fs NI ex NJ:m_}{H H1 H2:Hp}{h h1 h2 h':lj}{a x e:k_}{o:HO}
def Un.any(u:Un fs ex H H1 h h1){b:k_}{ob:Obj}(q:h.get? b=MW ob)(n:H b=MX)(hx:b∉ex):∃sl,h1.get? b=MW { ob with slots:=sl }:=by
 by_cases c:b∈fs
 .exact u.slot b ob q n c hx
 .exact #[ob.slots,u.keep b ob q n c hx]
theorem Un.kept(k:∀b u,h.get? b=MW u->h'.get? b=MW u):Un fs ex H H h h':=#[λb ob q _ _ _=>k b ob q,λb ob q _ _ _=>#[ob.slots,k b ob q],λ_ _ _ n _=>n,λb ob q _=>#[ob,k b ob q],λ_ _ q=>q,λ_ _ _ q=>q,λ_ ps q=>#[#[],by rw[q];simp]]
theorem Un.refl:Un fs ex H H h h:=Un.kept λ_ _ q=>q
theorem Un.laid(k:∀b u,h.get? b=MW u->h'.get? b=MW u)(d:h.objs.size<=a)(c:H a=MX):Un fs ex H (upd H a o) h h' where
 keep:=λb u q _ _ _=>k b u q
 slot:=λb u q _ _ _=>#[u.slots,k b u q]
 free:=λb u q n _=>by rw[ay (JH (JF (Js q) d))];exact n
 there:=λb u q _=>#[u,k b u q]
 tups:=λb xs q=>by rw[ay (dJ q c)];exact q
 frzs:=λb u xs q=>by rw[ay (dJ q c)];exact q
 tbls:=λb ps q=>#[#[],by rw[ay (dJ q c),q];simp]
def Un.write(d:Wm (H x))(he:e=x\/H e=MW (.own x))(k:∀b u,b≠e->h.get? b=MW u->h'.get? b=MW u)(f:∃u,h'.get? e=MW u):Un fs ex H (upd H x o) h h':=by
 let hx:∀b,H b=MX->b≠x:=λb n z=>by subst z;rw[n]at d;exact d
 let i:∀b,H b=MX->b≠e:=λb n z=>by
  subst z;rcases he with r|r
  .exact hx b n r
  .rw[n]at r;cases r
 let g:∀b u,H b=MW u->¬Wm (MW u)->b≠x:=λb u q nm z=>by subst z;rw[q]at d;exact nm d
 refine #[λb u q n _ _=>k b u (i b n) q,λb u q n _ _=>#[u.slots,k b u (i b n) q],λb u q n _=>by rw[ay (hx b n)];exact n,λb u q _=>?_,λb xs q=>by rw[ay (g b _ q λz=>z)];exact q,λb u xs q=>by rw[ay (g b _ q λz=>z)];exact q,λb ps q=>#[#[],by rw[ay (g b _ q λz=>z),q];simp]];by_cases c:b=e
 .subst c;exact f
 .exact #[u,k b u c q]
end
def Wx(h:lj)(H:Hp):m_:=(JM h.objs.size).filter λa=>(H a).isSome
def jl(h:lj)(H:Hp):lj:=PySem.W.hideAll h (Wx h H)
theorem mR(h:lj)(H:Hp):(jl h H).objs.size=h.objs.size:=PySem.W.hideAll_size _ _
theorem fK{h:lj}{H:Hp}{b:k_}{o:Obj}(e:h.get? b=MW o)(n:H b=MX):(jl h H).get? b=MW o:=
 PySem.W.hideAll_get _ e λa=>by
  let q:(H b).isSome=MY:=(Ke.mp a).2
  rw[n]at q;simp at q
def nS{h:lj}{H:Hp}{b:k_}{o:Obj}(e:(jl h H).get? b=MW o):h.get? b=MW o/\H b=MX:=by
 let a:h.get? b=MW o:=PySem.W.of_hideAll (Wx h H) e;exists a;cases q:H b with
 |none=>rfl
 |some x=>
  let c:b∈Wx h H:=Ke.mpr #[KI.mpr (Js a),by simp[q]]
  let z:(jl h H).get? b=MX:=PySem.W.hideAll_none (Wx h H) c
  rw[z]at e;cases e
structure Mod(K:J1)(mg:Str->Option J3)(base:lj):Prop where
 kin:K.In base
 glob:base.Ns JR mg
 blt:∃mb,base.Ns builtinsNs mb/\∀x:Str,x≠"__name__"->mb x=Kk x
 nolimit:base.NoLimit
structure Cx where
 prog:Jv
 w:JP
 K:J1
 mg:Str->Option J3
 base:lj
 A:JQ
 N:nj
 s₀:J4
 H₀:Hp
 env:Env
 outer:List Env
 stack:List Env
 ex:m_
 fn:Str->Bool
 calm:Bool
 pn:l'
 xe:J3->J4->Prop
def OG(l:List Env):m_:=l.filterMap (·.frame)
abbrev Cx.fs(X:Cx):m_:=OG X.outer
def Wg(sc:Lq)(x:Str):Prop:=sc.names.lookup x=MW .local\/sc.names.lookup x=MW .cell\/sc.names.lookup x=MW .free
def Loc(sc:Lq)(x:Str):Prop:=sc.names.lookup x=MW .local\/sc.names.lookup x=MW .cell
def Look(env:Env)(h:lj)(m:Str->Option J3)(x:Str)(u:J3):Prop:=
 (env.kindOf x=MW .local/\m x=MW u)\/((env.kindOf x=MW .cell\/env.kindOf x=MW .free)/\∃c,env.cells.lookup x=MW c/\h.IsCell c (MW u))
structure Cx.Ok(X:Cx):Prop where
 mod:Mod X.K X.mg X.base
 kind:X.env.scope.kind=.function
 glob:X.env.globals=JR
 blt:X.env.builtins=builtinsNs
 above:X.s₀.z<=X.env.locals
 inj:∀x y c,X.env.cells.lookup x=MW c->X.env.cells.lookup y=MW c->x=y
 has:∀x,(X.env.kindOf x=MW .cell\/X.env.kindOf x=MW .free)->∃c,X.env.cells.lookup x=MW c
 cab:∀x c,X.fn x=MY->X.env.cells.lookup x=MW c->X.s₀.z<=c
 hd:X.calm=MY->X.A.handled=MX
 frames:X.A.frames=MW X.stack
 stk:X.stack=X.outer\/(X.stack=X.env::X.outer/\X.env.frame=MW X.env.locals)
 exf:∀b∈X.ex,b≠X.env.locals/\∀x c,X.env.cells.lookup x=MW c->c≠b
 bs:∀b o,X.base.get? b=MW o->X.s₀.heap.get? b=MW o/\X.H₀ b=MX
 bsz:X.base.objs.size<=X.s₀.z
 noex:∀b o,X.base.get? b=MW o->b∉X.ex
 exfs:∀b∈X.ex,b∉X.fs
 fB:X.s₀.heap.FunFrames X.base X.outer
 frf:∀b∈X.fs,X.H₀ b=MX
structure Inv(X:Cx)(NK:l')(σ:List (Option V))(H:Hp)(s:J4):Prop where
 ok:X.Ok
 os:s.os=X.s₀.os
 bare:AllBare s.gens
 base:Un X.fs X.ex X.H₀ H X.s₀.heap s.heap
 loc:∃m,s.heap.Ns X.env.locals m/\∀(i:Nat)(x:Str)(v:V),X.N[i]?=MW x->σ[i]?=MW (MW v)->Wg X.env.scope x->∃u,RelV v u/\Look X.env s.heap m x u
 cell:∀x c,X.env.cells.lookup x=MW c->∃v,s.heap.IsCell c v
 free:H X.env.locals=MX
 freeC:∀x c,X.env.cells.lookup x=MW c->H c=MX
 pin:∀p∈X.pn++NK,s.heap.get? p.1=MW p.2/\H p.1=MX/\p.1≠X.env.locals/\p.1∉X.fs/\∀v,p.2.data≠.cell v
 hok:O8 X.prog X.w H s.heap
 len:σ.length=X.N.length
section
variable{X:Cx}{NK:l'}{σ:List (Option V)}{H H':Hp}{s:J4}{h':lj}
theorem Cx.Ok.IF(ok:X.Ok){b:k_}{o:Obj}(e:X.base.get? b=MW o):b∉X.fs:=λa=>by have:=(ok.fB.mem a).1;rw[e]at this;cases this
theorem Inv.bs(I:Inv X NK σ H s):∀b o,X.base.get? b=MW o->s.heap.get? b=MW o/\H b=MX:=λb o e=>#[I.base.keep b o (I.ok.bs b o e).1 (I.ok.bs b o e).2 (I.ok.IF e) (I.ok.noex b o e),I.base.free b o (I.ok.bs b o e).1 (I.ok.bs b o e).2 (I.ok.noex b o e)]
theorem Inv.bk(I:Inv X NK σ H s):∀b o,X.base.get? b=MW o->s.heap.get? b=MW o:=λb o e=>(I.bs b o e).1
theorem Inv.mod(I:Inv X NK σ H s):Mod X.K X.mg X.base:=I.ok.mod
theorem Inv.kIn(I:Inv X NK σ H s):X.K.In s.heap:=I.ok.mod.kin.keeps I.bk
theorem Inv.lt(I:Inv X NK σ H s):X.env.locals<s.z:=let⟨_,a,_⟩:=I.loc;a.lt
theorem Inv.sz(I:Inv X NK σ H s):X.s₀.z<=s.z:=K0 I.ok.above (Mm I.lt)
theorem Inv.II(I:Inv X NK σ H s){a:k_}(h:s.z<=a):a∉X.fs:=λb=>by let[_,o,c,_]:=I.ok.fB.mem b;exact absurd (JF (Js c) (K0 I.sz h)) (KS _)
theorem Inv.cne(I:Inv X NK σ H s):∀x c,X.env.cells.lookup x=MW c->c≠X.env.locals:=λx c e z=>by let[v,o,d,hd]:=I.cell x c e;obtain⟨m,⟨f,es,ep,a,b,_⟩,_⟩:=I.loc;rw[z,a]at d;cases d;rw[b]at hd;cases hd
def Inv.fB(I:Inv X NK σ H s):s.heap.FunFrames X.base X.outer:=by
 let all:∀(l:List Env),(∀b∈OG l,b∈X.fs)->X.s₀.heap.FunFrames X.base l->s.heap.FunFrames X.base l:=by
  intro l
  induction l with
  |nil=>intro _ _;trivial
  |cons env r f=>
   intro hs hl
   obtain⟨g,⟨L,o,a,h,i,hd⟩,j⟩:=hl
   let c:L∈X.fs:=hs L (by unfold OG;rw[Ll,a];exact JW)
   let[sl,e]:=I.base.slot L o i (I.ok.frf L c) c λz=>I.ok.exfs L z c
   exact #[g,#[L,_,a,h,e,hd],f (λb d=>hs b (by unfold OG;rw[Ll,a];exact JC _ d)) j]
 exact all X.outer (λ_ d=>d) I.ok.fB
def Inv.stack(I:Inv X NK σ H s):s.heap.FunFrames X.base X.stack:=by
 rcases I.ok.stk with e|⟨e,a⟩
 .rw[e];exact I.fB
 .rw[e];let[m,b,_]:=I.loc;refine .cons (by rw[I.ok.kind];decide) a b ?_ I.fB;exact Heap.get?_none_of_le (K0 I.ok.bsz I.ok.above)
theorem Inv.nG(I:Inv X NK σ H s):∀b∈OG X.stack,b∈X.env.locals::X.fs:=λb a=>by
 rcases I.ok.stk with e|⟨e,c⟩
 .rw[e]at a;exact JC _ a
 .rw[e]at a;unfold OG at a;rw[Ll,c]at a;exact a
theorem Inv.gM(I:Inv X NK σ H s):∀b∈OG X.stack,H b=MX:=λb a=>by
 rcases JU.mp (I.nG b a)with e|a
 .rw[e];exact I.free
 .obtain⟨_,o,c,_⟩:=I.ok.fB.mem a;exact I.base.free b o c (I.ok.frf b a) λz=>I.ok.exfs b z a
def Inv.step{g':Array GenState}{t':Nat}{d':Drawn}{ch:m_}(I:Inv X NK σ H s)
 (a:∀b∈ch,(b∈X.ex\/X.s₀.z<=b)/\b≠X.env.locals/\(∀x c,X.env.cells.lookup x=MW c->c≠b)/\∀p∈X.pn++NK,p.1≠b)
 (keep:∀b o,b≠X.env.locals->b∉X.fs->b∉ch->s.heap.get? b=MW o->H b=MX->h'.get? b=MW o)
 (slot:∀b o,b≠X.env.locals->b∈X.fs->b∉ch->s.heap.get? b=MW o->H b=MX->∃sl,h'.get? b=MW { o with slots:=sl }) (free:∀b o,b∉ch->s.heap.get? b=MW o->H b=MX->H' b=MX)
 (there:∀b o,b∉ch->s.heap.get? b=MW o->∃A,h'.get? b=MW A)
 (tups:∀b xs,H b=MW (.tup xs)->H' b=MW (.tup xs)) (frzs:∀b o u,H b=MW (.frz o u)->H' b=MW (.frz o u)) (tbls:∀b ps,H b=MW (.tbl ps)->∃more,H' b=MW (.tbl (ps++more)))
 (ns:∀m,s.heap.Ns X.env.locals m->h'.Ns X.env.locals m) (hok:O8 X.prog X.w H' h') (F:AllBare g') :
 Inv X NK σ H' { s with heap:=h',gens:=g',drawn:=d',toks:=t' }:=by
 let neL:∀b o,X.s₀.heap.get? b=MW o->b≠X.env.locals:=λb o e=>JH (JF (Js e) I.ok.above)
 let h:∀b o,X.s₀.heap.get? b=MW o->b∉X.ex->b∉ch:=λb o e hx j=>by
  rcases(a b j).1 with z|z
  .exact hx z
  .exact absurd (JF (Js e) z) (KS _)
 let f:∀x c,X.env.cells.lookup x=MW c->∀v,s.heap.IsCell c v->h'.IsCell c v:=λx c e v t=>by
  let[o,y,hd]:=t
  let g:c∉ch:=λz=>(a c z).2.2.1 x c e rfl
  by_cases C:c∈X.fs
  .obtain⟨sl,q⟩:=slot c o (I.cne x c e) C g y (I.freeC x c e)
   exact #[_,q,hd]
  .exact #[o,keep c o (I.cne x c e) C g y (I.freeC x c e),hd]
 refine #[I.ok,I.os,F,#[λb o e n j hx=>?_,λb o e n j hx=>?_,λb o e n hx=>?_,λb o e hx=>?_,λb xs e=>tups b xs (I.base.tups b xs e),λb o xs e=>frzs b o xs (I.base.frzs b o xs e),λb ps e=>?_],?_,λx c e=>?_,?_,λx c e=>?_,λp D=>?_,hok,I.len]
 .exact keep b o (neL b o e) j (h b o e hx) (I.base.keep b o e n j hx) (I.base.free b o e n hx)
 .obtain⟨sl,e1⟩:=I.base.slot b o e n j hx
  let[B,e2]:=slot b _ (neL b o e) j (h b o e hx) e1 (I.base.free b o e n hx)
  exact #[B,e2]
 .obtain⟨A,e1⟩:=I.base.there b o e hx
  exact free b A (h b o e hx) e1 (I.base.free b o e n hx)
 .obtain⟨A,e1⟩:=I.base.there b o e hx
  exact there b A (h b o e hx) e1
 .obtain⟨m1,e1⟩:=I.base.tbls b ps e
  let[m2,e2]:=tbls b _ e1
  exact #[m1++m2,by rw[e2,Array.append_assoc]]
 .obtain⟨m,G,hl⟩:=I.loc
  refine #[m,ns m G,λi x v e1 e2 e3=>?_]
  let[u,r,l]:=hl i x v e1 e2 e3
  exists u,r
  rcases l with l|⟨k,c,e,z⟩
  .exact .inl l
  .exact .inr #[k,c,e,f x c e _ z]
 .obtain⟨v,z⟩:=I.cell x c e
  exact #[v,f x c e v z]
 .obtain⟨m,⟨o,_,_,y,_⟩,_⟩:=I.loc
  exact free _ o (λz=>(a _ z).2.1 rfl) y I.free
 .obtain⟨v,o,y,hd⟩:=I.cell x c e
  exact free c o (λz=>(a c z).2.2.1 x c e rfl) y (I.freeC x c e)
 .obtain⟨e,n,ne,E,d⟩:=I.pin p D
  let g:p.1∉ch:=λz=>(a p.1 z).2.2.2 p D rfl
  exact #[keep p.1 p.2 ne E g e n,free p.1 p.2 g e n,ne,E,d]
def Inv.un{t':Nat}(I:Inv X NK σ H s)(u:Un X.fs [] H H' s.heap h')(hok:O8 X.prog X.w H' h'):Inv X NK σ H' { s with heap:=h',toks:=t' }:=by
 obtain⟨m,⟨o,es,ep,g,r⟩,_⟩:=id I.loc;let[sl,h]:=u.any g I.free (_)
 exact I.step (g':=s.gens) (d':=s.drawn) (ch:=[]) (λ_ z=>nomatch z) (λb o _ c _ e n=>u.keep b o e n c (_)) (λb o _ c _ e n=>u.slot b o e n c (_)) (λb o _ e n=>u.free b o e n (_)) (λb o _ e=>u.there b o e (_)) u.tups u.frzs u.tbls (λk i=>by
  let[l,d,f,a,j]:=i
  rw[g]at a;cases a
  exact #[_,d,f,h,j]) hok I.bare
def Inv.call{g':Array GenState}{t':Nat}{d':Drawn}{ch:m_}(I:Inv X NK σ H s)(u:Un (OG X.stack) ch H H' s.heap h')(hok:O8 X.prog X.w H' h')(k:AllBare g') (d:∀b∈ch,(b∈X.ex\/X.s₀.z<=b)/\b≠X.env.locals/\(∀x c,X.env.cells.lookup x=MW c->c≠b)/\∀p∈X.pn++NK,p.1≠b) : Inv X NK σ H' { s with heap:=h',gens:=g',drawn:=d',toks:=t' }:=by
 obtain⟨m,⟨o,es,ep,j,r⟩,_⟩:=id I.loc;let[sl,g]:=u.any j I.free λz=>(d _ z).2.1 rfl
 exact I.step (ch:=ch) d (λb o g l a e n=>u.keep b o e n (λz=>(JU.mp (I.nG b z)).elim g l) a) (λb o _ _ a e n=>u.any e n a) (λb o a e n=>u.free b o e n a) (λb o a e=>u.there b o e a) u.tups u.frzs u.tbls (λv q=>by
  let[y,h,i,f,t]:=q
  rw[j]at f;cases f
  exact #[_,h,i,g,t]) hok k
def Inv.turned{t':Nat}{it:k_}(I:Inv X NK σ H s)(k:∀b o,b≠it->s.heap.get? b=MW o->h'.get? b=MW o)(g:H it=MX)(f:it≠X.env.locals)
 (h1:it∈X.ex\/X.s₀.z<=it) (h2:∀x c,X.env.cells.lookup x=MW c->c≠it) (h:∀p∈X.pn++NK,p.1≠it):Inv X NK σ H { s with heap:=h',toks:=t' }:=by
 let d:∀b u,H b=MW u->b≠it:=λb u e z=>by rw[z,g]at e;cases e
 refine I.step (g':=s.gens) (d':=s.drawn) (ch:=[it]) (λb i=>?_) (λb o _ _ a e _=>k b o (λz=>a (by simp[z])) e) (λb o _ _ a e _=>#[o.slots,k b o (λz=>a (by simp[z])) e]) (λ_ _ _ _ n=>n)
  (λb o a e=>#[o,k b o (λz=>a (by simp[z])) e]) (λ_ _ e=>e) (λ_ _ _ e=>e) (λb ps e=>#[#[],by rw[e];simp]) (λm j=>?_) (λb u e=>?_) I.bare
 .have e:b=it:=‹i›
  subst e
  exact #[h1,f,h2,h]
 .obtain⟨o,es,ep,l,r⟩:=j
  exact #[o,es,ep,k _ o (Ne.symm f) l,r]
 .refine(I.hok b u e).dg (λc v a q=>k c v ?_ q) (λ_ q=>q) λ_ _ q=>q
  rcases a with z|z
  .rw[z];exact d b u e
  .exact d c _ z
theorem Inv.tok(I:Inv X NK σ H s)(t:Nat):Inv X NK σ H { s with toks:=t }:=I.un (h':=s.heap) (t':=t) Un.refl I.hok
theorem Inv.kept{t':Nat}(I:Inv X NK σ H s)(k:∀b u,s.heap.get? b=MW u->h'.get? b=MW u):Inv X NK σ H { s with heap:=h',toks:=t' }:=I.un (Un.kept k) (I.hok.kept k)
theorem Inv.laid{a:k_}{o:HO}{t':Nat}(I:Inv X NK σ H s)(k:∀b u,s.heap.get? b=MW u->h'.get? b=MW u)(c:s.z<=a)(new:bB X.prog X.w (upd H a o) h' a o) : Inv X NK σ (upd H a o) { s with heap:=h',toks:=t' }:=I.un (Un.laid k c (I.hok.fresh c)) (I.hok.laid k c new)
theorem Inv.write{x e:k_}{o:HO}{t':Nat}(I:Inv X NK σ H s)(c:Wm (H x))(he:e=x\/H e=MW (.own x))(k:∀b u,b≠e->s.heap.get? b=MW u->h'.get? b=MW u)(a:∃u,h'.get? e=MW u) (new:bB X.prog X.w (upd H x o) h' x o):Inv X NK σ (upd H x o) { s with heap:=h',toks:=t' }:=I.un (Un.write c he k a) (I.hok.write c he k a new)
theorem Inv.ud{pins':l'}(I:Inv X NK σ H s)(h:∀p∈pins',s.heap.get? p.1=MW p.2/\H p.1=MX/\p.1≠X.env.locals/\p.1∉X.fs/\∀v,p.2.data≠.cell v):Inv X pins' σ H s:=#[I.ok,I.os,I.bare,I.base,I.loc,I.cell,I.free,I.freeC,λp a=>(K5.mp a).elim (λz=>I.pin p (List.mem_append_left _ z)) (h p),I.hok,I.len]
def kO{N:nj}(c:N.Nodup){i j:Nat}{x:Str}(a:N[i]?=MW x)(b:N[j]?=MW x):i=j:=by let[h1,e1]:=Jp.mp a;let[h2,e2]:=Jp.mp b;exact(List.getElem_inj c).mp (e1.trans e2.symm)
def mW{M:Model}{A:JQ}{E:J3->J4->Prop}{i:Nat}{x:Str}{v:V}{u:J3}{Q:Unit->J4->Prop}(I:Inv X NK σ H s)(hN:X.N.Nodup)(hi:X.N[i]?=MW x)(hx:Loc X.env.scope x)(r:RelV v u)
 (h:∀S,Inv X NK (σ.set i (MW v)) H S->(∃a,LN a s.heap S.heap/\(a=X.env.locals\/X.env.cells.lookup x=MW a))->Q .unit S) (hf:X.fn x=MY\/X.env.scope.names.lookup x=MW .local:=by first|exact .inl rfl|exact .inr rfl|assumption):Jq M A (storeName X.env x u) Q E s:=by
 let[m,T,hl]:=id I.loc
 let G:(X.env.scope.kind==.class||(X.env.scope.kind==.module&&X.env.locals != X.env.globals))=MZ:=by rw[I.ok.kind];rfl
 let t:i<σ.length:=by rw[I.len];exact(Jp.mp hi).1
 let cne:=I.cne
 let f:∀{a:k_}{h':lj},(∃o,s.heap.get? a=MW o/\H a=MX)->LN a s.heap h'->O8 X.prog X.w H h':=λ{a h'} ha hs b ob e=>by
  let[_,_,l]:=ha
  refine(I.hok b ob e).dg (λc P g q=>(hs.2 c ?_).trans q) (λ_ q=>q) λ_ _ q=>q
  rintro rfl
  rcases g with rfl|g
  .rw[l]at e;cases e
  .rw[l]at g;cases g
 rcases hx with B|B
 .refine wpAny_storeName_local B T (λh' U hs=>?_) G
  let[oL,_,_,W,_]:=id T
  refine h _ #[I.ok,I.os,I.bare,#[λb o e n C hx=>?_,λb o e n C hx=>?_,I.base.free,λb o e hx=>?_,I.base.tups,I.base.frzs,I.base.tbls],#[_,U,λj y Y e1 e2 e3=>?_],λy c e=>?_,I.free,I.freeC,λp Z=>?_,f #[oL,W,I.free] hs,‹I.len›] #[_,hs,.inl rfl]
  .exact(hs.2 b (JH (JF (Js e) I.ok.above))).trans (I.base.keep b o e n C hx)
  .obtain⟨sl,e1⟩:=I.base.slot b o e n C hx
   exact #[sl,(hs.2 b (JH (JF (Js e) I.ok.above))).trans e1]
  .obtain⟨o',e1⟩:=I.base.there b o e hx
   exact #[o',(hs.2 b (JH (JF (Js e) I.ok.above))).trans e1]
  .by_cases D:j=i
   .subst D
    rw[hi]at e1;cases e1
    rw[List.getElem?_set_self t]at e2
    cases e2
    exact #[u,r,.inl #[B,by simp]]
   .rw[List.getElem?_set_ne (Ne.symm D)]at e2
    let[u',r',q]:=hl j y Y e1 e2 e3
    exists u',r'
    rcases q with⟨k,e⟩|⟨k,c,e,z⟩
    .refine .inl #[k,?_]
     have:y≠x:=λe=>D (kO hN e1 (e▸hi))
     simp[this,e]
    .exact .inr #[k,c,e,z.sameBut hs (cne y c e)]
  .obtain⟨P,z⟩:=I.cell y c e
   exact #[P,z.sameBut hs (cne y c e)]
  .obtain⟨e,n,ne,nf,d⟩:=I.pin p Z
   exact #[(hs.2 p.1 ne).trans e,n,ne,nf,d]
 .have F:X.fn x=MY:=by
   rcases hf with z|z
   .exact z
   .rw[z]at B;cases B
  let[c,g]:=I.ok.has x (.inl B)
  let[P,z]:=I.cell x c g
  refine wpAny_storeName_cell I.ok.kind B g z (λh' J hs=>?_)
  let[oc,K,L]:=id z
  refine h { s with heap:=h' } #[I.ok,I.os,I.bare,#[λb o e n C hx=>?_,λb o e n C hx=>?_,I.base.free,λb o e hx=>?_,I.base.tups,I.base.frzs,I.base.tbls],#[m,T.sameBut hs (Ne.symm (cne x c g)),λj y Y e1 e2 e3=>?_],λy R e=>?_,I.free,I.freeC,λp Z=>?_,f #[oc,K,I.freeC x c g] hs,‹I.len›] #[c,hs,.inr g]
  .exact(hs.2 b (JH (JF (Js e) (I.ok.cab x c F g)))).trans (I.base.keep b o e n C hx)
  .obtain⟨sl,e1⟩:=I.base.slot b o e n C hx
   exact #[sl,(hs.2 b (JH (JF (Js e) (I.ok.cab x c F g)))).trans e1]
  .obtain⟨o',e1⟩:=I.base.there b o e hx
   exact #[o',(hs.2 b (JH (JF (Js e) (I.ok.cab x c F g)))).trans e1]
  .by_cases D:j=i
   .subst D
    rw[hi]at e1;cases e1
    rw[List.getElem?_set_self t]at e2
    cases e2
    exact #[u,r,.inr #[.inl B,c,g,J]]
   .rw[List.getElem?_set_ne (Ne.symm D)]at e2
    let[u',r',q]:=hl j y Y e1 e2 e3
    exists u',r'
    rcases q with q|⟨k,R,e,z'⟩
    .exact .inl q
    .refine .inr #[k,R,e,z'.sameBut hs ?_]
     rintro rfl
     exact D (kO hN e1 (I.ok.inj _ _ _ e g▸hi))
  .by_cases O:R=c
   .subst O;exact #[_,J]
   .obtain⟨w2,z2⟩:=I.cell y R e
    exact #[w2,z2.sameBut hs O]
  .obtain⟨e,n,ne,nf,d⟩:=I.pin p Z
   refine #[(hs.2 p.1 ?_).trans e,n,ne,nf,d]
   intro q
   rw[q,K]at e
   let q':oc=p.2:=Option.some.inj e
   exact d P (by rw[<-q'];exact L)
theorem fY{M:Model}{A:JQ}{E:J3->J4->Prop}{i:Nat}{x:Str}{v:V}{u:J3}{Q:Unit->J4->Prop}(I:Inv X NK σ H s)(b:X.N.Nodup)(hi:X.N[i]?=MW x)(hx:Loc X.env.scope x)(r:RelV v u) (h:∀a,Inv X NK (σ.set i (MW v)) H a->Q .unit a) (c:X.fn x=MY\/X.env.scope.names.lookup x=MW .local:=by first|exact .inl rfl|exact .inr rfl|assumption):Jq M A (storeName X.env x u) Q E s:=mW I b hi hx r (λa d _=>h a d) c
def Inv.pD{a:J4}{ch:m_}(I:Inv X NK σ H s)(f:a.os=s.os)(u:Un (OG X.stack) ch H H' s.heap a.heap)(hok:O8 X.prog X.w H' a.heap)(g:AllBare a.gens)
 (d:∀b∈ch,(b∈X.ex\/X.s₀.z<=b)/\b≠X.env.locals/\(∀x c,X.env.cells.lookup x=MW c->c≠b)/\∀p∈X.pn++NK,p.1≠b):Inv X NK σ H' a:=by
 let[h',g',d',t',h]:=a
 let e:h=s.os:=f
 subst e
 exact I.call (g':=g') (t':=t') (d':=d') u hok g d
end
abbrev XK:=J3->Option k_->Hp->Prop
abbrev St:=List (Option V)
abbrev VK:=V->Hp->Prop
abbrev TE:=St->Hp->VK->Prop
abbrev TT:=St->Hp->(Bool->Hp->Prop)->Prop
abbrev TA:=St->Hp->(n7->Hp->Prop)->Prop
structure Ends where
 nx:St->Hp->Prop
 rt:VK
 bk:St->Hp->Prop:=λ_ _=>False
 ct:St->Hp->Prop:=λ_ _=>False
abbrev TS:=Ends->St->Hp->Prop
def EP(X:Cx)(NK:l')(σ:St)(Q:VK)(u:J3)(b:J4):Prop:=∃v a,Inv X NK σ a b/\RelV v u/\Q v a
def TP(X:Cx)(NK:l')(σ:St)(Q:Bool->Hp->Prop)(b:Bool)(c:J4):Prop:=∃a,Inv X NK σ a c/\Q b a
def AP(X:Cx)(NK:l')(σ:St)(Q:n7->Hp->Prop)(us:List J3)(b:J4):Prop:=∃vs a,Inv X NK σ a b/\Vals vs us/\Q vs a
def SP(X:Cx)(NK:l')(D:Ends)(f:Flow)(c:J4):Prop:=
 match f with
 |.next=>∃a b,Inv X NK a b c/\D.nx a b
 |.brk=>∃a b,Inv X NK a b c/\D.bk a b
 |.cont=>∃a b,Inv X NK a b c/\D.ct a b
 |.ret u=>∃v a b,Inv X NK a b c/\RelV v u/\D.rt v b
def PE(X:Cx)(e:l_)(t:TE):Prop:=
 ∀(NK:l')(s:J4)(σ:St)(H:Hp)(Q:VK),Inv X NK σ H s->t σ H Q->Jq (Ju X.prog X.w) X.A (eval e X.env) (EP X NK σ Q) X.xe s
def PT(X:Cx)(e:l_)(t:TT):Prop:=
 ∀(NK:l')(s:J4)(σ:St)(H:Hp)(Q:Bool->Hp->Prop),Inv X NK σ H s->t σ H Q->Jq (Ju X.prog X.w) X.A (isTrue e X.env (eval e X.env)) (TP X NK σ Q) X.xe s
def PW(X:Cx)(e:l_)(t:TT):Prop:=
 ∀(whole:Sem J3)(NK:l')(s:J4)(σ:St)(H:Hp)(Q:Bool->Hp->Prop),Inv X NK σ H s->t σ H Q->Jq (Ju X.prog X.w) X.A (isTrue e X.env whole) (TP X NK σ Q) X.xe s
theorem PW.pt{X:Cx}{e:l_}{t:TT}(h:PW X e t):PT X e t:=h _
def PA(X:Cx)(es:m3)(t:TA):Prop:=
 ∀(a:Pos)(NK:l')(s:J4)(σ:St)(H:Hp)(Q:n7->Hp->Prop),Inv X NK σ H s->t σ H Q->Jq (Ju X.prog X.w) X.A (spliced (Lh a (Jz es X.env))) (AP X NK σ Q) X.xe s
def PS(X:Cx)(st:lb)(t:TS):Prop:=
 ∀(NK:l')(s:J4)(σ:St)(H:Hp)(D:Ends),Inv X NK σ H s->t D σ H->Jq (Ju X.prog X.w) X.A (exec st X.env) (SP X NK D) X.xe s
def PK(X:Cx)(st:mv)(t:TS):Prop:=
 ∀(NK:l')(s:J4)(σ:St)(H:Hp)(D:Ends),Inv X NK σ H s->t D σ H->Jq (Ju X.prog X.w) X.A (execs st X.env) (SP X NK D) X.xe s
theorem Nf{b:Type}{t:Sem b}{Q c:b->J4->Prop}{M:Model}{A:JQ}{E:J3->J4->Prop}{s:J4}(h:Jq M A t Q E s)(d:∀a s,Q a s->c a s):Jq M A t c E s:=Jx h d λ_ _ x=>x
section
variable{X:Cx}
def Av(i:Nat):TE:=λσ H Q=>∃v,σ[i]?=MW (MW v)/\Q v H
def tC(v:V):TE:=λ_ H Q=>Q v H
def zu{i:Nat}{x:Str}{f:Pos}(k:X.N[i]?=MW x)(n:Wg X.env.scope x)(hd:(x==("__debug__":Str))=MZ:=by decide)(g:(x==("__classdict__":Str))=MZ:=by decide):PE X (.Name x f) (Av i):=by
 intro NK s σ H Q I h;let[v,e,h]:=h;let[m,o,hl]:=I.loc;let[u,r,l]:=hl i x v k e n;let b:EP X NK σ Q u s:=#[v,H,I,r,h];rcases l with⟨d,p⟩|⟨d,c,j,a⟩
 .exact wpAny_Name (wpAny_loadName_local I.ok.kind d o p b) hd
 .rcases d with d|d
  .exact wpAny_Name (wpAny_loadName_cell I.ok.kind d j a b) hd
  .exact wpAny_Name (wpAny_loadName_free I.ok.kind d j a b g) hd
theorem DQ{i j a}:PE X (.Constant (.int i) j a) (tC (.int i)):=λ_ _ _ H _ I h=>wpAny_Constant_int #[.int i,H,I.tok _,#[_,rfl],h]
theorem G2{b j a}:PE X (.Constant (.bool b) j a) (tC (.bl b)):=λ_ _ _ H _ I h=>Constant_bool #[.bl b,H,I,8,h]
theorem Ei{j a}:PE X (.Constant .none j a) (tC .non):=λ_ _ _ H _ I h=>Constant_none #[.non,H,I,8,h]
def Gl(X:Cx)(x:Str):Prop:=X.env.kindOf x=MW .globalImplicit
theorem ft{E:J3->J4->Prop}{NK:l'}{s:J4}{σ:St}{H:Hp}{x:Str}{u:J3}{a:Pos}{Q:J3->J4->Prop}(I:Inv X NK σ H s)(b:Gl X x)(c:X.mg x=MW u)(h:Q u s) (hd:(x==("__debug__":Str))=MZ:=by decide):Jq (Ju X.prog X.w) X.A (eval (.Name x a) X.env) Q E s:=Calls.Name_function_global I.ok.kind b (Calls.loadGlobal_global (by rw[I.ok.glob];exact I.mod.glob.keeps I.bk) c h) hd
def f6{E:J3->J4->Prop}{NK:l'}{s:J4}{σ:St}{H:Hp}{x:Str}{u:J3}{a:Pos}{Q:J3->J4->Prop}(I:Inv X NK σ H s)(b:Gl X x)(c:X.mg x=MX)(d:Kk x=MW u)(h:Q u s) (e:x≠"__name__":=by decide) (hd:(x==("__debug__":Str))=MZ:=by decide):Jq (Ju X.prog X.w) X.A (eval (.Name x a) X.env) Q E s:=by let[f,h1,h2]:=I.mod.blt;exact Calls.Name_function_global I.ok.kind b (Calls.loadGlobal_builtin (by rw[I.ok.glob];exact I.mod.glob.keeps I.bk) c (by rw[I.ok.blt];exact h1.keeps I.bk) ((h2 x e).trans d) h) hd
theorem uG{x:Str}{v:V}{u:J3}{a:Pos}(b:Gl X x)(c:X.mg x=MW u)(r:RelV v u)(hd:(x==("__debug__":Str))=MZ:=by decide):PE X (.Name x a) (tC v):=λ_ _ _ H _ I h=>ft I b c #[v,H,I,r,h] hd
theorem Bx{x:Str}{v:V}{u:J3}{a:Pos}(b:Gl X x)(c:X.mg x=MX)(d:Kk x=MW u)(r:RelV v u)(e:x≠"__name__":=by decide)(hd:(x==("__debug__":Str))=MZ:=by decide):PE X (.Name x a) (tC v):=λ_ _ _ H _ I h=>f6 I b c d #[v,H,I,r,h] e hd
variable{a b:l_}{ta tb:TE}{pos:Pos}
def PC(X:Cx)(op:CmpOp)(a b:l_)(t:TE):Prop:=
 ∀(NK:l')(s:J4)(σ:St)(H:Hp)(Q:VK),Inv X NK σ H s->t σ H Q->
  Jq (Ju X.prog X.w) X.A (eval a X.env) (λv c=>Jq (Ju X.prog X.w) X.A (eval b X.env) (λu d=>Jq (Ju X.prog X.w) X.A (K8 op v u) (EP X NK σ Q) X.xe d) X.xe c) X.xe s
def tB(t:TE):TT:=λσ H Q=>t σ H λx H1=>∃c,x=.bl c/\Q c H1
def Dz{op:CmpOp}{t:TE}(h:PC X op a b t)(h1:MI op b=MZ:=by first|exact nobehind _ ⋯ ⋯|rfl):PT X (.Compare a [op] [b] pos) (tB t):=by intro NK s σ H Q I f;refine wpAny_isTrue_Compare1 (Nf (h NK s σ H _ I f) λv k h1=>Nf h1 λu l h2=>Nf h2 λc m e=>?_) h1;let[x,H1,g,i,j]:=e;let[d,8,q]:=j;cases i;exact Le #[H1,g,q]
def Fx{e:l_}{t:TE}(h:PE X e t)(he:∀whole,isTrue e X.env whole=(do let v <-whole;ML e.pos;holding [v] (truthy v)):=by intro _;rfl):PT X e (tB t):=by intro NK s σ H Q I f;refine isTrue_plain (Nf (h NK s σ H _ I f) λv k c=>?_) (he _);let[x,H1,g,i,j]:=c;let[d,8,q]:=j;cases i;exact Le #[H1,g,q]
variable{tA NL:TT}{rest:m3}
def Ie(t u:TT):TT:=λσ H Q=>t σ H λc H1=>if c=MY then u σ H1 Q else Q MZ H1
def Ze(t u:TT):TT:=λσ H Q=>t σ H λc H1=>if c=MY then Q MY H1 else u σ H1 Q
def Iw(t:TT):TT:=λσ H Q=>t σ H λc H1=>Q (!c) H1
def A3(ha:PT X a tA):PW X (.BoolOp .And [a] pos) tA:=by
 intro d NK s σ H Q I h;refine isTrue_and (Nf (ha NK s σ H Q I h) λc f e=>?_);cases c with
 |true=>exact isTrue_and_nil e
 |false=>exact e
def EE(ha:PT X a tA):PW X (.BoolOp .Or [a] pos) tA:=by
 intro d NK s σ H Q I h;refine isTrue_or (Nf (ha NK s σ H Q I h) λc f e=>?_);cases c with
 |false=>exact isTrue_or_nil e
 |true=>exact e
def FJ(ha:PT X a tA)(g:PW X (.BoolOp .And (b::rest) pos) NL):PW X (.BoolOp .And (a::b::rest) pos) (Ie tA NL):=by
 intro i NK s σ H Q I h;refine isTrue_and (Nf (ha NK s σ H _ I h) λc j d=>?_);let[H1,e,f]:=d;cases c with
 |true=>exact g i NK j σ H1 Q e f
 |false=>exact #[H1,e,f]
def G1(ha:PT X a tA)(g:PW X (.BoolOp .Or (b::rest) pos) NL):PW X (.BoolOp .Or (a::b::rest) pos) (Ze tA NL):=by
 intro i NK s σ H Q I h;refine isTrue_or (Nf (ha NK s σ H _ I h) λc j d=>?_);let[H1,e,f]:=d;cases c with
 |true=>exact #[H1,e,f]
 |false=>exact g i NK j σ H1 Q e f
def DO(ha:PT X a tA):PT X (.UnaryOp .Not a pos) (Iw tA):=by intro NK s σ H Q I h;exact isTrue_not (ha NK s σ H (λc H1=>Q (!c) H1) I h)
def Hs(ta tb:TE):TE:=λσ H Q=>ta σ H λx H1=>∃c,x=.bl c/\if c=MY then tb σ H1 Q else Q (.bl MZ) H1
def HZ(ta tb:TE):TE:=λσ H Q=>ta σ H λx H1=>∃c,x=.bl c/\if c=MY then Q (.bl MY) H1 else tb σ H1 Q
def Hn(ta:TE):TE:=λσ H Q=>ta σ H λx H1=>∃c,x=.bl c/\Q (.bl (!c)) H1
theorem DU{op}{t:TE}(h:PE X a t):PE X (.BoolOp op [a] pos) t:=λNK s σ H Q I c=>BoolOp_one (h NK s σ H Q I c)
def Es(ha:PE X a ta)(g:PE X (.BoolOp .And (b::rest) pos) tb):PE X (.BoolOp .And (a::b::rest) pos) (Hs ta tb):=by
 intro NK s σ H Q I h;refine BoolOp_and (Nf (ha NK s σ H _ I h) λv i d=>?_);let[x,H1,f,j,e]:=d;let[c,8,e]:=e;cases j;refine Le ?_;cases c with
 |true=>exact g NK i σ H1 Q f e
 |false=>exact #[.bl MZ,H1,f,8,e]
def Gz(ha:PE X a ta)(g:PE X (.BoolOp .Or (b::rest) pos) tb):PE X (.BoolOp .Or (a::b::rest) pos) (HZ ta tb):=by
 intro NK s σ H Q I h;refine BoolOp_or (Nf (ha NK s σ H _ I h) λv i d=>?_);let[x,H1,f,j,e]:=d;let[c,8,e]:=e;cases j;refine Le ?_;cases c with
 |false=>exact g NK i σ H1 Q f e
 |true=>exact #[.bl MY,H1,f,8,e]
def Ff(ha:PE X a ta):PE X (.UnaryOp .Not a pos) (Hn ta):=by intro NK s σ H Q I h;refine UnaryOp_ (Nf (ha NK s σ H _ I h) λv i d=>?_);let[x,H1,f,g,e]:=d;let[c,8,e]:=e;cases g;exact not_of (Le #[.bl (!c),H1,f,8,e])
def Zf(t:TT)(ta tb:TE):TE:=λσ H Q=>t σ H λc H1=>if c=MY then ta σ H1 Q else tb σ H1 Q
def yL{c:l_}(j:PT X c tA)(ha:PE X a ta)(k:PE X b tb):PE X (.IfExp c a b pos) (Zf tA ta tb):=by
 intro NK s σ H Q I h;refine wpAny_IfExp (Nf (j NK s σ H _ I h) λd f e=>?_);let[H1,g,i]:=e;cases d with
 |true=>exact ha NK f σ H1 Q g i
 |false=>exact k NK f σ H1 Q g i
end
def Ni(K:J1)(H:Hp)(a:k_)(xs:n7):Prop:=
 Rd H a (.lst xs)\/
  ∃(o:Obj) (b:Array J3) (n:Nat),K.lookup a=MW o/\o.cls=.type "list"/\o.dict=MX/\o.data=.seq b n/\b.size<=JJ/\Vals xs b.toList
def Nl(K:J1)(H:Hp)(a:k_)(xs:n7):Prop:=
 Rd H a (.tup xs)\/
  ∃(o:Obj) (b:Array J3) (n:Nat),K.lookup a=MW o/\(o.cls=.type "tuple"/\o.dict=MX)/\o.data=.seq b n/\b.size<=JJ/\Vals xs b.toList
def IL:J3->Option V
 |.none=>MW .non
 |.bool b=>MW (.bl b)
 |.int i _=>MW (.int i)
 |.str x _=>MW (.str x)
 |.bytes b _=>MW (.byt b)
 |.float b _=>MW (.flt b)
 |.ref a=>MW (.ref a)
 |.type n=>MW (.ty n)
 |_=>MX
def RelV.abs{x:V}{u:J3}(r:RelV x u):IL u=MW x:=by
 cases x with
 |non=>cases r;rfl
 |bl _=>cases r;rfl
 |int _=>let[t,8]:=r;rfl
 |str _=>let[t,8]:=r;rfl
 |byt _=>let[t,8]:=r;rfl
 |flt _=>let[t,8]:=r;rfl
 |ref _=>cases r;rfl
 |ty _=>cases r;rfl
theorem RelV.inj{x y:V}{u:J3}(r:RelV x u)(q:RelV y u):x=y:=Option.some.inj (r.abs.symm.trans q.abs)
def Vals.inj:∀{xs a:n7}{us:List J3},Vals xs us->Vals a us->xs=a:=by
 intro xs a us h
 induction h generalizing a with
 |nil=>intro k;cases k;rfl
 |cons r t b=>
  intro k
  cases k with
  |cons c d=>rw[r.inj c,b d]
section
variable{X:Cx}{NK:l'}{σ:St}{H:Hp}{s:J4}{a:k_}{xs ys:n7}
theorem Ni.of{K:J1}(h:H a=MW (.lst xs)):Ni K H a xs:=.inl (.inl h)
theorem Nl.of{K:J1}(h:H a=MW (.tup xs)):Nl K H a xs:=.inl (.inl h)
def Inv.list(I:Inv X NK σ H s)(h:Ni X.K H a xs):∃its:List J3,Vals xs its/\PlainL s.heap a its.toArray/\xs.length<=JJ:=by
 rcases h with h|⟨o,its,n,b,c,hd,hs,d,r⟩
 .obtain⟨z,its,n,r,e⟩:=h.ok I.hok;exact #[its,r,#[_,n,e,8,8,rfl],z]
 .exists its.toList,r,#[o,n,I.kIn a o b,c,hd,‹hs›];let e:=r.length;simp only[JG]at e;omega
def Inv.tuple(I:Inv X NK σ H s)(h:Nl X.K H a xs):∃its:List J3,Vals xs its/\IsTup s.heap a its.toArray/\xs.length<=JJ:=by
 rcases h with h|⟨o,its,n,b,c,hs,d,r⟩
 .obtain⟨z,its,r,p,_⟩:=h.ok I.hok;exact #[its,r,p,z]
 .exists its.toList,r,#[o,I.kIn a o b,c.1,n,‹hs›];let e:=r.length;simp only[JG]at e;omega
def Inv.iP(I:Inv X NK σ H s)(h:Ni X.K H a xs)(h':Ni X.K H a ys):xs=ys:=by
 obtain⟨c,r,⟨o,n,e,_,_,d⟩,_⟩:=I.list h;obtain⟨b,i,⟨k,l,f,_,_,g⟩,_⟩:=I.list h';rw[e]at f;cases f;rw[d]at g;injection g with j _;have:c=b:=‹congrArg Array.toList j›
 subst this;exact r.inj i
def Inv.ve(I:Inv X NK σ H s)(h:Nl X.K H a xs)(h':Nl X.K H a ys):xs=ys:=by
 obtain⟨c,r,⟨o,e,_,n,d⟩,_⟩:=I.tuple h;obtain⟨b,i,⟨k,f,_,l,g⟩,_⟩:=I.tuple h';rw[e]at f;cases f;rw[d]at g;injection g with j _;have:c=b:=‹congrArg Array.toList j›
 subst this;exact r.inj i
end
abbrev Cx.lO(X:Cx)(E:J3->J4->Prop):Cx:={ X with xe:=E }
abbrev Cx.nox(X:Cx):Cx:=X.lO λ_ _=>False
theorem Cx.Ok.lO{X:Cx}(ok:X.Ok)(E:J3->J4->Prop):(X.lO E).Ok:=#[ok.mod,ok.kind,ok.glob,ok.blt,ok.above,ok.inj,ok.has,ok.cab,ok.hd,ok.frames,ok.stk,ok.exf,ok.bs,ok.bsz,ok.noex,ok.exfs,ok.fB,ok.frf]
theorem Cx.Ok.gA{X:Cx}{E:J3->J4->Prop}(ok:(X.lO E).Ok):X.Ok:=#[ok.mod,ok.kind,ok.glob,ok.blt,ok.above,ok.inj,ok.has,ok.cab,ok.hd,ok.frames,ok.stk,ok.exf,ok.bs,ok.bsz,ok.noex,ok.exfs,ok.fB,ok.frf]
section
variable{X:Cx}{NK:l'}{σ:St}{H:Hp}{s:J4}{E:J3->J4->Prop}
theorem Inv.lO(I:Inv X NK σ H s)(E:J3->J4->Prop):Inv (X.lO E) NK σ H s:=#[I.ok.lO E,I.os,I.bare,I.base,I.loc,I.cell,I.free,I.freeC,I.pin,I.hok,I.len]
theorem Inv.gA(I:Inv (X.lO E) NK σ H s):Inv X NK σ H s:=#[I.ok.gA,I.os,I.bare,I.base,I.loc,I.cell,I.free,I.freeC,I.pin,I.hok,I.len]
def SP.gA{D:Ends}{f:Flow}{c:J4}(h:SP (X.lO E) NK D f c):SP X NK D f c:=by
 cases f with
 |next=>let[a,b,I,q]:=h;exact #[a,b,I.gA,q]
 |brk=>let[a,b,I,q]:=h;exact #[a,b,I.gA,q]
 |cont=>let[a,b,I,q]:=h;exact #[a,b,I.gA,q]
 |ret u=>let[v,a,b,I,r,q]:=h;exact #[v,a,b,I.gA,r,q]
theorem PK.nox{st:mv}{t:TS}(h:PK X.nox st t):PK X st t:=λNK s σ H D I a=>Jx (h NK s σ H D (I.lO _) a) (λ_ _ q=>q.gA) λ_ _ z=>JK z
end
section
variable{X:Cx}{st:lb}{rest:mv}{t u:TS}{e:l_}{te:TE}{pos:Pos}
def Gh:TS:=λD σ H=>D.nx σ H
def Hw(t u:TS):TS:=λD σ H=>t { D with nx:=u D } σ H
theorem Ba:PK X [] Gh:=λ_ _ σ H _ I h=>wpAny_execs_nil #[σ,H,I,h]
def pR(h1:PS X st t)(h2:PK X rest u):PK X (st::rest) (Hw t u):=by
 intro NK s σ H D I h;refine wpAny_execs_cons (Nf (h1 NK s σ H { D with nx:=u D } I h) λf b q=>?_);cases f with
 |next=>
  let[a,c,d,q]:=q
  exact h2 NK b a c D d q
 |ret v=>exact q
 |brk=>exact q
 |cont=>exact q
def ua(h1:PS X st t):PK X [st] t:=by
 intro NK s σ H D I h;refine wpAny_execs_cons (Nf (h1 NK s σ H D I h) λf a q=>?_);cases f with
 |next=>exact wpAny_execs_nil q
 |ret v=>exact q
 |brk=>exact q
 |cont=>exact q
def Inv.quiet{NK:l'}{σ:St}{H:Hp}{s:J4}(I:Inv X NK σ H s):interactive X.env=MZ:=by simp[interactive,I.ok.kind]
def CY(te:TE):TS:=λD σ H=>te σ H λ_ H1=>D.nx σ H1
def uH(he:PE X e te)(hs:LW e MX pos.line X.env=pure MZ:=by rfl):PS X (.Expr e pos) (CY te):=by intro NK s σ H D I h;exact wpAny_Expr_any (Nf (he NK s σ H _ I h) λv d a=>by let[x,H1,b,f,c]:=a;exact(#[σ,H1,b,c])) I.quiet hs
def Il(te:TE):TS:=λD σ H=>te σ H D.rt
def EC(he:PE X e te):PS X (.Return (MW e) pos) (Il te):=by intro NK s σ H D I h;exact wpAny_Return_some (Nf (he NK s σ H _ I h) λv f a=>by let[x,H1,b,c,d]:=a;exact(#[x,σ,H1,b,c,d]))
def Ja(c:TT)(t u:TS):TS:=λD σ H=>c σ H λb H1=>if b=MY then t D σ H1 else u D σ H1
def Gy{c:l_}{a b:mv}{tc:TT}(k:PT X c tc)(ha:PK X a t)(l:PK X b u):PS X (.If c a b pos) (Ja tc t u):=by
 intro NK s σ H D I h;refine wpAny_If (Nf (k NK s σ H _ I h) λd g f=>?_);let[H1,i,j]:=f;cases d with
 |true=>exact ha NK g σ H1 D i j
 |false=>exact l NK g σ H1 D i j
def xl:TS:=λ_ _ _=>False
theorem yo:PS X st xl:=λ_ _ _ _ _ _ h=>h.elim
theorem uZ{a:mv}:PK X a xl:=λ_ _ _ _ _ _ h=>h.elim
end
abbrev TG:=V->St->Hp->(St->Hp->Prop)->Prop
abbrev RB:=n7->St->Hp->(St->Hp->Prop)->Prop
def PG(X:Cx)(a:l_)(t:TG):Prop:=
 ∀(NK:l')(s:J4)(σ:St)(H:Hp)(v:V)(u:J3)(Q:St->Hp->Prop),Inv X NK σ H s->RelV v u->t v σ H Q->
  Jq (Ju X.prog X.w) X.A (assign a X.env u) (λ_ d=>∃b c,Inv X NK b c d/\Q b c) X.xe s
def Rc(X:Cx)(c:m3)(t:RB):Prop:=
 ∀(NK:l')(s:J4)(σ:St)(H:Hp)(vs:n7)(us:List J3)(Q:St->Hp->Prop),Inv X NK σ H s->Vals vs us->t vs σ H Q->
  Jq (Ju X.prog X.w) X.A (assignInOrder ((Lv c X.env).map (·.2)) us) (λ_ d=>∃a b,Inv X NK a b d/\Q a b) X.xe s
abbrev EJ:=V->V->V->Hp->(Hp->Prop)->Prop
def Gb(X:Cx)(t:EJ):Prop:=
 ∀(NK:l')(s:J4)(σ:St)(H:Hp)(o i v:V)(a b u:J3)(Q:Hp->Prop),Inv X NK σ H s->RelV o a->RelV i b->RelV v u->t o i v H Q->
  Jq (Ju X.prog X.w) X.A (setItem a b u) (λ_ d=>∃c,Inv X NK σ c d/\Q c) X.xe s
section
variable{X:Cx}{pos:Pos}
def f9(i:Nat):TG:=λv σ H Q=>Q (σ.set i (MW v)) H
def tU{i:Nat}{x:Str}(a:X.N.Nodup)(hi:X.N[i]?=MW x)(hx:Loc X.env.scope x)(b:X.fn x=MY\/X.env.scope.names.lookup x=MW .local:=by first|exact .inl rfl|exact .inr rfl|assumption):PG X (.Name x pos) (f9 i):=by intro NK s σ H v u Q I r h;exact wpAny_assign_Name (fY I a hi hx r (λd c=>#[_,H,c,h]) b)
def DR:RB:=λvs σ H Q=>vs=[]/\Q σ H
def o8(t:TG)(u:RB):RB:=λvs σ H Q=>∃v r,vs=v::r/\t v σ H λa b=>u r a b Q
def tG:Rc X [] DR:=by intro NK s σ H vs us Q I r h;let[e,h]:=h;subst e;cases r;exact assignInOrder_nil #[σ,H,I,h]
def lR{e:l_}{es:m3}{t:TG}{u:RB}(h1:PG X e t)(h2:Rc X es u) (hs:(Lv (e::es) X.env).map (·.2)=assign e X.env::(Lv es X.env).map (·.2):=by rfl):Rc X (e::es) (o8 t u):=by
 intro NK s σ H vs us Q I r h;let[v,i,e1,h]:=h;subst e1;cases r with
 |cons r c=>
  rw[hs]
  refine assignInOrder_cons (Nf (h1 NK s σ H _ _ _ I r h) λ_ d a=>?_)
  let[b,H1,f,g]:=a
  exact h2 NK d b H1 _ _ Q f c g
def FG(K:J1)(n:Nat)(t:RB):TG:=λv σ H Q=>∃a xs,v=.ref a/\Nl K H a xs/\xs.length=n/\t xs σ H Q
def wR{es:m3}{k:Nat}{t:RB}{n:Nat}(g:X.calm=MY)(h:Rc X es t)
 (i:(Lv es X.env).length=n:=by rfl) (c:(Lv es X.env).findIdx? (·.1)=MX:=by rfl):PG X (.Tuple es k pos) (FG X.K n t):=by
 intro NK s σ H v u Q I r d
 let[a,xs,e1,j,hl,d]:=d
 subst e1
 cases r
 let[l,f,ht,q]:=I.tuple j
 refine assign_Tuple_tuple (I.ok.hd g) ht (by simp[i,<-hl,f.length]) c λm hx=>?_
 let p:Inv X NK σ H { s with heap:=m }:=I.kept (t':=s.toks) λb o e=>hx b o (JH (Js e)) e
 exact h NK _ σ H xs _ Q p ‹f› d
def IB(to a:TE)(t:EJ):TG:=λv σ H Q=>to σ H λo H1=>a σ H1 λi b=>t o i v b λc=>Q σ c
def FE{o i:l_}{to f:TE}{t:EJ}(g:PE X o to)(hi:PE X i f)(hs:Gb X t)
 (ha:∀v,assign (.Subscript o i pos) X.env v=(do
  let d <-holding [v] (eval o X.env)
  let e <-holding [v,d] (eval i X.env)
  ML pos
  holding [v,d,e] (setItem d e v)
  release [v,d,e] []):=by intro _;rfl):PG X (.Subscript o i pos) (IB to f t):=by
 intro NK s σ H v u Q I r h
 rw[ha]
 refine J0 (Kl (Nf (g NK s σ H _ I h) λd j a=>?_))
 let[x,H1,k,l,m]:=a
 refine J0 (Kl (Nf (hi NK j σ H1 _ k m) λe n b=>?_))
 let[y,p,q,w,z]:=b
 refine J0 (KN (J0 (Kl (Nf (hs NK n σ p x y v d e u _ q l w r z) λ_ D c=>?_))))
 let[A,B,C]:=c
 exact wpAny_release #[σ,A,B,C]
def FL(te:TE)(g:TG):TS:=λD σ H=>te σ H λx H1=>g x σ H1 D.nx
def En{tg e:l_}{te:TE}{g:TG}(he:PE X e te)(b:PG X tg g)(hs:swapsWithSole [tg] e pos.line X.env=pure MZ:=by rfl)(hw:swappedStores [tg] e X.env=pure MX:=by rfl) (h1:(Lv [tg] X.env).map (·.2)=[assign tg X.env]:=by rfl):PS X (.Assign [tg] e pos) (FL te g):=by intro NK s σ H D I h;refine wpAny_Assign_stores (Nf (he NK s σ H _ I h) λv c a=>?_) hs hw;let[x,H1,d,f,i]:=a;rw[h1];exact Nf (b NK c σ H1 x v _ d f i) λ_ j q=>q
def Ex{i:Nat}{x:Str}{e:l_}{te:TE}{b:Pos}(c:X.N.Nodup)(hi:X.N[i]?=MW x)(hx:Loc X.env.scope x)(he:PE X e te)(hs:LW e (MW (.Name x b)) pos.line X.env=pure MZ:=by rfl)(d:X.fn x=MY\/X.env.scope.names.lookup x=MW .local:=by first|exact .inl rfl|exact .inr rfl|assumption) : PS X (.Assign [.Name x b] e pos) (FL te (f9 i)):=by intro NK s σ H D I h;refine wpAny_Assign_Name (Nf (he NK s σ H _ I h) λv l a=>?_) hs;let[y,H1,f,g,j]:=a;exact fY f c hi hx g (λm k=>#[_,H1,k,j]) d
def Jc(i j:Nat)(a:TA):TS:=λD σ H=>a σ H λvs H1=>∃v w,vs=[v,w]/\D.nx ((σ.set i (MW v)).set j (MW w)) H1
def DZ{i j:Nat}{x y:Str}{a b:l_}{C:TA}{l m pt:Pos}{n r d}(J:X.calm=MY)(E:X.N.Nodup)(hi:X.N[i]?=MW x)(K:X.N[j]?=MW y)(t:i≠j)
 (hx:X.env.scope.names.lookup x=MW .local) (F:X.env.scope.names.lookup y=MW .local) (ha:PA X [a,b] C)
 (hw:swappedStores [.Tuple [.Name x l,.Name y m] n pt] (.Tuple [a,b] r d) X.env=pure (MW [x,y]))
 (hs:swapsWithSole [.Tuple [.Name x l,.Name y m] n pt] (.Tuple [a,b] r d) pos.line X.env=pure MZ:=by rfl) :
 PS X (.Assign [.Tuple [.Name x l,.Name y m] n pt] (.Tuple [a,b] r d) pos) (Jc i j C):=by
 intro NK s σ H D I h
 rw[exec_Assign_arm]
 refine J0 (KN ?_)
 rw[hs]
 refine J0 (J5 ?_)
 rw[NA ⋯]
 refine J0 (Tuple_ (Nf (ha _ NK s σ H _ I h) λus f c=>?_))
 let[vs,H1,L,M,u]:=c
 let[v,w,e1,u]:=u
 subst e1
 obtain⟨g,k,rfl,O,z⟩:∃g k,us=[g,k]/\RelV v g/\RelV w k:=by
  cases M with
  |cons p q=>
   cases q with
   |cons P Q=>
    cases Q
    exact #[_,7,p,P]
 refine Kf ?_ (by show 2<=JJ;decide)
 let R:Inv X NK σ H1 { f with heap:=f.heap.push { cls:=.type "tuple",data:=.seq [g,k].toArray } }:=L.kept (t':=f.toks) λb o e=>J6 _ e
 rw[hw]
 refine J0 (J5 ?_)
 show Jq (Ju X.prog X.w) X.A (do rule "assign.swapped-stores";let items <-unpackItems (.ref f.z) 2 MX;assignInOrder [λv=>bindName X.env y v,λv=>bindName X.env x v] items.reverse;pure Flow.next) _ _ _
 refine J0 (wpAny_rule (J0 (unpackItems_tuple (items:=(List.toArray [g,k])) (I.ok.hd J) (IsTup.new f.heap _) λh' B=>?_)))
 let S:=R.kept (h':=h') (t':=f.toks) λb o e=>B b o (JH (Js e)) e
 show Jq _ _ (assignInOrder [λv=>bindName X.env y v,λv=>bindName X.env x v] [k,g] >>= λ_=>pure Flow.next) _ _ _
 refine J0 (assignInOrder_cons (wpAny_bindName (fY S E K (.inl F) z (λU T=>?_) (.inr F))))
 refine assignInOrder_cons (wpAny_bindName (fY T E hi (.inl hx) O (λV G=>assignInOrder_nil (J5 ?_)) (.inr hx)))
 rw[List.set_comm _ _ (Ne.symm t)]at G
 exact #[_,H1,G,u]
end
section
variable{X:Cx}{pos:Pos}
def DM(c:TT)(tb:TS):TS:=λD σ H=>∃W:Nat->St->Hp->Prop,(∃m,W m σ H)/\∀m σ H,W m σ H->
 c σ H λb H1=>if b=MY then ∃N:St->Hp->Prop,(∀a d,N a d->∃e,e<m/\W e a d)/\tb { D with nx:=N,ct:=N,bk:=D.nx } σ H1 else D.nx σ H1
def xC{c:l_}{body:mv}{tc:TT}{tb:TS}(r:PassesOwn (Ju X.prog X.w) X.A X.env X.xe)(z:PT X c tc)(B:PK X body tb):PS X (.While c body [] pos) (DM tc tb):=by
 intro NK s σ H D I h;obtain⟨W,⟨C,E⟩,g⟩:=h;refine wpAny_While (codeAny_whileLoop (λn F=>∃i t,Inv X NK i t F/\W n i t) ?_ C #[σ,H,I,E]);rintro n G ⟨d,H1,J,w1⟩;refine Mw r (Nf (z NK G d H1 _ J (g n d H1 w1)) λb K e=>?_);let[u,x,k]:=e;cases b with
 |true=>
  let[N,y,k]:=k
  rw[NB rfl]
  refine Mw r (Nf (B NK K d u _ x k) λf L l=>?_)
  cases f with
  |next=>
   let[a,j,m,n3]:=l
   let[o,p,q]:=y a j n3
   exact #[o,p,a,j,m,q]
  |cont=>
   let[a,j,m,n3]:=l
   let[o,p,q]:=y a j n3
   exact #[o,p,a,j,m,q]
  |brk=>exact l
  |ret v=>exact l
 |false=>
  rw[NA JO]
  exact wpAny_execs_nil #[d,u,x,k]
end
structure It where
 go:Nat->Hp->Prop
 yld:Nat->Hp->V->Hp->Prop
 stop:Nat->Hp->Prop
def cP(X:Cx)(NK:l')(H:Hp)(b:k_):Prop:=
 H b=MX/\b≠X.env.locals/\b∉X.fs/\(b∈X.ex\/X.s₀.z<=b)/\(∀x c,X.env.cells.lookup x=MW c->c≠b)/\∀p∈X.pn++NK,p.1≠b
def Inv.sS{X:Cx}{NK:l'}{σ:St}{H d:Hp}{s:J4}{b:k_}(I:Inv X NK σ H s)(a:s.z<=b)(f:d b=MX):cP X NK d b:=by
 refine #[f,Nat.ne_of_gt (JF I.lt a),I.II a,.inr (K0 I.sz a),λx c e z=>?_,λp g z=>?_]
 .obtain⟨v,q⟩:=I.cell x c e;exact absurd (JF q.lt (by rw[z];exact a)) (KS _)
 .exact absurd (JF (Js (I.pin p g).1) (by rw[z];exact a)) (KS _)
structure Turn(P:Jv)(w:JP)(K:J1)(tg:l_)(J:It)(fp:m_)(it:k_)(tn:Nat->lj->Prop):Prop where
 mem:it∈fp
 obj:∀i h,tn i h->∀b∈fp,∃o,h.get? b=MW o/\∀v,o.data≠.cell v
 keep:∀i h h',tn i h->(∀b∈fp,∀o,h.get? b=MW o->h'.get? b=MW o)->tn i h'
 item:∀(X:Cx),X.prog=P->X.w=w->X.K=K->X.calm=MY->∀(i:Nat)(NK:l')(s:J4)(σ:St)(H:Hp)(E:J3->J4->Prop),Inv X NK σ H s->(∀b∈fp,cP X NK H b)->tn i s.heap->J.go i H->
  Jq (Ju P w) X.A (MU (.ref it)) (λr s1=>∃u,r=MW u/\
   Jq (Ju P w) X.A (LK tg (.ref it) u) (λ_ s2=>∃x H',Inv X NK σ H' s2/\RelV x u/\J.yld i H x H'/\tn (i+1) s2.heap/\∀b∈fp,H' b=MX) E s1) E s
 done:∀(X:Cx),X.prog=P->X.w=w->X.K=K->X.calm=MY->∀(i:Nat)(NK:l')(s:J4)(σ:St)(H:Hp)(E:J3->J4->Prop),Inv X NK σ H s->(∀b∈fp,cP X NK H b)->tn i s.heap->J.stop i H->
  Jq (Ju P w) X.A (MU (.ref it)) (λr s1=>r=MX/\Inv X NK σ H s1) E s
 self:∀(A:JQ)(i:Nat)(s:J4)(Q:J3->J4->Prop)(E:J3->J4->Prop),tn i s.heap->Q (.ref it) s->Jq (Ju P w) A (pyIter (.ref it)) Q E s
abbrev TI:=St->Hp->(It->Hp->Prop)->Prop
def ZN(X:Cx)(NK:l')(σ:St)(tg:l_)(R:It->Hp->Prop)(a:J3)(d:J4):Prop:=
 ∃(it:k_) (fp:m_) (tn:Nat->lj->Prop) (J:It) (c:Hp),a=.ref it/\Inv X NK σ c d/\Turn X.prog X.w X.K tg J fp it tn/\tn 0 d.heap/\(∀b∈fp,cP X NK c b)/\R J c
def PI(X:Cx)(tg a:l_)(b:TI):Prop:=
 ∀(NK:l')(s:J4)(σ:St)(H:Hp)(R:It->Hp->Prop),Inv X NK σ H s->b σ H R->
  Jq (Ju X.prog X.w) X.A (eval a X.env) (λv c=>Jq (Ju X.prog X.w) X.A (pyIter v) (ZN X NK σ tg R) X.xe c) X.xe s
def yx{M:Model}{A:JQ}{E:J3->J4->Prop}{s:J4}{tg:l_}{it:k_}{u:J3}{o:Obj}{n:String}{vs:Array J3}{Q:Unit->J4->Prop}(b:s.heap.get? it=MW o)(c:o.cls=.type n)(hd:o.data=.fields vs) (d:["enumerate","zip","dict_itemiterator","dict_reverseitemiterator","odict_iterator","itertools.zip_longest","itertools.pairwise"].contains n=MZ) (a:Q .unit s):Jq M A (LK tg (.ref it) u) Q E s:=by
 unfold LK
 cases tg<;>first
  |exact J5 a
  |(cases u<;>first
   |exact J5 a
   |(refine J0 (wpAny_load b ?_)
     rw[c,hd]
     show Jq M A (if(["enumerate","zip","dict_itemiterator","dict_reverseitemiterator","odict_iterator","itertools.zip_longest","itertools.pairwise"].contains n&&vs[0]?==MW (Lw _))=MY then _ else _) Q E s
     rw[NA (by intro h;rw[d,Bool.false_and]at h;cases h)]
     exact J5 a))
def ZR(K:J1)(a:k_):It:=
 #[λi H=>∃xs x,Ni K H a xs/\xs[i]?=MW x,λi H x b=>b=H/\∀xs,Ni K H a xs->xs[i]?=MW x,λi H=>∃xs,Ni K H a xs/\xs.length<=i]
def ZQ(K:J1)(a:k_):It:=
 #[λi H=>∃xs x,Nl K H a xs/\xs[i]?=MW x,λi H x b=>b=H/\∀xs,Nl K H a xs->xs[i]?=MW x,λi H=>∃xs,Nl K H a xs/\xs.length<=i]
def Rz(lo:Int)(n:Nat):It:=#[λi _=>i<n,λi H x a=>a=H/\x=.int (lo+i),λi _=>n<=i]
def wL{P:Jv}{w:JP}{K:J1}{tg:l_}(a it:k_):Turn P w K tg (ZR K a) [it] it (λi h=>h.IsListIter it a i) where
 mem:=by simp
 obj:=λi h st b f=>by
  let e:b=it:=‹f›
  subst e
  let[o,e,c,d]:=st
  exact #[o,e,λv z=>by rw[d]at z;cases z]
 keep:=λi h j st k=>st.at λo e=>k it (_) o e
 item:=by
  intro X n q r J i NK s σ H E I l st t
  subst n q r
  let[xs,x,m,hx]:=t
  let[y,A,p,L]:=I.list m
  let[u,M,N]:=A.get hx
  let[B,C,O,D,F,G]:=l it (_)
  refine wpAny_pyNext_list_item st p.isList (x:=u) ‹M› λj g Q=>?_
  let R:Inv X NK σ H { s with heap:=j }:=I.turned (t':=s.toks) (λb o f e=>(Q.2 b f).trans e) B C D F G
  let[o,e,c,d]:=id g
  exact #[u,8,yx (s:={ s with heap:=j }) e c d ⋯ #[x,H,R,N,#[8,λT S=>by rw[I.iP S m];exact hx],g,λb f=>(l b f).1]]
 done:=by
  intro X n q r J i NK s σ H E I l st t
  subst n q r
  let[xs,m,hx]:=t
  let[y,A,p,L]:=I.list m
  let[B,C,O,D,F,G]:=l it (_)
  let hl:=A.length
  exact wpAny_pyNext_list_end (I.ok.hd J) st p.isList (by simp;omega) λj eb=>#[8,I.turned (t':=s.toks) (λb o f e=>eb b o f e) B C D F G]
 self:=λ_ _ _ _ _ st h=>wpAny_pyIter_listiter st h
def qL{P:Jv}{w:JP}{K:J1}{tg:l_}(a it:k_):Turn P w K tg (ZQ K a) [it] it (λi h=>h.IsTupleIter it a i) where
 mem:=by simp
 obj:=λi h st b f=>by
  let e:b=it:=‹f›
  subst e
  let[o,e,c,d]:=st
  exact #[o,e,λv z=>by rw[d]at z;cases z]
 keep:=λi h l st k=>st.at λo e=>k it (_) o e
 item:=by
  intro X q r t J i NK s σ H E I m st y
  subst q r t
  let[xs,x,n,hx]:=y
  let[g,A,p,L]:=I.tuple n
  let[u,M,N]:=A.get hx
  let[B,C,O,D,F,G]:=m it (_)
  refine wpAny_pyNext_tuple_item st (show s.heap.IsTuple a g.toArray from p) (x:=u) ‹M› λl j Q=>?_
  let R:Inv X NK σ H { s with heap:=l }:=I.turned (t':=s.toks) (λb o f e=>(Q.2 b f).trans e) B C D F G
  let[o,e,c,d]:=id j
  exact #[u,8,yx (s:={ s with heap:=l }) e c d ⋯ #[x,H,R,N,#[8,λT S=>by rw[I.ve S n];exact hx],j,λb f=>(m b f).1]]
 done:=by
  intro X q r t J i NK s σ H E I m st y
  subst q r t
  let[xs,n,hx]:=y
  let[g,A,p,L]:=I.tuple n
  let[B,C,O,D,F,G]:=m it (_)
  let hl:=A.length
  exact wpAny_pyNext_tuple_end (I.ok.hd J) st (show s.heap.IsTuple a g.toArray from p) (by simp;omega) λl eb=>#[8,I.turned (t':=s.toks) (λb o f e=>eb b o f e) B C D F G]
 self:=λ_ _ _ _ _ st h=>wpAny_pyIter_tupleiter st h
def sT{P:Jv}{w:JP}{K:J1}{tg:l_}(it:k_)(lo:Int)(n:Nat):Turn P w K tg (Rz lo n) [it] it (λi h=>IsRangeIter h it (lo+(i:Nat)*1) ((n:Int)-(i:Nat)) 1) where
 mem:=by simp
 obj:=λi h st b a=>by
  let e:b=it:=‹a›
  subst e
  exact #[_,st,λv z=>by
   let B:Data.fields _=Data.cell v:=z
   cases B]
 keep:=λi h d st k=>k it (_) _ st
 item:=by
  intro X g j l m i NK s σ H E I f st p
  subst g j l
  let[q,r,C,u,x,y]:=f it (_)
  let W:=Walks.range (prog:=X.prog) (w:=X.w) (I.ok.hd m) it lo 1 n
  refine W.item i s _ _ p st λv d A D c F=>?_
  let[t,8]:=D
  let G:Inv X NK σ H { s with heap:=d,toks:=A }:=I.turned (λb o a e=>F b o ‹a› e) q r u x y
  refine #[7,yx (s:={ s with heap:=d,toks:=A }) (n:="range_iterator") c rfl rfl ⋯ #[.int (lo+i),H,G,#[t,?_],#[8,rfl],c,λb a=>(f b a).1]]
  rw[Int.mul_one]
 done:=by
  intro X g j l m i NK s σ H E I f st p
  subst g j l
  let[q,r,C,u,x,y]:=f it (_)
  exact wpAny_pyNext_range_end (I.ok.hd m) st (by have:n<=i:=p;omega) λd eb=>#[8,I.turned (t':=s.toks) (λb o a e=>eb b o a e) q r u x y]
 self:=λ_ _ _ _ _ st h=>wpAny_pyIter_rangeiter st h
section
variable{X:Cx}{tg:l_}
def xo{NK:l'}{σ:St}{H:Hp}{s:J4}{R:It->Hp->Prop}{E:J3->J4->Prop}{lo hi:Int}{t u v:Tok}{tk:Nat}(I:Inv X NK σ H s)(h1:-(2^62)<=lo)(h2:lo<2^62)(c:-(2^62)<=hi)(d:hi<2^62)
 (q:R (Rz lo (hi-lo).toNat) H):Jq (Ju X.prog X.w) X.A (pyIter (.ref s.z)) (ZN X NK σ tg R) E { s with heap:=s.heap.push { cls:=.type "range",data:=.fields (List.toArray [.int lo t,.int hi u,.int 1 v]) },toks:=tk }:=by
 refine wpAny_pyIter_range (IsRange.new ..) (small_one h1 h2 c d) ?_
 let a:Inv X NK σ H { s with heap:=s.heap.push { cls:=.type "range",data:=.fields (List.toArray [.int lo t,.int hi u,.int 1 v]) },toks:=tk }:=I.kept λb o e=>J6 _ e
 refine #[(s.heap.push { cls:=.type "range",data:=.fields (List.toArray [.int lo t,.int hi u,.int 1 v]) }).objs.size,[(s.heap.push { cls:=.type "range",data:=.fields (List.toArray [.int lo t,.int hi u,.int 1 v]) }).objs.size],_,_,H,8,
  a.kept (t':=tk) λb o e=>J6 _ e,sT _ lo (hi-lo).toNat,?_,λb f=>?_,q]
 .have e1:lo+((0:Nat):Int)*1=lo:=by simp
  let e2:(((hi-lo).toNat:Nat):Int)-((0:Nat):Int)=Builtin.Range.rangeSize lo hi 1:=by rw[rangeSize_one];split<;>omega
  show IsRangeIter _ _ (lo+((0:Nat):Int)*1) ((((hi-lo).toNat:Nat):Int)-((0:Nat):Int)) 1
  rw[e1,e2]
  exact Jt _ rfl
 .have e:b=(s.heap.push { cls:=.type "range",data:=.fields (List.toArray [.int lo t,.int hi u,.int 1 v]) }).objs.size:=‹f›
  subst e
  exact a.sS (Jo _) (a.hok.fresh (Jo _))
def Gu(a:TA):TI:=λσ H R=>a σ H λvs H1=>∃j:Int,vs=[.int j]/\-(2^62)<=j/\j<2^62/\R (Rz 0 j.toNat) H1
def mY{a:l_}{f:TA}{p c:Pos}(g:Gl X "range")(i:X.mg "range"=MX)(ha:PA X [a] f)(hs:Jz [a] X.env=[(MZ,eval a X.env)]:=by rfl):PI X tg (.Call (.Name "range" p) [a] [] c) (Gu f):=by
 intro NK s σ H R I h;refine Call_ (f6 I g i boot_range (LA (Nf (ha c NK s σ H _ I h) λus o b=>?_) hs rfl));let[vs,H1,k,l,d]:=b;let[j,e,d,m,q]:=d;subst e;cases l with
 |cons r n=>
  cases n
  let[t,8]:=r
  exact call_range_1 (xo k () () d m ‹q›)
def Jh(e:TI)(g:TG)(tb:TS):TS:=λD σ H=>e σ H λJ H1=>∃W:Nat->Nat->St->Hp->Prop,(∃m,W 0 m σ H1)/\∀i m σ H,W i m σ H->
 (J.stop i H/\D.nx σ H)\/(J.go i H/\∃N:St->Hp->Prop,(∀a b,N a b->∃d,d<m/\W (i+1) d a b)/\∀x b,J.yld i H x b->g x σ b λc f=>tb { D with nx:=N,ct:=N,bk:=D.nx } c f)
def gF(fp:m_)(h:lj):l':=fp.filterMap λb=>(h.get? b).map λo=>(b,o)
theorem bF{fp:m_}{h:lj}{b:k_}{o:Obj}(a:b∈fp)(e:h.get? b=MW o):(b,o)∈gF fp h:=List.mem_filterMap.mpr #[b,a,by rw[e];rfl]
def u7{fp:m_}{h:lj}{p:k_×Obj}(a:p∈gF fp h):p.1∈fp/\h.get? p.1=MW p.2:=by
 let[b,c,e]:=List.mem_filterMap.mp a;cases q:h.get? b with
 |none=>rw[q]at e;cases e
 |some o=>
  rw[q]at e
  let d:(b,o)=p:=Option.some.inj e
  subst d
  exact #[c,q]
theorem Inv.pinned{NK:l'}{σ:St}{H:Hp}{s:J4}{fp:m_}(I:Inv X NK σ H s)(f:∀b∈fp,cP X NK H b)(g:∀b∈fp,∃o,s.heap.get? b=MW o/\∀v,o.data≠.cell v):Inv X (NK++gF fp s.heap) σ H s:=
 I.ud λp h=>(K5.mp h).elim (λz=>I.pin p (JL _ z)) λz=>by
  let[a,e]:=u7 z
  let[i,j,k,_]:=f p.1 a
  let[o,c,d]:=g p.1 a
  rw[e]at c;cases c
  exact #[e,i,j,k,d]
theorem Inv.dS{NK pl:l'}{σ:St}{H:Hp}{s:J4}(I:Inv X (NK++pl) σ H s):Inv X NK σ H s:=I.ud λp a=>I.pin p (JL _ (List.mem_append_left _ a))
def xP{c:l_}{body:mv}{Z:TI}{g:TG}{tb:TS}{Q:Pos}(K:PassesOwn (Ju X.prog X.w) X.A X.env X.xe)(hc:X.calm=MY)(hi:PI X tg c Z)(hg:PG X tg g)(j:PK X body tb)
 (hs:∀x,K6 c X.env x=pure x:=by intro _;rfl):PS X (.For tg c body [] Q) (Jh Z g tb):=by
 intro NK s σ H D I h
 refine wpAny_For (Nf (hi NK s σ H _ I h) λv s1 h1=>Nf h1 λa0 s2 h2=>?_) hs
 obtain⟨it,fp,tn,J,H2,e,I2,T,RP,f2,W,⟨m0,w0⟩,L⟩:=h2
 subst e
 let k:∀{z:Hp},(∀b∈fp,z b=MX)->∀b∈fp,cP X NK z b:=λhn b j=>#[hn b j,(f2 b j).2]
 refine codeAny_forLoop_any (λn s'=>∃i l z,Inv X NK l z s'/\tn i s'.heap/\(∀b∈fp,z b=MX)/\W i n l z) ?_ m0 #[0,σ,H2,I2,RP,λb j=>(f2 b j).1,w0]
 rintro n s3 ⟨i,p,P,I3,Pr,M,w3⟩
 rcases L i n p P w3 with⟨stop,qn⟩|⟨go,N,hN,step⟩
 .refine Mw K (Nf (T.done X rfl rfl rfl hc i NK s3 p P X.xe I3 (k M) Pr stop) λr s4 B=>?_)
  let[R,I4]:=B
  subst R
  exact wpAny_execs_nil #[p,P,I4,qn]
 .refine Mw K (Nf (T.item X rfl rfl rfl hc i NK s3 p P X.xe I3 (k M) Pr go) λr s4 C=>?_)
  let[u,R,h4]:=C
  subst R
  refine Mw K (Nf h4 λ_ s5 E=>?_)
  let[x,H5,I5,r5,y5,Ot,S]:=E
  let U:=I5.pinned (k S) (T.obj _ _ Ot)
  refine Mw K (Nf (hg _ s5 p H5 x u _ U r5 (step x H5 y5)) λ_ s6 F=>?_)
  let[V,H6,I6,q6]:=F
  refine Mw K (Nf (j _ s6 V H6 _ I6 q6) λf Y G=>?_)
  let q:∀{a:St}{t:Hp},Inv X (NK++gF fp s5.heap) a t Y->N a t->∃m,m<n/\∃i l z,Inv X NK l z Y/\tn i Y.heap/\(∀b∈fp,z b=MX)/\W i m l z:=λ{a t} y O=>by
   let[m',hm,w7]:=hN a t O
   refine #[m',hm,i+1,a,t,y.dS,T.keep _ _ _ Ot λb j o e=>(y.pin (b,o) (JL _ (JL _ (bF j e)))).1,λb j=>?_,w7]
   let[o,e,d]:=T.obj _ _ Ot b j
   exact(y.pin (b,o) (JL _ (JL _ (bF j e)))).2.1
  cases f with
  |next=>let[a,t,y,O]:=G;exact q y O
  |cont=>let[a,t,y,O]:=G;exact q y O
  |brk=>let[a,t,y,G]:=G;exact #[a,t,y.dS,G]
  |ret v=>let[x7,a,t,y,r7,G]:=G;exact #[x7,a,t,y.dS,r7,G]
end
def wa{lo:Int}{n:Nat}{g:TG}{tb:TS}{D:Ends}{σ:St}{H:Hp}(a:Nat->St->Hp->Prop)(h0:a 0 σ H)
 (hs:∀i σ H,i<n->a i σ H->g (.int (lo+i)) σ H λb h=>tb { D with nx:=a (i+1),ct:=a (i+1),bk:=D.nx } b h) (hd:∀σ H,a n σ H->D.nx σ H) :
 ∃W:Nat->Nat->St->Hp->Prop,(∃m,W 0 m σ H)/\∀i m σ H,W i m σ H->
  ((Rz lo n).stop i H/\D.nx σ H)\/((Rz lo n).go i H/\∃N:St->Hp->Prop,(∀c d,N c d->∃j,j<m/\W (i+1) j c d)/\∀x d,(Rz lo n).yld i H x d->g x σ d λb h=>tb { D with nx:=N,ct:=N,bk:=D.nx } b h):=by
 refine #[λi m σ H=>m=n-i/\i<=n/\a i σ H,#[n,by simp,Kh _,h0],?_]
 rintro i m σ H ⟨rfl,hi,p⟩
 by_cases f:i<n
 .refine .inr #[f,a (i+1),λc d k=>#[n-(i+1),(),8,f,k],λx d y=>?_]
  let[e,y]:=y
  subst e y
  exact hs i σ _ f p
 .have e:i=n:=()
  subst e
  exact .inl #[Jo _,hd σ H p]
abbrev R2:=V->V->Hp->VK->Prop
def OR(X:Cx)(f:J3->J3->Sem J3)(r:R2):Prop:=
 ∀(NK:l')(s:J4)(σ:St)(H:Hp)(x y:V)(v u:J3)(Q:VK),Inv X NK σ H s->RelV x v->RelV y u->r x y H Q->
  Jq (Ju X.prog X.w) X.A (f v u) (EP X NK σ Q) X.xe s
def Wh(X:Cx)(f:J3->Sem J3)(r:V->Hp->VK->Prop):Prop:=
 ∀(NK:l')(s:J4)(σ:St)(H:Hp)(x:V)(v:J3)(Q:VK),Inv X NK σ H s->RelV x v->r x H Q->
  Jq (Ju X.prog X.w) X.A (f v) (EP X NK σ Q) X.xe s
def bo(X:Cx)(f:J3)(r:n7->Hp->VK->Prop):Prop:=
 ∀(NK:l')(s:J4)(σ:St)(H:Hp)(xs:n7)(us:List J3)(Q:VK),Inv X NK σ H s->Vals xs us->r xs H Q->
  Jq (Ju X.prog X.w) X.A (call f us) (EP X NK σ Q) X.xe s
def IM(X:Cx)(r:V->Hp->(Bool->Hp->Prop)->Prop):Prop:=
 ∀(NK:l')(s:J4)(σ:St)(H:Hp)(x:V)(v:J3)(Q:Bool->Hp->Prop),Inv X NK σ H s->RelV x v->r x H Q->
  Jq (Ju X.prog X.w) X.A (truthy v) (TP X NK σ Q) X.xe s
def SA(r:R2)(a tb:TE):TE:=λσ H Q=>a σ H λx H1=>tb σ H1 λy b=>r x y b Q
def Zc(r:V->Hp->VK->Prop)(a:TE):TE:=λσ H Q=>a σ H λx H1=>r x H1 Q
def rI(C:Int->Int->Prop)(g:Int->Int->V):R2:=λx y H Q=>∃i j,x=.int i/\y=.int j/\C i j/\Q (g i j) H
def RF(g:Int->Int->V):R2:=λx y H Q=>∃i j,x=.int i/\y=.int j/\Q (g i j) H
def rU(g:Int->V):V->Hp->VK->Prop:=λx H Q=>∃i,x=.int i/\Q (g i) H
section
variable{X:Cx}{a b c:l_}{ta tb tc:TE}{pos:Pos}
def EV(ha:PE X a ta)(l:PE X b tb){NK:l'}{s:J4}{σ:St}{H:Hp}{R:V->V->Hp->Prop}(I:Inv X NK σ H s) (h:ta σ H λx H1=>tb σ H1 λy g=>R x y g) {Q:J3->J4->Prop} {f:J3->J3->Sem J3} (m:∀v u k x y g,Inv X NK σ g k->RelV x v->RelV y u->R x y g->Jq (Ju X.prog X.w) X.A (f v u) Q X.xe k) : Jq (Ju X.prog X.w) X.A (eval a X.env) (λv i=>Jq (Ju X.prog X.w) X.A (eval b X.env) (λu j=>Jq (Ju X.prog X.w) X.A (f v u) Q X.xe j) X.xe i) X.xe s:=by refine Nf (ha NK s σ H _ I h) λv n d=>?_;let[x,H1,o,p,q]:=d;refine Nf (l NK n σ H1 _ o q) λu k e=>?_;let[y,g,r,t,z]:=e;exact m v u k x y g r p t z
def F8{op:Operator}{r:R2}(d:OR X (Mz op) r)(ha:PE X a ta)(e:PE X b tb):PE X (.BinOp a op b pos) (SA r ta tb):=by intro NK s σ H Q I h;exact wpAny_BinOp (EV ha e I h λv u f x y g i j k q=>d NK f σ g x y v u Q i j k q)
def GD{op:UnaryOp}{r:V->Hp->VK->Prop}(e:Wh X (unaryOp op) r)(ha:PE X a ta):PE X (.UnaryOp op a pos) (Zc r ta):=by intro NK s σ H Q I h;exact UnaryOp_ (Nf (ha NK s σ H _ I h) λv f d=>by let[x,H1,g,i,j]:=d;exact(e NK f σ H1 x v Q g i j))
def Wz{f:J3->J3->Sem J3}{C:Int->Int->Prop}{g:Int->Int->Int} (d:∀(i j:Int)(t u:Tok)(s:J4)(Q:J3->J4->Prop)(E:J3->J4->Prop),C i j->Q (.int (g i j) s.toks) { s with toks:=s.toks+1 }->Jq (Ju X.prog X.w) X.A (f (.int i t) (.int j u)) Q E s) : OR X f (rI C λi j=>.int (g i j)):=by intro NK s σ H x y v u Q I e k h;let[i,j,8,8,l,q]:=h;let[t,8]:=e;let[m,8]:=k;exact d i j t m s _ _ l #[.int (g i j),H,I.tok _,#[_,rfl],q]
def Hd{f:J3->J3->Sem J3}{g:Int->Int->Int} (d:∀(i j:Int)(t u:Tok)(s:J4)(Q:J3->J4->Prop)(E:J3->J4->Prop),Q (.int (g i j) s.toks) { s with toks:=s.toks+1 }->Jq (Ju X.prog X.w) X.A (f (.int i t) (.int j u)) Q E s) : OR X f (RF λi j=>.int (g i j)):=by intro NK s σ H x y v u Q I e k h;let[i,j,8,8,q]:=h;let[t,8]:=e;let[l,8]:=k;exact d i j t l s _ _ #[.int (g i j),H,I.tok _,#[_,rfl],q]
def Cz{f:J3->J3->Sem J3}{g:Int->Int->Bool} (d:∀(i j:Int)(t u:Tok)(s:J4)(Q:J3->J4->Prop)(E:J3->J4->Prop),Q (.bool (g i j)) s->Jq (Ju X.prog X.w) X.A (f (.int i t) (.int j u)) Q E s) : OR X f (RF λi j=>.bl (g i j)):=by intro NK s σ H x y v u Q I e k h;let[i,j,8,8,q]:=h;let[t,8]:=e;let[l,8]:=k;exact d i j t l s _ _ #[.bl (g i j),H,I,8,q]
def F2(i j:Int):Prop:=0<=j/\j<=1000000/\i.natAbs<2^64
theorem D2:OR X (Mz .Add) (RF λi j=>.int (i+j)):=Hd λ_ _ _ _ _ _ _ q=>add_int q
theorem E5:OR X (Mz .Sub) (RF λi j=>.int (i-j)):=Hd λ_ _ _ _ _ _ _ q=>sub_int q
theorem Bg:OR X (Mz .Mod) (rI (λ_ j=>j≠0) λi j=>.int (i.fmod j)):=Wz λ_ _ _ _ _ _ _ d q=>mod_int' d q
theorem D6:OR X (Mz .Pow) (rI F2 λi j=>.int (i^j.toNat)):=Wz λ_ _ _ _ _ _ _ d q=>pow_int_small d.1 d.2.1 d.2.2 q
def Z0{f:J3->Sem J3}{g:Int->Int} (d:∀(i:Int)(t:Tok)(s:J4)(Q:J3->J4->Prop)(E:J3->J4->Prop),Q (.int (g i) s.toks) { s with toks:=s.toks+1 }->Jq (Ju X.prog X.w) X.A (f (.int i t)) Q E s) : Wh X f (rU λi=>.int (g i)):=by intro NK s σ H x v Q I e h;let[i,8,q]:=h;let[t,8]:=e;exact d i t s _ _ #[.int (g i),H,I.tok _,#[_,rfl],q]
theorem Ft:Wh X (unaryOp .USub) (rU λi=>.int (-i)):=Z0 λ_ _ _ _ _ q=>neg_int q
end
section
variable{X:Cx}{a b c:l_}{ta tb tc:TE}{pos:Pos}
theorem GP:OR X (K8 .Lt) (RF λi j=>.bl (decide (i<j))):=Cz λ_ _ _ _ _ _ _ q=>lt_int q
theorem GZ:OR X (K8 .LtE) (RF λi j=>.bl (decide (i<=j))):=Cz λ_ _ _ _ _ _ _ q=>le_int q
theorem F0:OR X (K8 .Gt) (RF λi j=>.bl (decide (j<i))):=Cz λ_ _ _ _ _ _ _ q=>gt_int q
theorem GB:OR X (K8 .GtE) (RF λi j=>.bl (decide (j<=i))):=Cz λ_ _ _ _ _ _ _ q=>ge_int q
def OR.or{f:J3->J3->Sem J3}{r d:R2}(h:OR X f r)(h':OR X f d):OR X f (λx y H Q=>r x y H Q\/d x y H Q):=by
 intro NK s σ H x y v u Q I e g q;rcases q with q|q
 .exact h NK s σ H x y v u Q I e g q
 .exact h' NK s σ H x y v u Q I e g q
def yH(b:l_){op:CmpOp}(h:op≠.In:=by decide)(h2:op≠.NotIn:=by decide):MI op b=MZ:=by
 let e1:(op==CmpOp.In)=MZ:=by cases op<;>first|rfl|exact absurd rfl h
 let e2:(op==CmpOp.NotIn)=MZ:=by cases op<;>first|rfl|exact absurd rfl h2
 cases b<;>simp[MI,e1,e2]
def BX{op:CmpOp}{r:R2}(d:OR X (K8 op) r)(ha:PE X a ta)(e:PE X b tb)(f:MI op b=MZ):PE X (.Compare a [op] [b] pos) (SA r ta tb):=by intro NK s σ H Q I h;exact wpAny_Compare1 (EV ha e I h λv u g x y i j k l q=>d NK g σ i x y v u Q j k l q) f
def xv(t:TE):TT:=λσ H Q=>t σ H λx d=>∃k,x=.bl k/\Q k d
def Bu{op:CmpOp}{r:R2}(d:OR X (K8 op) r)(ha:PE X a ta)(f:PE X b tb)(g:MI op b=MZ):PT X (.Compare a [op] [b] pos) (xv (SA r ta tb)):=by intro NK s σ H Q I h;refine wpAny_isTrue_Compare1 (Nf (ha NK s σ H _ I h) λv i ⟨x,H1,j,l,m⟩=>Nf (f NK i σ H1 _ j m) λu n ⟨y,o,p,q,t⟩=>Nf (d NK n σ o x y v u _ p l q t) λc D ⟨z,w,A,B,k,e,C⟩=>?_) g;subst e;cases B;exact Le #[w,A,C]
def zA(r e:R2)(ta tb tc:TE):TE:=λσ H Q=>ta σ H λx H1=>tb σ H1 λy f=>r x y f λz d=>∃k,z=.bl k/\
 (if k=MY then tc σ d λg h=>e y g h Q else Q (.bl MZ) d)
def Aa{op g:CmpOp}{r j:R2}(p:OR X (K8 op) r)(i:OR X (K8 g) j)(ha:PE X a ta)(q:PE X b tb)(t:PE X c tc) (w:lastMarks [op,g] [b,c]=MZ:=by with_unfolding_all rfl):PT X (.Compare a [op,g] [b,c] pos) (xv (zA r j ta tb tc)):=by
 intro NK s σ H Q I h;refine isTrue_chain (Nf (ha NK s σ H _ I h) λv A ⟨x,H1,B,C,D⟩=>test_link (Nf (q NK A σ H1 _ B D) λu E ⟨y,F,G,l,J⟩=>Nf (p NK E σ F x y v u _ G C l J) λd K ⟨z,m,n,L,k,e,o⟩=>?_)) w;subst e;cases L;refine Le ?_;cases k with
 |false=>
  let[k',M,N]:=o
  cases M
  exact ite_ff #[m,n,N]
 |true=>
  refine ite_tt (test_last (Nf (t NK K σ m _ n o) λO P ⟨R,S,T,U,V⟩=>Nf (i NK P σ S y R u O _ T l U V) λd' s5 f=>?_))
  let[z2,W,Y,Z,k2,e2,q5]:=f
  subst e2
  cases Z
  exact Le #[W,Y,q5]
def HM(K:J1)(x:V)(H:Hp)(k:Bool):Prop:=
 match x with
 |.non=>k=MZ
 |.bl b=>k=b
 |.int i=>k=(i != 0)
 |.str y=>y.length<=JJ/\k=((y.length:Int) != 0)
 |.byt y=>y.size<=JJ/\k=((y.size:Int) != 0)
 |.ref p=>(∃xs,Ni K H p xs/\k=!xs.isEmpty)\/(∃xs,Nl K H p xs/\k=!xs.isEmpty)\/∃kvs,H p=MW (.dK kvs)/\k=!kvs.isEmpty
 |_=>False
def qP{κ:Type}{kvs:List (κ×V)}{vs:List (κ×J3)}(r:KV kvs vs):(!vs.isEmpty)=!kvs.isEmpty:=by cases r<;>rfl
def lz{xs:n7}{its:List J3}(r:Vals xs its):(!its.toArray.isEmpty)=!xs.isEmpty:=by cases r<;>simp
def i9:(JJ:Nat)<2^63:=by rw[Ku];decide
def Ea:IM X (λx H Q=>∃k,HM X.K x H k/\Q k H):=by
 intro NK s σ H x v Q I g h;let[k,e,q]:=h;let hl:=i9;let hs:JJ=16777216:=Ku;cases x with
 |non=>
  cases g
  let d:k=MZ:=e
  subst d
  exact truthy_none #[H,I,q]
 |bl b=>
  cases g
  let d:k=b:=e
  subst d
  exact Le #[H,I,q]
 |int i=>
  let[t,8]:=g
  let d:k=(i != 0):=e
  subst d
  exact PySem.P.truthy_int #[H,I,q]
 |str y=>
  let[t,8]:=g
  obtain⟨n,d⟩:y.length<=JJ/\k=((y.length:Int) != 0):=e
  subst d
  exact PySem.P.truthy_str () #[H,I.tok _,q]
 |byt y=>
  let[t,8]:=g
  obtain⟨n,d⟩:y.size<=JJ/\k=((y.size:Int) != 0):=e
  subst d
  exact PySem.W.truthy_bytes () #[H,I.tok _,q]
 |ref p=>
  cases g
  let d:(∃xs,Ni X.K H p xs/\k=!xs.isEmpty)\/(∃xs,Nl X.K H p xs/\k=!xs.isEmpty)\/∃kvs,H p=MW (.dK kvs)/\k=!kvs.isEmpty:=e
  rcases d with⟨xs,hx,d⟩|⟨xs,hx,d⟩|⟨kvs,hx,d⟩
  .subst d;let[j,r,pl,l]:=I.list hx;let f:=r.length;exact wpAny_truthy_list pl.isList (by simp only[Jw];omega) #[H,I.tok _,by rw[lz r];exact q]
  .subst d;let[j,r,pl,l]:=I.tuple hx;let f:=r.length;exact truthy_tuple pl (by simp only[Jw];omega) #[H,I.tok _,by rw[lz r];exact q]
  .subst d;obtain⟨l,o,vs,r,m⟩:kvs.length<=JJ/\(p==LL)=MZ/\∃vs,KV kvs vs/\s.heap.DictOf (oU X.prog X.w) p vs:=I.hok p _ hx;let f:kvs.length=vs.length:=Paired.length r;exact wpAny_truthy_dict o m () #[H,I.tok _,by rw[qP r];exact q]
 |_=>exact(show False from e).elim
def xH(ha:PE X a ta)(he:∀whole,isTrue a X.env whole=(do let v <-whole;ML a.pos;holding [v] (truthy v))) :
 PT X a (λσ H Q=>ta σ H λx e=>∃k,HM X.K x e k/\Q k e):=by
 intro NK s σ H Q I h
 exact isTrue_plain (Nf (ha NK s σ H _ I h) λv f d=>by let[x,H1,g,i,j]:=d;exact(Ea NK f σ H1 x v Q g i j)) (he _)
def vals1{x:V}{us:List J3}(r:Vals [x] us):∃u,us=[u]/\RelV x u:=by
 cases r with
 |cons d e=>cases e;exact #[7,d]
def vals2{x y:V}{us:List J3}(r:Vals [x,y] us):∃u d,us=[u,d]/\RelV x u/\RelV y d:=by
 cases r with
 |cons e f=>
  cases f with
  |cons g h=>cases h;exact #[_,7,e,g]
def za:bo X (.builtin "abs") (λxs H Q=>∃i,xs=[.int i]/\Q (.int (if i<0 then -i else i)) H):=by intro NK s σ H xs us Q I r h;let[i,8,q]:=h;let[u,8,t,8]:=vals1 r;exact call_abs_int λu d=>#[.int (if i<0 then -i else i),H,I.tok _,#[_,rfl],q]
def vI(e:X.calm=MY):bo X (.builtin "max") (λxs H Q=>∃i j,xs=[.int i,.int j]/\Q (.int (if j>i then j else i)) H):=by
 intro NK s σ H xs us Q I r h;let[i,j,8,q]:=h;obtain⟨u,f,rfl,⟨t,rfl⟩,⟨g,rfl⟩⟩:=vals2 r;refine max_two_ints (I.ok.hd e) λl m k=>#[_,H,I.kept k,?_,q];by_cases d:j>i
 .rw[NB d,NB d];exact #[_,rfl]
 .rw[NA d,NA d];exact #[_,rfl]
def vf(e:X.calm=MY):bo X (.builtin "min") (λxs H Q=>∃i j,xs=[.int i,.int j]/\Q (.int (if j<i then j else i)) H):=by
 intro NK s σ H xs us Q I r h;let[i,j,8,q]:=h;obtain⟨u,f,rfl,⟨t,rfl⟩,⟨g,rfl⟩⟩:=vals2 r;refine min_two_ints (I.ok.hd e) λl m k=>#[_,H,I.kept k,?_,q];by_cases d:j<i
 .rw[NB d,NB d];exact #[_,rfl]
 .rw[NA d,NA d];exact #[_,rfl]
def vY:bo X (.type "int") (λxs H Q=>(∃i,xs=[.int i]/\Q (.int i) H)\/∃k,xs=[.bl k]/\Q (.int (if k then 1 else 0)) H):=by
 intro NK s σ H xs us Q I r h;rcases h with⟨i,rfl,q⟩|⟨k,rfl,q⟩
 .obtain⟨u,rfl,t,rfl⟩:=vals1 r;exact call_int_int #[.int i,H,I,#[_,rfl],q]
 .obtain⟨u,rfl,d⟩:=vals1 r;cases d;exact call_int_bool #[.int (if k then 1 else 0),H,I.tok _,#[_,rfl],q]
end
structure Py(h:lj)(x dx C:k_)(mA:Str->Option J3):Prop where
 obj:h.get? x=MW (LZ C dx)
 ns:h.Ns1 dx mA
 ne:dx≠x
def ju{h:lj}{c:k_}{mA:Str->Option J3}(n:h.Ns1 c mA):∃od,h.get? c=MW od/\∀name,PySem.W.lookIn name od=MW (mA name):=by
 let[o,es,ep,d,hd,f,_,g]:=n;refine #[o,d,λname=>?_];let e:=g name;unfold nsFind findBy at e;rw[<-Array.find?_toList]at e;unfold PySem.W.lookIn;rw[hd];dsimp only;split
 .rename_i y q;rw[q]at e;exact congrArg MW e
 .rename_i q;rw[q]at e;let a:es.toList.any (·.refKey)=MZ:=by rw[List.any_eq_false];intro y i;let[z,t,b]:=f y (Array.mem_toList_iff.mp i);simp[DictEntry.refKey,b]
  let j:¬es.toList.any (·.refKey)=MY:=by rw[a];exact JO
  rw[NA j];exact congrArg MW e
theorem Py.look{h:lj}{x a C:k_}{mA:Str->Option J3}(I:Py h x a C mA):∃od,PySem.W.InstAt h x (LZ C a) C (MW od)/\∀name,PySem.W.lookIn name od=MW (mA name):=
 let⟨od,b,hl⟩:=ju I.ns
 #[od,#[I.obj,8,8,b],hl]
section
variable{prog:Jv}{w:JP}{A:JQ}{E:J3->J4->Prop}{s:J4}{K:J1}{x dx C f:k_}{mA:Str->Option J3}{name:Str}{v:J3}
def get_map{a:Bool}{Q:J3->J4->Prop}(X:K.In s.heap)(I:Py s.heap x dx C mA)(c:PySem.W.plainGet K C name=MY)(d:KJ K C=MY) (ha:Ko K (.ref C) name=MW MX) (e:mA name=MW v) (b:PySem.W.handedIn v=MY) (h:Q v { s with toks:=s.toks+1 }) : Jq (Ju prog w) A (getAttr (.ref x) name a) Q E s:=by let[od,J,hl]:=I.look;exact PySem.W.get_value X J (PySem.W.plainGet_of c).1 (PySem.W.findObj_own d ha rfl (by rw[hl,e])) b h
def xW{pl:Sem Bool}{Q:J3×List J3->J4->Prop}(X:K.In s.heap)(I:Py s.heap x dx C mA)(a:PySem.W.plainGet K C name=MY) (b:Ko K (.ref C) name=MW (MW (.ref f))) (ht:PySem.W.isFn K (.ref f)=MY) (c:mA name=MX) (h:Q (.ref f,[.ref x]) s) : Jq (Ju prog w) A (getMethod (.ref x) name pl) Q E s:=by let[od,J,hl]:=I.look;exact PySem.W.method_fn X J (PySem.W.plainGet_of a).1 (PySem.W.plainGet_of a).2 b (beq_iff_eq.mp ht) (by show(PySem.W.lookIn name od).map (·.isSome)=MW MZ;rw[hl,c];rfl) h
def Bb{ns:nj}{Q:Unit->J4->Prop}(X:K.In s.heap)(I:Py s.heap x dx C mA)
 (hs:Ko K (.ref C) "__setattr__"=MW (MW (.builtin "object.__setattr__"))) (k:PySem.W.plainOver K C=MY) (ht:PySem.W.takerIn K C name=MW MX) (l:KJ K C=MY)
 (hw:PySem.Within mA ns) (hsz:ns.length<=JJ)
 (h:∀h',Py h' x dx C (λy=>if y=name then MW v else mA y)->LN dx s.heap h'->Q ⟨⟩ { s with heap:=h',toks:=s.toks+2 }) :
 Jq (Ju prog w) A (setAttr (.ref x) name v) Q E s:=by
 let[od,J,hl]:=I.look
 refine PySem.W.set_plain X J hs (PySem.W.osa_open (s:={ s with toks:=s.toks+1 }) (r:=MX) X J k ht λb=>?_)
 let[p,m,e]:=PySem.W.any_some l
 let hx:s.heap.get? x=MW #[.ref C,MW dx,.plain,#[]]:=I.obj
 refine J0 (J5 (J0 (J0 (wpAny_loadPart hx (J0 (PySem.W.Looks.here (s:={ s with toks:=s.toks+1 }) (PySem.W.looks_clsIn X m) ?_))))))
 rw[e]
 refine J5 (a:=MW dx) (J0 (J5 (J0 ?_)))
 refine wpAny_nsSet1 (s:={ s with toks:=s.toks+1 }) I.ns λh' c d=>?_
 let[q,n,o,g,i,j]:=c.count (PySem.Within.cons name v hw)
 refine J0 (wpAny_lookBehind g (by rw[i];exact pastItsLine_dict (K0 j (by rw[JE];omega))) ?_)
 exact J5 (h _ #[(d.2 _ (Ne.symm I.ne)).trans I.obj,c,I.ne] d)
def wW{R:Result->J4->Prop}{vs:List J3}{kw:List (Str×J3)}(X:K.In s.heap)(a:PySem.W.makesIn K C=MY)
 (hi:Ko K (.ref C) "__init__"=MW (MW (.ref f))) (b:PySem.W.typeIn K (.ref f)=MW (.type "function"))
 (h:L5 (Ju prog w) (A.under (.builtin "type.__call__" #[.ref C::vs,kw])) (.call (.ref f) #[.ref (s.z+1)::vs,kw]) (PySem.W.InitBack (s.z+1) R)
  { s with heap:=(s.heap.push Ln).push (LZ C s.z) }) :
 L5 (Ju prog w) A (.call (.ref C) #[vs,kw]) R s:=by
 let[c,g,d,t,os]:=s
 exact PySem.W.make_core (PySem.W.makes_of X a) (PySem.W.looks_findIn X hi) (λself=>PySem.W.bind_fn X self b) (.inl rfl) h
end
def d8(f:Str)(v:V):List (Str×V)->List (Str×V)
 |[]=>[(f,v)]
 |(g,x)::r=>if g=f then(g,v)::r else(g,x)::d8 f v r
theorem gG(f g:Str)(v:V):∀fs:List (Str×V),(d8 f v fs).lookup g=if g=f then MW v else fs.lookup g
 |[]=>by
  show LQ g [(f,v)]=_
  by_cases h:g=f
  .have a:(g==f)=MY:=beq_iff_eq.mpr h
   simp only[LQ,a,NB h]
  .have a:(g==f)=MZ:=beq_eq_false_iff_ne.mpr h
   simp only[LQ,a,NA h]
 |(k,x)::r=>by
  let c:=gG f g v r
  rw[show d8 f v ((k,x)::r)=(if k=f then(k,v)::r else(k,x)::d8 f v r)from rfl]
  by_cases b:k=f
  .rw[NB b]
   by_cases h:g=k
   .have a:(g==k)=MY:=beq_iff_eq.mpr h
    simp only[LQ,a,NB (h.trans b)]
   .have a:(g==k)=MZ:=beq_eq_false_iff_ne.mpr h
    simp only[LQ,a,NA (λe:g=f=>h (e.trans b.symm))]
  .rw[NA b]
   by_cases h:g=k
   .have a:(g==k)=MY:=beq_iff_eq.mpr h
    simp only[LQ,a,NA (λe:g=f=>b (h.symm.trans e))]
   .have a:(g==k)=MZ:=beq_eq_false_iff_ne.mpr h
    simp only[LQ,a]
    exact c
theorem eN(f:Str)(v:V):∀fs:List (Str×V),f∈(d8 f v fs).map (·.1)/\∀g,g∈fs.map (·.1)->g∈(d8 f v fs).map (·.1)
 |[]=>#[by simp[d8],λg h=>by simp at h]
 |(k,x)::r=>by
  let[b,c]:=eN f v r
  rw[show d8 f v ((k,x)::r)=(if k=f then(k,v)::r else(k,x)::d8 f v r)from rfl]
  by_cases a:k=f
  .rw[NB a]
   subst a
   exact #[by simp,λg h=>‹h›]
  .rw[NA a]
   refine #[?_,λg h=>?_]
   .rw[J9]
    exact JC _ b
   .rw[J9]at h ⊢
    rcases JU.mp h with e|e
    .exact JU.mpr (.inl e)
    .exact JC _ (c g e)
theorem jU(f:Str)(v:V):∀fs:List (Str×V),(d8 f v fs).length<=fs.length+1
 |[]=>by simp[d8]
 |(k,x)::r=>by
  let b:=jU f v r
  rw[show d8 f v ((k,x)::r)=(if k=f then(k,v)::r else(k,x)::d8 f v r)from rfl]
  by_cases a:k=f
  .rw[NB a,JE,JE];omega
  .rw[NA a,JE,JE];omega
def iU.some_of{v:V}{o:Option J3}(r:iU (MW v) o):∃u,o=MW u/\RelV v u:=by
 cases o with
 |none=>exact(show False from r).elim
 |some u=>exact #[u,8,r]
def iU.none_of{o:Option J3}(r:iU MX o):o=MX:=by
 cases o with
 |none=>rfl
 |some u=>exact(show False from r).elim
def m6{v:V}{u:J3}(r:RelV v u):PySem.W.handedIn u=MY:=by
 cases v with
 |non=>cases (show u=Lg from r);rfl
 |bl b=>cases (show u=Value.bool b from r);rfl
 |int i=>let[t,e]:=(show ∃t,u=KZ i t from r);cases e;rfl
 |str x=>let[t,e]:=(show ∃t,u=Value.str x t from r);cases e;rfl
 |byt b=>let[t,e]:=(show ∃t,u=Value.bytes b t from r);cases e;rfl
 |flt b=>let[t,e]:=(show ∃t,u=Value.float b t from r);cases e;rfl
 |ref a=>cases (show u=JV a from r);rfl
 |ty n=>cases (show u=MS n from r);rfl
section
variable{P:Jv}{w:JP}{H H':Hp}{h h':lj}{a C dx:k_}{fs NI:List (Str×V)}
def gK(hok:O8 P w H h)(e:H a=MW (.ins C dx fs)):∃mA,Py h a dx C mA/\(∀f,iU (fs.lookup f) (mA f))/\PySem.Within mA (fs.map (·.1))/\fs.length<=1000/\H dx=MW (.own a):=by let[d,z,ne,ob,mA,n,r,q]:=(show bB P w H h a (.ins C dx fs)from hok a _ e);exact #[mA,#[ob,n,ne],r,q,z,d]
end
structure Cls(K:J1)(C:k_):Prop where
 pg:PySem.W.plainGet K C Str.empty=MY
 hd:KJ K C=MY
 po:PySem.W.plainOver K C=MY
 sa:Ko K (.ref C) "__setattr__"=MW (MW (.builtin "object.__setattr__"))
theorem Cls.get{K:J1}{C:k_}(c:Cls K C)(f:Str):PySem.W.plainGet K C f=MY:=c.pg
def bV(K:J1)(C:k_)(f:Str):Prop:=Ko K (.ref C) f=MW MX
def bV.Ha{K:J1}{C:k_}{f:Str}(n:bV K C f):PySem.W.takerIn K C f=MW MX:=by unfold PySem.W.takerIn;rw[show Ko K (.ref C) f=MW MX from n];rfl
structure Meth(K:J1)(C:k_)(m:Str)(f:k_):Prop where
 at_:Ko K (.ref C) m=MW (MW (.ref f))
 fn:PySem.W.isFn K (.ref f)=MY
 kp:Kz K (.ref f)=MY
section
variable{X:Cx}{NK:l'}{σ:St}{H:Hp}{s:J4}{a C dx:k_}{fs:List (Str×V)}{f:Str}{v:V}{A:JQ}{E:J3->J4->Prop}
def rW{b:Bool}{Q:J3->J4->Prop}(I:Inv X NK σ H s)(e:H a=MW (.ins C dx fs))(c:Cls X.K C)(n:bV X.K C f)(l:fs.lookup f=MW v) (h:∀u d,Inv X NK σ H d->RelV v u->Q u d):Jq (Ju X.prog X.w) A (getAttr (.ref a) f b) Q E s:=by let[mA,O,r,_,_,_]:=gK I.hok e;let[u,i,g]:=iU.some_of (v:=v) (o:=mA f) (by rw[<-l];exact r f);exact get_map I.kIn O (c.get f) c.hd n i (m6 g) (h u _ (I.tok _) g)
def si{m:Str}{g:k_}{pl:Sem Bool}{Q:J3×List J3->J4->Prop}(I:Inv X NK σ H s)(e:H a=MW (.ins C dx fs))(c:Cls X.K C)(k:Meth X.K C m g)(l:fs.lookup m=MX)
 (h:Q (.ref g,[.ref a]) s):Jq (Ju X.prog X.w) A (getMethod (.ref a) m pl) Q E s:=by
 let[mA,O,r,_,_,_]:=gK I.hok e
 let b:mA m=MX:=iU.none_of (by rw[<-l];exact r m)
 exact xW I.kIn O (c.get m) k.at_ k.fn b h
def ra{y:V}{u:J3}{Q:Unit->J4->Prop}(I:Inv X NK σ H s)(e:H a=MW (.ins C dx fs))(c:Cls X.K C)(n:bV X.K C f)(hl:fs.length<1000)(l:RelV y u)
 (h:∀i,Inv X NK σ (upd H a (.ins C dx (d8 f y fs))) i->Q .unit i):Jq (Ju X.prog X.w) A (setAttr (.ref a) f u) Q E s:=by
 let[mA,O,r,j,_,k]:=gK I.hok e
 let m:(fs.map (·.1)).length<=JJ:=by rw[J7,Ku];omega
 refine Bb I.kIn O c.sa c.po n.Ha c.hd j m λp d t=>h _ ?_
 let hd:∃o,p.get? dx=MW o:=let⟨o,_,_,B,_⟩:=d.ns;#[o,B]
 refine I.write (x:=a) (e:=dx) (by rw[e];exact Lm) (.inr k) (λb q D z=>(t.2 b D).trans z) hd ?_
 refine #[by rw[ay O.ne];exact k,?_,O.ne,d.obj,_,d.ns,λg=>?_,λg F=>?_]
 .have:=jU f y fs;omega
 .show iU ((d8 f y fs).lookup g) (if g=f then MW u else mA g)
  rw[gG]
  by_cases q:g=f
  .rw[NB q,NB q];exact l
  .rw[NA q,NA q];exact r g
 .by_cases q:g=f
  .rw[q];exact(eN f y fs).1
  .refine(eN f y fs).2 g (j g λz=>F ?_)
   show(if g=f then MW u else mA g)=MX
   rw[NA q];exact z
def Inv.made(I:Inv X NK σ H s):Inv X NK σ (upd (upd H s.z (.own (s.z+1))) (s.z+1) (.ins C s.z []))
 { s with heap:=(s.heap.push Ln).push (LZ C s.z) }:=by
 let e1:(s.heap.push Ln).get? s.z=MW Ln:=Jt s.heap rfl
 let e2:((s.heap.push Ln).push (LZ C s.z)).get? (s.z+1)=MW (LZ C s.z):=by
  have:=Jt (s.heap.push Ln) (o:=LZ C s.z) rfl
  rwa [Li]at this
 let e3:(s.heap.push Ln).Ns s.z (λ_=>MX):=#[Ln,#[],_,e1,8,(λe he=>absurd he (_)),λ_=>rfl]
 let c:=I.laid (a:=s.z) (o:=.own (s.z+1)) (h':=s.heap.push Ln) (t':=s.toks) (λb u q=>J6 _ q) (Jo _) #[_,e1]
 refine c.laid (a:=s.z+1) (o:=.ins C s.z []) (t':=s.toks) (λb u q=>J6 _ q) (Nat.le_of_eq (Li _ _)) ?_
 let ne:s.z≠s.z+1:=JH (Nat.lt_succ_self _)
 refine #[by rw[ay ne,az],Kh _,ne,e2,λ_=>MX,(Heap.Ns1.of_empty e3).at λo q=>J6 _ q,λ_=>Lm,λy d=>absurd rfl d]
theorem uh{prog:Jv}{w:JP}{env:Env}{e:l_}{f:Str}{c:Pos}{s:J4}{Q:J3->J4->Prop}(d:LB e f env (eval e env)=eval e env) (h:Jq (Ju prog w) A (eval e env) (λo b=>Jq (Ju prog w) A (getAttr o f MY) Q E b) E s):Jq (Ju prog w) A (eval (.Attribute e f c) env) Q E s:=Attribute_any_ h (by rw[arm_eval_Attribute,d])
end
def Im(K:J1)(b:TE)(f:Str):TE:=λσ H Q=>b σ H λx H1=>∃a C c fs v,x=.ref a/\H1 a=MW (.ins C c fs)/\Cls K C/\bV K C f/\fs.lookup f=MW v/\Q v H1
def Jk(K:J1)(d e:TE)(f:Str):TS:=λD σ H=>e σ H λy H1=>d σ H1 λx b=>∃a C c fs,x=.ref a/\b a=MW (.ins C c fs)/\Cls K C/\bV K C f/\fs.length<1000/\
 D.nx σ (upd b a (.ins C c (d8 f y fs)))
section
variable{X:Cx}{o e value:l_}{f:Str}{pos pos' NM:Pos}{ta tv:TE}
def FN(he:PE X e ta)(d:LB e f X.env (eval e X.env)=eval e X.env):PE X (.Attribute e f pos) (Im X.K ta f):=by intro NK s σ H Q I h;refine uh d (Nf (he NK s σ H _ I h) λu m b=>?_);let[x,H1,g,i,a,C,p,fs,v,ex,ea,c,n,l,q]:=b;subst ex;obtain rfl:u=JV a:=i;exact rW g ea c n l λr t j k=>#[v,H1,j,k,q]
def EN(ha:PE X o ta)(d:PE X value tv)(hs:LW value (MW (.Attribute o f pos')) pos.line X.env=pure MZ):PS X (.Assign [.Attribute o f pos'] value pos) (Jk X.K ta tv f):=by intro NK s σ H D I h;refine plainObj_wpAny_Assign_Attribute (Nf (d NK s σ H _ I h) λu g ⟨y,H1,i,j,q⟩=>Nf (ha NK g σ H1 _ i q) λk v b=>?_) hs;let[x,w,m,p,a,C,z,fs,ex,ea,c,n,l,r]:=b;subst ex;obtain rfl:k=JV a:=p;exact ra m ea c n l j λA t=>#[σ,_,t,r]
end
structure Nd(k:Nat)(A:JQ):Prop where
 hd:A.handled=MX
 dp:A.depth+3*k+5<recursionLimit
 un:A.units+16*k+200<Ky
 gd:A.guards=MW []
theorem Nd.mono{j k:Nat}{A:JQ}(r:Nd k A)(h:j<=k):Nd j A:=#[r.hd,by have:=r.dp;omega,by have:=r.un;omega,r.gd]
theorem Nd.deeper{k:Nat}{A:JQ}(r:Nd (k+1) A)(env:Env):Nd k (A.deeper env):=#[r.hd,by have:=r.dp;show A.depth+1+3*k+5<_;omega,by have:=r.un;show A.units+3+16*k+200<_;omega,r.gd]
theorem Nd.in1{k:Nat}{A:JQ}(r:Nd (k+1) A):Nd k A.in1:=#[r.hd,by have:=r.dp;show A.depth+3*k+5<_;omega,by have:=r.un;show A.units+1+16*k+200<_;omega,r.gd]
def r9{A:JQ}{C:k_}{us:List J3}{kw:List (Str×J3)}:(A.under (.builtin "type.__call__" #[.ref C::us,kw])).depth=A.depth+1:=by first|rfl|simp[Around.under,Code.weight,Code.isCreation,Code.isGuard,Code.isCaller,Code.frames,Code.isFrame,guardIds]
def rV{A:JQ}{C:k_}{us:List J3}{kw:List (Str×J3)}:(A.under (.builtin "type.__call__" #[.ref C::us,kw])).units=A.units+1:=by first|rfl|simp[Around.under,Code.cUnits,Code.frames,Code.isFrame]
theorem Nd.make{k:Nat}{A:JQ}(r:Nd (k+1) A)(C:k_)(us:List J3)(kw:List (Str×J3)):Nd k (A.under (.builtin "type.__call__" #[.ref C::us,kw])):=#[r.hd,by have:=r.dp;rw[r9];omega,by have:=r.un;rw[rV];omega,by first|exact r.gd|(have:=r.gd;simpa[Around.under,Code.isGuard,guardIds]using this)]
def Nd.depth{k:Nat}{A:JQ}(r:Nd k A):A.depth<recursionLimit:=by have:=r.dp;omega
def Nd.units{k:Nat}{A:JQ}(r:Nd k A):A.units+64<Ky:=by have:=r.un;omega
def GJ:TA:=λ_ H Q=>Q [] H
def Aj(a:TE)(b:TA):TA:=λσ H Q=>a σ H λx H1=>b σ H1 λxs c=>Q (x::xs) c
section
variable{X:Cx}{e:l_}{es:m3}{te:TE}{t:TA}{pos:Pos}
theorem oA:PA X [] GJ:=λ_ _ _ _ H Q I h=>Calls.spliced_nil #[[],H,I,.nil,h]
def iS(ha:PE X e te)(c:PA X es t)(hs:Jz (e::es) X.env=(MZ,eval e X.env)::Jz es X.env:=by rfl):PA X (e::es) (Aj te t):=by intro pos NK s σ H Q I h;rw[hs];show Jq _ _ (spliced ((MZ,eval e X.env)::Lh pos (Jz es X.env))) _ _ s;refine Calls.spliced_cons (Nf (ha NK s σ H _ I h) λu d a=>?_);let[x,H1,f,g,i]:=a;exact Nf (c pos NK d σ H1 _ f i) λus n b=>by let[xs,j,k,l,m]:=b;exact(#[x::xs,j,k,.cons g l,m])
def Ik(t:TA):TE:=λσ H Q=>t σ H λxs H1=>xs.length<=JJ/\∀p,H1 p=MX->Q (.ref p) (upd H1 p (.tup xs))
def Ic(t:TA):TE:=λσ H Q=>t σ H λxs H1=>xs.length<=JJ/\∀p,H1 p=MX->Q (.ref p) (upd H1 p (.lst xs))
def EK{x1}(h:PA X es t):PE X (.Tuple es x1 pos) (Ik t):=by intro NK s σ H Q I d;refine wpAny_Tuple_spliced (Nf (h pos NK s σ H _ I d) λus a ⟨xs,H1,c,r,z,q⟩=>#[by rw[<-r.length];exact z,?_]);let f:H1 a.z=MX:=c.hok.fresh (Jo _);refine #[.ref a.z,upd H1 a.z (.tup xs),c.laid (t':=a.toks) (λb u e=>J6 _ e) (Jo _) ?_,8,q _ f];exact #[z,us,r,#[_,Jt _ rfl,8,7],#[_,Jt _ rfl,rfl]]
def Ek(h:PA X es t):PE X (.List es pos) (Ic t):=by intro NK s σ H Q I d;refine wpAny_List_spliced (Nf (h pos NK s σ H _ I d) λus a ⟨xs,H1,c,r,z,q⟩=>#[by rw[<-r.length];exact z,?_]);let f:H1 a.z=MX:=c.hok.fresh (Jo _);refine #[.ref a.z,upd H1 a.z (.lst xs),c.laid (t':=a.toks) (λb u e=>J6 _ e) (Jo _) ?_,8,q _ f];exact #[z,us,0,r,Jt _ rfl]
end
abbrev Sp:=n7->Hp->VK->XK->Prop
abbrev QO:=List Env->Hp->J4->XK->J3->J4->Prop
structure Oh(P:Jv)(w:JP)(K:J1)(mg:Str->Option J3)(base:lj)(A:JQ)(outer:List Env)(s:J4)(H:Hp):Prop where
 frames:A.frames=MW outer
 mod:Mod K mg base
 bs:∀b o,base.get? b=MW o->s.heap.get? b=MW o/\H b=MX
 bsz:base.objs.size<=s.z
 fB:s.heap.FunFrames base outer
 frf:∀b∈OG outer,H b=MX
 hok:O8 P w H s.heap
 bare:AllBare s.gens
def CE(outer:List Env)(P:Jv)(w:JP)(H:Hp)(s:J4)(Q:VK)(u:J3)(a:J4):Prop:=
 ∃v b,a.os=s.os/\AllBare a.gens/\Un (OG outer) [] H b s.heap a.heap/\O8 P w b a.heap/\RelV v u/\Q v b
def CR(CX:QO)(outer:List Env)(P:Jv)(w:JP)(H:Hp)(s:J4)(Q:VK)(E:XK)(r:Result)(a:J4):Prop:=
 match r with
 |.ok (.ret u)=>CE outer P w H s Q u a
 |.ok _=>False
 |.error e=>CX outer H s E e a
structure Np(P:Jv)(w:JP)(K:J1)(mg:Str->Option J3)(base:lj)(CX:QO)(k:Nat)(f:k_)(fd:MA)(ps:nj)(sp:Sp):Prop where
 len:∀vs H Q E,sp vs H Q E->vs.length=ps.length
 run:∀(A:JQ)(outer:List Env)(s:J4)(H:Hp)(args:Args)(us:List J3)(vs:n7)(Q:VK)(E:XK),Nd k A->Oh P w K mg base A outer s H->BindsTo s fd args (ps.zip us)->Vals vs us->sp vs H Q E->
  L5 (Ju P w) A (.call (.ref f) args) (CR CX outer P w H s Q E) s
theorem Np.mono{P:Jv}{w:JP}{K:J1}{mg:Str->Option J3}{base:lj}{CX:QO}{j k:Nat}{f:k_}{fd:MA}{ps:nj}{sp:Sp}(F:Np P w K mg base CX j f fd ps sp)(h:j<=k) : Np P w K mg base CX k f fd ps sp:=#[F.len,λA outer s H args us vs Q E a=>F.run A outer s H args us vs Q E (a.mono h)]
theorem Oh.make{P:Jv}{w:JP}{K:J1}{mg:Str->Option J3}{base:lj}{A:JQ}{outer:List Env}{s:J4}{H:Hp}(e:Oh P w K mg base A outer s H)(C:k_)(us:List J3)(kw:List (Str×J3)) : Oh P w K mg base (A.under (.builtin "type.__call__" #[.ref C::us,kw])) outer s H:=#[by first|exact e.frames|(simpa[Around.under,Code.envs,Code.isFrame,pushEnvs]using e.frames),e.mod,e.bs,e.bsz,e.fB,e.frf,e.hok,e.bare]
section
variable{X:Cx}{NK:l'}{σ:St}{H:Hp}{s s':J4}
theorem Inv.yf(I:Inv X NK σ H s):Oh X.prog X.w X.K X.mg X.base X.A X.stack s H:=#[I.ok.frames,I.ok.mod,I.bs,K0 I.ok.bsz I.sz,I.stack,I.gM,I.hok,I.bare]
def Inv.after{Q:VK}{u:J3}(I:Inv X NK σ H s)(h:CE X.stack X.prog X.w H s Q u s'):EP X NK σ Q u s':=by let[v,c,os,bare,un,hok,r,q]:=h;let[e,g,d,t,a]:=s';obtain rfl:a=s.os:=os;exact #[v,c,I.call (h':=e) (g':=g) (d':=d) (t':=t) (ch:=[]) un hok bare (λb z=>absurd z (_)),r,q]
end
def HP(sp:Sp)(a:n7)(E:XK)(t:TA):TE:=λσ H Q=>t σ H λvs H1=>sp (vs++a) H1 Q E
def FZ(C:k_)(m:Str)(sp:Sp)(b:n7)(E:XK)(c:TE)(t:TA):TE:=λσ H Q=>c σ H λx H1=>∃a d fs,x=.ref a/\H1 a=MW (.ins C d fs)/\fs.lookup m=MX/\
 t σ H1 λvs e=>sp (x::(vs++b)) e Q E
def Ho(C:k_)(sp:Sp)(b:n7)(E:XK)(t:TA):TE:=λσ H Q=>t σ H λvs H1=>∀x a,H1 x=MX->H1 a=MX->a≠x->
 sp (.ref x::(vs++b)) (upd (upd H1 a (.own x)) x (.ins C a [])) (λv c=>v=.non/\Q (.ref x) c) E
def Binds(K:J1)(fd:MA)(ps:nj)(a:List J3):Prop:=
 ∀(s:J4)(us:List J3),K.In s.heap->(us++a).length=ps.length->BindsTo s fd #[us,[]] (ps.zip (us++a))
theorem Binds.all{K:J1}{fd:MA}{ps:nj}(h:∀us:List J3,us.length=ps.length->MM fd #[us,[]]=pure (ps.zip us)):Binds K fd ps []:=λs us _ hl=>by rw[KP]at hl ⊢;exact .of_eq (h us hl)
def Passes(CX:QO)(X:Cx)(E:XK):Prop:=∀(NK:l')(σ:St)(H:Hp)(s:J4)(e:J3)(a:J4),Inv X NK σ H s->CX X.stack H s E e a->X.xe e a
section
variable{X:Cx}{CX:QO}{k:Nat}{f C:k_}{fd:MA}{ps:nj}{sp:Sp}{NN:n7}{ds:List J3}{E:XK}{x m:Str}{p pos apos:Pos}{e o:l_}{es:m3}{ta:TE}{t:TA}
def wY{NK:l'}{σ:St}{H:Hp}{s:J4}{Q:VK}{us:List J3}{vs:n7}(F:Np X.prog X.w X.K X.mg X.base CX k f fd ps sp)(c:Nd k X.A)(d:Binds X.K fd ps ds)(hd:Vals NN ds)(hx:Passes CX X E)
 (I:Inv X NK σ H s) (r:Vals vs us) (h:sp (vs++NN) H Q E):Jq (Ju X.prog X.w) X.A (call (.ref f) us) (EP X NK σ Q) X.xe s:=by
 let b:Vals (vs++NN) (us++ds):=r.append hd
 let hl:(us++ds).length=ps.length:=by rw[<-b.length];exact F.len _ _ _ _ h
 refine wpAny_call (MB (F.run X.A X.stack s H #[us,[]] (us++ds) (vs++NN) Q E c I.yf (d s us I.kIn hl) b h) λr g a=>?_)
 cases r with
 |error e=>exact hx NK σ H s e g I a
 |ok i=>
  cases i with
  |ret u=>exact I.after a
  |next=>exact JK a
  |brk=>exact JK a
  |cont=>exact JK a
def CD(F:Np X.prog X.w X.K X.mg X.base CX k f fd ps sp)(d:Nd k X.A)(g:Gl X x)(i:X.mg x=MW (.ref f))(j:Kz X.K (.ref f)=MY)(l:Binds X.K fd ps ds)(hd:Vals NN ds)(hx:Passes CX X E) (ha:PA X (e::es) t) (a:(x==("__debug__":Str))=MZ:=by decide) (he:Jz (e::es) X.env=(MZ,eval e X.env)::Jz es X.env:=by rfl) (b:(Lh pos (Jz es X.env)).any (·.1)=MZ:=by rfl) : PE X (.Call (.Name x p) (e::es) [] pos) (HP sp NN E t):=by intro NK s σ H Q I h;refine Lx (ft I g i ?_ a);refine PySem.W.callWith_K (h₀:=X.base) I.ok.mod.kin j (Nf (ha pos NK s σ H _ I h) λus n ⟨vs,H1,c,r,q⟩=>#[c.kIn,?_]) he b;exact wY F d l hd hx c r q
def Br{pl:Sem Bool}(he:PE X o ta)(c:Cls X.K C)(i:Meth X.K C m f)(F:Np X.prog X.w X.K X.mg X.base CX k f fd ps sp)(v:Nd k X.A)(y:Binds X.K fd ps ds)(hd:Vals NN ds)(hx:Passes CX X E)(ha:PA X (e::es) t)
 (d:Jz (e::es) X.env=(MZ,eval e X.env)::Jz es X.env:=by rfl) (g:(Lh pos (Jz es X.env)).any (·.1)=MZ:=by rfl)
 (ht:eval (.Call (.Attribute o m apos) (e::es) [] pos) X.env=(do
  let ov <-eval o X.env
  ML apos.atName
  let(f,first) <-holding [ov] (getMethod ov m pl)
  callWith pos f first (Lh pos (Jz (e::es) X.env)) (backToKw pos (keywordEach [] X.env))):=by rfl) :
 PE X (.Call (.Attribute o m apos) (e::es) [] pos) (FZ C m sp NN E ta t):=by
 intro NK s σ H Q I h
 refine PySem.W.methodCall_KW (pl:=pl) (Nf (he NK s σ H _ I h) λu z b=>?_) ht
 let[x,H1,j,B,a,G,fs,ex,ea,l,q]:=b
 subst ex
 obtain rfl:u=JV a:=B
 refine si j ea c i l ?_
 refine PySem.W.callWith_K (first:=[.ref a]) (h₀:=X.base) I.ok.mod.kin i.kp (Nf (ha pos NK z σ H1 _ j q) λus J ⟨vs,L,n,r,D⟩=>#[n.kIn,?_]) d g
 exact wY (us:=.ref a::us) (vs:=.ref a::vs) F v y hd hx n (.cons rfl r) D
structure Mk(K:J1)(C f:k_):Prop where
 makes:PySem.W.makesIn K C=MY
 init:Ko K (.ref C) "__init__"=MW (MW (.ref f))
 fn:PySem.W.isFn K (.ref f)=MY
 kp:Kz K (.ref C)=MY
def Ai{NK:l'}{σ:St}{H:Hp}{s:J4}{Q:VK}{us:List J3}{vs:n7}(M:Mk X.K C f)(F:Np X.prog X.w X.K X.mg X.base CX k f fd ps sp)(i:Nd (k+1) X.A)(j:Binds X.K fd ps ds)(hd:Vals NN ds)
 (hx:Passes CX X E) (I:Inv X NK σ H s) (r:Vals vs us)
 (h:∀x b,H x=MX->H b=MX->b≠x->sp (.ref x::(vs++NN)) (upd (upd H b (.own x)) x (.ins C b [])) (λv l=>v=.non/\Q (.ref x) l) E) :
 Jq (Ju X.prog X.w) X.A (call (.ref C) us) (EP X NK σ Q) X.xe s:=by
 let d:=h (s.z+1) s.z (I.hok.fresh (MC _)) (I.hok.fresh (Jo _)) (JH (Nat.lt_succ_self _))
 let c:=Inv.made (C:=C) I
 let g:Vals (V.ref (s.z+1)::(vs++NN)) (JV (s.z+1)::(us++ds)):=.cons rfl (r.append hd)
 let hl:(JV (s.z+1)::us++ds).length=ps.length:=by
  let e:=g.length
  rw[F.len _ _ _ _ d]at e
  exact e.symm
 refine wpAny_call (wW (f:=f) I.kIn M.makes M.init (beq_iff_eq.mp M.fn) (MB (F.run _ X.stack _ _ #[JV (s.z+1)::us,[]] (JV (s.z+1)::(us++ds)) _ _ E (i.make C us [])
  (c.yf.make C us []) (j _ (JV (s.z+1)::us) c.kIn hl) g d) λr n a=>?_))
 cases r with
 |error e=>exact hx NK σ _ _ e n c a
 |ok q=>
  cases q with
  |ret u=>
   let[v,y,z,B,D,G]:=c.after a
   subst D
   exact #[B,#[V.ref (s.z+1),y,z,8,G]]
  |next=>exact JK a
  |brk=>exact JK a
  |cont=>exact JK a
def B1(M:Mk X.K C f)(F:Np X.prog X.w X.K X.mg X.base CX k f fd ps sp)(d:Nd (k+1) X.A)(g:Gl X x)(i:X.mg x=MW (.ref C))(j:Binds X.K fd ps ds)(hd:Vals NN ds)(hx:Passes CX X E) (ha:PA X (e::es) t) (a:(x==("__debug__":Str))=MZ:=by decide) (he:Jz (e::es) X.env=(MZ,eval e X.env)::Jz es X.env:=by rfl) (b:(Lh pos (Jz es X.env)).any (·.1)=MZ:=by rfl) : PE X (.Call (.Name x p) (e::es) [] pos) (Ho C sp NN E t):=by intro NK s σ H Q I h;refine Lx (ft I g i ?_ a);refine PySem.W.callWith_K (h₀:=X.base) I.ok.mod.kin M.kp (Nf (ha pos NK s σ H _ I h) λus l ⟨vs,H1,c,r,q⟩=>#[c.kIn,?_]) he b;exact Ai M F d j hd hx c r q
end
structure N9(N P:nj)(sc:Lq):Prop where
 kind:sc.kind=.function
 co:sc.isCoroutine=MZ
 gen:sc.isGenerator=MZ
 nd:N.Nodup
 pre:N.take P.length=P
 par:∀x∈P,sc.names.lookup x=MW .local\/sc.names.lookup x=MW .cell
 nofree:∀y∈sc.names,y.2≠.free
theorem m9{kindOf:Str->Option LR}{x:Str}:∀{binds:List (Str×J3)} {m:Str->Option J3},(∀v,(x,v)∉binds)->bindL kindOf binds m x=m x
 |[],_,_=>rfl
 |(n,v)::r,m,h=>by
  unfold bindL
  rw[m9 λw a=>h w (JC _ a)]
  split
  .have:x≠n:=by rintro rfl;exact h v JW
   simp[this]
  .rfl
theorem mJ{kindOf:Str->Option LR}{x:Str}:∀{binds:List (Str×J3)} {m:Str->Option J3},(∀v,(x,v)∉binds)->bindC kindOf binds m x=m x
 |[],_,_=>rfl
 |(n,v)::r,m,h=>by
  unfold bindC
  rw[mJ λw a=>h w (JC _ a)]
  split
  .rfl
  .have:x≠n:=by rintro rfl;exact h v JW
   simp[this]
theorem mU{kindOf:Str->Option LR}{x:Str}{v:J3}:∀{P:nj}{vs:List J3}{i:Nat}{m:Str->Option J3},P.Nodup->P[i]?=MW x->vs[i]?=MW v->kindOf x=MW .local->
 bindL kindOf (P.zip vs) m x=MW v
 |[],_,_,_,_,h,_,_=>by simp at h
 |_::_,[],_,_,_,_,h,_=>by simp at h
 |p::P,w::vs,0,m,nd,h1,h2,hk=>by
  simp at h1 h2;subst h1;subst h2
  show bindL kindOf ((p,w)::P.zip vs) m p=_
  unfold bindL
  rw[m9 λv a=>(Md.mp nd).1 (List.of_mem_zip a).1,NB hk]
  simp
 |p::P,w::vs,i+1,m,nd,h1,h2,hk=>by
  show bindL kindOf ((p,w)::P.zip vs) m x=_
  unfold bindL
  exact mU (i:=i) (Md.mp nd).2 ‹h1› ‹h2› hk
theorem mM{kindOf:Str->Option LR}{x:Str}{v:J3}:∀{P:nj}{vs:List J3}{i:Nat}{m:Str->Option J3},P.Nodup->P[i]?=MW x->vs[i]?=MW v->kindOf x≠MW .local->
 bindC kindOf (P.zip vs) m x=MW v
 |[],_,_,_,_,h,_,_=>by simp at h
 |_::_,[],_,_,_,_,h,_=>by simp at h
 |p::P,w::vs,0,m,nd,h1,h2,hk=>by
  simp at h1 h2;subst h1;subst h2
  show bindC kindOf ((p,w)::P.zip vs) m p=_
  unfold bindC
  rw[mJ λv a=>(Md.mp nd).1 (List.of_mem_zip a).1,NA hk]
  simp
 |p::P,w::vs,i+1,m,nd,h1,h2,hk=>by
  show bindC kindOf ((p,w)::P.zip vs) m x=_
  unfold bindC
  exact mM (i:=i) (Md.mp nd).2 ‹h1› ‹h2› hk
def start(N:nj)(vs:n7):St:=vs.map MW++List.replicate (N.length-vs.length) MX
def bg(CX:QO)(P:Jv)(w:JP)(K:J1)(mg:Str->Option J3)(base:lj)(N:nj)(qual:Str)(scope:Lq)(f:k_)(cd:J3)(A:JQ)(outer:List Env)(s:J4)(H:Hp)(E:XK):Cx where
 prog:=P
 w:=w
 K:=K
 mg:=mg
 base:=base
 A:=A.deeper (MT qual scope s.z f cd)
 N:=N
 s₀:=s
 H₀:=H
 env:=MT qual scope s.z f cd
 outer:=outer
 stack:=MT qual scope s.z f cd::outer
 ex:=[]
 calm:=MY
 fn:=λ_=>MY
 pn:=[]
 xe:=λe b=>Jq (Ju P w) (A.deeper (MT qual scope s.z f cd)) (leaving (MT qual scope s.z f cd) e) (λ_ a=>CX outer H s E e a) (λc a=>CX outer H s E c a) b
def lE{sc:Lq}{n:Nat}{x:Str}(h:sc.names.lookup x=MW .cell):∃c,(Lo n sc.names []).lookup x=MW c:=by let q:=PySem.W.cellsFrom_some sc.names n [] (.inl h);exact Option.isSome_iff_exists.mp q
def vT{CX:QO}{P:Jv}{w:JP}{K:J1}{mg:Str->Option J3}{base:lj}{N ps:nj}{qual:Str}{scope:Lq}{f:k_}{cd:J3}{A:JQ}{outer:List Env}{s o:J4}{H:Hp}{E:XK}{us:List J3}{vs:n7}
 (S:N9 N ps scope) (hd:A.handled=MX) (d:Oh P w K mg base A outer s H) (hl:vs.length=ps.length) (r:Vals vs us)
 (x:InCallC s s.z (bindL (MT qual scope s.z f cd).kindOf (ps.zip us) λ_=>MX) (Lo (s.z+1) scope.names []) (bindC (MT qual scope s.z f cd).kindOf (ps.zip us) λ_=>MX) o) :
 Inv (bg CX P w K mg base N qual scope f cd A outer s H E) [] (start N vs) H o:=by
 let C:ps.length<=N.length:=by have:=congrArg List.length S.pre;rw[La]at this;omega
 let[h1,F,8,t]:=x.done
 let g:∀b:k_,b∉(bg CX P w K mg base N qual scope f cd A outer s H E).ex:=λb z=>absurd (show b∈([]:m_)from z) (_)
 refine #[#[d.mod,S.kind,8,8,Jo _,λy z c h1 h2=>?_,λy j=>?_,λy c _ h=>?_,λ_=>hd,Around.frames_deeper d.frames,.inr #[8,rfl],λb z=>absurd z (g b),d.bs,d.bsz,λb _ _=>g b,λb z=>absurd z (g b),d.fB,d.frf],
  rfl,d.bare,Un.kept t,#[_,x.toInCall.ns,λi y v h1 h2 G=>?_],λy c h=>#[_,x.cell y c h],d.hok.fresh (Jo _),λy c h=>?_,λp l=>absurd (show p∈([]:l')from l) (_),d.hok.kept t,?_]
 .exact name_of_addr x.apart (K1 h1) (K1 h2)
 .have j:scope.names.lookup y=MW .cell\/scope.names.lookup y=MW .free:=j
  rcases j with j|j
  .exact lE j
  .exact absurd rfl (S.nofree _ (K1 j))
 .exact Mm (x.above y c (K1 h))
 .have hi:i<vs.length:=by
   unfold start at h2
   by_cases hi:i<vs.length
   .exact hi
   .rw[K4 ‹hi›]at h2
    rw[List.getElem?_replicate]at h2
    split at h2<;>cases h2
  let ha:vs[i]?=MW v:=by
   unfold start at h2
   rw[K7 ‹hi›,JI]at h2
   cases e:vs[i]? with
   |none=>rw[e]at h2;cases h2
   |some a=>rw[e]at h2;cases h2;rfl
  let[u,B,D]:=r.get ha
  let l:ps[i]?=MW y:=by
   rw[<-S.pre,List.getElem?_take_of_lt ()];exact h1
  let m:ps.Nodup:=by rw[<-S.pre];exact S.nd.sublist (List.take_sublist _ _)
  exists u,D
  rcases S.par y (JN l)with k|k
  .exact .inl #[k,mU m l B k]
  .obtain⟨c,e⟩:=lE (n:=s.z+1) k
   refine .inr #[.inl k,c,e,?_]
   let q:=x.cell y c e
   rw[mM m l B (by show scope.names.lookup y≠_;rw[k];decide)]at q
   exact q
 .exact d.hok.fresh (Mm (x.above y c (K1 h)))
 .unfold start
  show _=N.length
  rw[Ki,J7,List.length_replicate]
  omega
def yl{CX:QO}{P:Jv}{w:JP}{K:J1}{mg:Str->Option J3}{base:lj}{k:Nat}{f:k_}{name qual:Str}{params:Arguments}{body:mv}{scope:Lq}{F kV i G cdv ct oc:J3}{an od:Option k_}
 {osl:Array (Option J3)} {N ps:nj} {sp:Sp} (lk:K.lookup f=MW #[oc,od,.func (Kp name qual params body scope F kV i G an cdv ct),osl]) (p:LS K cdv qual=MY) (S:N9 N ps scope)
 (len:∀vs H Q E,sp vs H Q E->vs.length=ps.length)
 (g:∀(A:JQ)(outer:List Env)(s:J4)(H:Hp)(vs:n7)(Q:VK)(E:XK),Nd k (A.deeper (MT qual scope s.z f cdv))->sp vs H Q E->
  ∃t,PK (bg CX P w K mg base N qual scope f cdv A outer s H E) body t/\t { nx:=λ_ d=>Q .non d,rt:=Q } (start N vs) H) :
 Np P w K mg base CX (k+1) f (Kp name qual params body scope F kV i G an cdv ct) ps sp:=by
 refine #[len,λA outer s H args us vs Q E z j O r l=>?_]
 let hl:=len _ _ _ _ l
 let L:K.In s.heap:=j.mod.kin.keeps λb o e=>(j.bs b o e).1
 let B:s.heap.NoLimit:=j.mod.nolimit.keeps λb o e=>(j.bs b o e).1
 let h:∀y∈ps.zip us,scope.names.lookup y.1=MW .local\/(scope.names.lookup y.1=MW .cell/\((Lo (s.z+1) scope.names []).lookup y.1).isSome=MY):=λa R=>by
  let[n,v]:=a
  rcases S.par n (List.of_mem_zip R).1 with q|q
  .exact .inl q
  .exact .inr #[q,PySem.W.cellsFrom_some _ _ _ (.inl q)]
 refine codeAny_call_function z.depth (L _ _ lk) rfl S.co S.gen rfl (PySem.W.codeRec_of L p) (O _ _ _ _ ?_)
 refine wpAny_newFunctionEnv_cells S.kind h λenv he M x=>?_
 subst he
 refine #[B.keeps x.toInCall.keep,codeAny_func ?_]
 let[t,ht,T]:=g A outer s H vs Q E (z.deeper _) l
 let I:Inv (bg CX P w K mg base N qual scope f cdv A outer s H E) [] (start N vs) H M:=vT S z.hd j hl r x
 refine Jx (ht [] M (start N vs) H _ I T) (λU C hs=>?_) λe C hs=>hs
 let m:∀{c:St}{d:Hp}{v:V}{u:J3},Inv (bg CX P w K mg base N qual scope f cdv A outer s H E) [] c d C->RelV v u->Q v d->CE outer P w H s Q u C:=
  λ{c d v u} J D q=>#[v,d,J.os,J.bare,J.base,J.hok,D,q]
 cases U with
 |ret u=>
  let[v,c,d,J,D,q]:=hs
  exact m J D q
 |next=>
  let[c,d,J,q]:=hs
  exact m (v:=V.non) (u:=Lg) J rfl q
 |brk=>
  let[_,_,_,q]:=hs
  exact JK q
 |cont=>
  let[_,_,_,q]:=hs
  exact JK q
section
variable{X:Cx}{x:Str}{p pos:Pos}{e:l_}{es:m3}{t:TA}{id T:String}{r:n7->Hp->VK->Prop}
def XI(r:n7->Hp->VK->Prop)(t:TA):TE:=λσ H Q=>t σ H λvs H1=>r vs H1 Q
def qr(d:bo X (.builtin id) r)(f:Gl X x)(g:X.mg x=MX)(i:Kk x=MW (.builtin id))(ha:PA X (e::es) t)(j:x≠"__name__":=by decide)(b:(x==("__debug__":Str))=MZ:=by decide) (he:Jz (e::es) X.env=(MZ,eval e X.env)::Jz es X.env:=by rfl) (c:(Lh pos (Jz es X.env)).any (·.1)=MZ:=by rfl):PE X (.Call (.Name x p) (e::es) [] pos) (XI r t):=by intro NK s σ H Q I h;refine Lx (f6 I f g i ?_ j b);exact PyProof.Rows.callWith_builtin1 (Nf (ha pos NK s σ H _ I h) λus k a=>by let[vs,H1,l,m,n]:=a;exact(d NK k σ H1 vs us Q l m n)) he c
def nv(d:bo X (.type T) r)(f:Gl X x)(g:X.mg x=MX)(i:Kk x=MW (.type T))(ha:PA X (e::es) t)(j:x≠"__name__":=by decide)(b:(x==("__debug__":Str))=MZ:=by decide) (he:Jz (e::es) X.env=(MZ,eval e X.env)::Jz es X.env:=by rfl) (c:(Lh pos (Jz es X.env)).any (·.1)=MZ:=by rfl):PE X (.Call (.Name x p) (e::es) [] pos) (XI r t):=by intro NK s σ H Q I h;refine Lx (f6 I f g i ?_ j b);exact LA (Nf (ha pos NK s σ H _ I h) λus k a=>by let[vs,H1,l,m,n]:=a;exact(d NK k σ H1 vs us Q l m n)) he c
end
end L2
namespace HT
open PySem PyProof.Rows
def lexLt:ml->ml->Bool
 |[],[]=>MZ
 |[],_::_=>MY
 |_::_,[]=>MZ
 |x::xs,y::ys=>if x=y then lexLt xs ys else decide (x<y)
theorem rD(x y:Int)(xs a:ml):lexLt (x::xs) (y::a)=if x=y then lexLt xs a else decide (x<y):=rfl
theorem mq:lexLt [] []=MZ:=rfl
theorem kX(y:Int)(a:ml):lexLt [] (y::a)=MY:=rfl
theorem kR(x:Int)(xs:ml):lexLt (x::xs) []=MZ:=rfl
theorem qA(A:JQ)(s:J4)(a:Int)(t:Tok)(c:Int)(u:Tok):∃e,SeqAt.EqAt A s (.int a t) (.int c u) e/\(e=MY↔a=c):=#[(a==c),SeqAt.EqAt.int_int a t c u,by simp]
theorem xG(A:JQ)(s:J4)(a:Int)(t:Tok)(c:Int)(u:Tok)(prog:Jv)(w:JP)(E:J3->J4->Prop)(Q:J3->J4->Prop)(h:Q (.bool (decide (a<c))) s) : Jq (Ju prog w) A (richCompare .Lt (.int a t) (.int c u)) Q E s:=(PyProof.Rows.lt_int h:Jq (Ju prog w) A (K8 .Lt (.int a t) (.int c u)) Q E s)
section
open PySem.SeqAt
open PySem.AutoSeq1 (wpAny_loadPart')
open PySem.MeetsSeq PySem.MeetsSeq2 PySem.MeetsSeq3
theorem mr(l b:k_)(items f:Array J3)(n n2:Nat)(O H:Option k_)(sl I:Array (Option J3))(ns ms:ml)(hi:L6 items.toList ns)(M:L6 f.toList ms) :
 Meets (LD.«tuple.__lt__» #[[.ref l,.ref b],[]])
  (λ_ R s=>s.heap.get? l=MW { cls:=.type "tuple",dict:=O,data:=.seq items n,slots:=sl }/\s.heap.get? b=MW { cls:=.type "tuple",dict:=H,data:=.seq f n2,slots:=I }/\
   R (.ok (.ret (.bool (lexLt ns ms)))) s):=
 .of_wp λprog w A R s h=>by
  let[F,g,d,G,os]:=s;let[hl,P,h]:=h
  let T:=AutoSeq1.sub_tuple_tuple
  let U:items.size=ns.length:=by rw[<-hi.length];simp
  let V:f.size=ms.length:=by rw[<-M.length];simp
  wp_walk using wpAny_loadPart' hl,wpAny_loadPart' P,wpAny_forIn_list _ (λp b J=>b.1=MX/\J=#[F,g,d,G,os]/\∃(vs ws:List J3) (j k:ml),p=vs.zip ws/\
   L6 vs j/\L6 ws k/\j.length+f.size=k.length+items.size/\R (.ok (.ret (.bool (lexLt j k)))) #[F,g,d,G,os]) _
  case turn=>
   rintro⟨y,x⟩ p b J ⟨z,rfl,vs,ws,j,k,m,B,o,i,r⟩
   cases B with
   |nil=>rw[List.zip_nil_left]at m;cases m
   |cons a t D=>
    cases o with
    |nil=>rw[List.zip_nil_right]at m;cases m
    |cons c u E=>
     rw[List.zip_cons_cons]at m
     injection m with K C
     injection K with Q hx
     subst Q hx
     rw[rD]at r
     simp only[JE]at i
     let[e,he,v]:=qA A.in1 #[F,g,d,G,os] a t c u
     refine J0 (he prog w _ _ ?_)
     cases e with
     |true=>
      rw[NB (v.mp rfl)]at r
      wp_walk
      exact #[8,8,_,_,_,_,C,D,E,(),r]
     |false=>
      rw[NA (λq=>absurd (v.mpr q) JO)]at r
      let L:=xG A.in1 #[F,g,d,G,os] a t c u prog w
      wp_walk using L
      exact #[7,‹r›]
  case fin=>
   rintro⟨b1,W⟩ J ⟨z,rfl,vs,ws,j,k,m,B,o,i,r⟩
   simp only at z
   subst z
   let N:lexLt j k=decide (items.size<f.size):=by
    cases B with
    |nil=>
     cases o with
     |nil=>
      simp only[Me]at i
      rw[mq]
      exact(NC ()).symm
     |cons c u S=>
      simp only[Me,JE]at i
      rw[kX]
      exact(ND ()).symm
    |cons a t N=>
     cases o with
     |nil=>
      simp only[Me,JE]at i
      rw[kR]
      exact(NC ()).symm
     |cons c u S=>
      rw[List.zip_cons_cons]at m
      cases m
   rw[N]at r
   wp_walk
   exact #[7,by simpa[Builtin.Tuple.tupleCompareSizes]using r]
  case h=>
   exact #[8,8,items.toList,f.toList,ns,ms,8,hi,M,(),h]
end
section
variable{prog:Jv}{w:JP}{A:JQ}{E:J3->J4->Prop}{s:J4}
def l3{l b:k_}{items a:Array J3}{ns ms:ml}{Q:J3->J4->Prop}(hl:IsTup s.heap l items)(o:IsTup s.heap b a)(hi:L6 items.toList ns)(p:L6 a.toList ms) (q:A.units<Ky) (h:Q (.bool (lexLt ns ms)) s):Jq (Ju prog w) A (K8 .Lt (.ref l) (.ref b)) Q E s:=by obtain⟨⟨cls,r,data,sl⟩,j,k,n,hd⟩:=id hl;obtain⟨⟨m,f,g,i⟩,c,d,n2,e⟩:=id o;simp only at k hd d e;subst k hd d e;exact richCompare_meets_room (op:=.Lt) #[_,j,rfl] #[_,c,rfl] PySem.F.slot_tuple_lt PySem.F.entry_tuple_lt (PySem.F.args_tuple_lt_2 _ _) (mr l b items a n n2 r f sl i ns ms hi p) #[j,c,show Value.bool (lexLt ns ms)≠Value.notImplemented/\Q (.bool (lexLt ns ms)) s from #[(λx=>nomatch x),h]] q
def Bo{t b:k_}{vs ws:List J3}{Q:J3->J4->Prop}(ht:IsTup s.heap t vs.toArray)(p:IsTup s.heap b ws.toArray)(k:vs≠[])
 (h1:ws=[]->Q (.ref t) s) (h2:ws≠[]->Q (.ref s.z) { s with heap:=s.heap.push { cls:=.type "tuple",data:=.seq (vs++ws).toArray } })
 (hsz:vs.length+ws.length<=JJ):Jq (Ju prog w) A (Mz .Add (.ref t) (.ref b)) Q E s:=by
 obtain⟨⟨cls,l,data,sl⟩,h,m,n,hd⟩:=id ht
 obtain⟨⟨o,c,j,d⟩,a,f,n2,g⟩:=id p
 simp only at m hd f g
 subst m hd f g
 let e:vs.toArray++ws.toArray=(vs++ws).toArray:=by simp
 by_cases i:ws=[]
 .exact concat_meets #[_,h,rfl] #[_,a,rfl] noFill_tuple_add seq_tuple_add PySem.F.slot_tuple_add PySem.F.entry_tuple_add (PySem.F.args_tuple_add_2 _ _)
   (tuple_addW1 t b vs.toArray ws.toArray n n2 l c sl d ‹k› (by simp[i])) #[h,a,h1 i]
 .refine concat_meets #[_,h,rfl] #[_,a,rfl] noFill_tuple_add seq_tuple_add PySem.F.slot_tuple_add PySem.F.entry_tuple_add (PySem.F.args_tuple_add_2 _ _)
   (tuple_addW2 t b vs.toArray ws.toArray n n2 l c sl d ‹k› ‹i› (by rw[Jw,Jw];exact hsz)) #[h,a,?_]
  rw[e]
  exact h2 i
def sIx(n d:Nat):mu->Nat
 |none=>d
 |some v=>if v<0 then(v+(n:Int)).toNat else min v.toNat n
theorem qk(n d:Nat):sIx n d MX=d:=rfl
def ub(n d k:Nat):sIx n d (MW (k:Int))=min k n:=by show(if(k:Int)<0 then((k:Int)+(n:Int)).toNat else min (k:Int).toNat n)=min k n;rw[NA (),Lf]
def Eh(n d:Nat)(hd:d<=n)(o:mu):sIx n d o<=n:=by
 cases o with
 |none=>exact hd
 |some v=>
  show(if v<0 then(v+(n:Int)).toNat else min v.toNat n)<=n
  by_cases a:v<0
  .rw[NB a];omega
  .rw[NA a];exact Nat.min_le_right _ _
def tO(v:Int)(n d:Nat):(if v<0 then max (v+(n:Int)) 0 else min v (n:Int))=((sIx n d (MW v):Nat):Int):=by
 show(if v<0 then max (v+(n:Int)) 0 else min v (n:Int))=(((if v<0 then(v+(n:Int)).toNat else min v.toNat n):Nat):Int);by_cases a:v<0
 .simp only[NB a];omega
 .simp only[NA a];omega
def qI(lo hi:mu)(n:Nat):Builtin.Slice.sliceAdjust lo hi 1 (n:Int)=(((sIx n 0 lo:Nat):Int),((sIx n n hi:Nat):Int)):=by
 let h1:¬((1:Int)<0):=()
 unfold Builtin.Slice.sliceAdjust;simp only[h1,if_false];refine Prod.ext ?_ ?_
 .cases lo with
  |none=>rfl
  |some v=>exact tO v n 0
 .cases hi with
  |none=>rfl
  |some v=>exact tO v n n
def qX(i j:Nat):Builtin.Slice.slicePlaces (i:Int) (j:Int) 1=j-i:=by
 unfold Builtin.Slice.slicePlaces;let h1:(1:Int)>0:=()
 simp only[h1,if_true,Int.ediv_one];split<;>omega
def lg{v:J3}{o:mu}{Q:mu->J4->Prop}(p:IsPart v o)(h:Q o s):Jq (Ju prog w) A (Builtin.Slice.slicePartIndex v) Q E s:=by
 cases p with
 |none=>exact slicePart_none h
 |int i t=>exact slicePart_int h
def eP{sl:k_}{c d:J3}{lo hi:mu}{n:Nat}{Q:Int×Int×Nat->J4->Prop}(hs:s.heap.IsSliceOf sl c d .none)(pl:IsPart c lo)(e:IsPart d hi)
 (h:Q (((sIx n 0 lo:Nat):Int),1,sIx n n hi-sIx n 0 lo) s):Jq (Ju prog w) A (Builtin.Slice.sliceApplied (.ref sl) (pure (n:Int))) Q E s:=by
 let[os,a,f,b]:=id hs
 unfold Builtin.Slice.sliceApplied Builtin.Slice.sliceFields
 refine J0 (J0 (wpAny_field a b (x:=c) rfl (J0 (wpAny_field a b (x:=d) rfl (J0 (wpAny_field a b (x:=.none) rfl (J5 ?_)))))))
 refine J0 (slicePart_none ?_)
 show Jq _ _ (if((1:Int)==0)=MY then _ else _) _ _ s
 rw[NA ⋯]
 refine J0 (lg pl (J0 (lg e (J0 (J5 ?_)))))
 show Jq _ _ (match Builtin.Slice.sliceAdjust lo hi 1 (n:Int)with|(lo,hi)=>pure (lo,(1:Int),Builtin.Slice.slicePlaces lo hi 1)) _ _ s
 rw[qI lo hi n]
 show Jq _ _ (pure (((sIx n 0 lo:Nat):Int),(1:Int),Builtin.Slice.slicePlaces ((sIx n 0 lo:Nat):Int) ((sIx n n hi:Nat):Int) 1)) _ _ s
 rw[qX]
 exact J5 h
def zO(xs:Array J3)(i k:Nat):((JM k).filterMap λ(m:Nat)=>xs[((i:Int)+(m:Int)*1).toNat]?).toArray=((xs.toList.drop i).take k).toArray:=by
 let e:(λ(m:Nat)=>xs[((i:Int)+(m:Int)*1).toNat]?)=λm=>xs[i+m]?:=by
  funext m
  have:((i:Int)+(m:Int)*1).toNat=i+m:=()
  rw[this]
 rw[e];have:=pick_run xs i k;rw[List.filterMap_map]at this;let e2:((λx=>xs[x]?)∘λx=>i+x)=λm=>xs[i+m]?:=rfl;rw[e2]at this;rw[this]
def iF{t sl:k_}{items:Array J3}{f g:J3}{lo hi:mu}{Q:J3->J4->Prop}(ht:IsTup s.heap t items)(hs:s.heap.IsSliceOf sl f g .none)(pl:IsPart f lo)(i:IsPart g hi)
 (hw:¬(sIx items.size 0 lo=0/\sIx items.size items.size hi=items.size))
 (h:Q (.ref s.z) { s with heap:=s.heap.push { cls:=.type "tuple",data:=.seq ((items.toList.drop (sIx items.size 0 lo)).take (sIx items.size items.size hi-sIx items.size 0 lo)).toArray } })
 (hsz:items.size<=JJ):Jq (Ju prog w) A (getItem (.ref t) (.ref sl)) Q E s:=by
 let a:sizeOk (.seq ((items.toList.drop (sIx items.size 0 lo)).take (sIx items.size items.size hi-sIx items.size 0 lo)).toArray):=by
  show((items.toList.drop (sIx items.size 0 lo)).take (sIx items.size items.size hi-sIx items.size 0 lo)).toArray.size<=JJ
  rw[Jw,La,List.length_drop,JG]
  omega
 let k:sIx items.size items.size hi<=items.size:=Eh _ _ (Jo _) hi
 let[os,b,c,j]:=id hs
 let d:s.TypeIs (.ref sl) "slice":=#[os,b,c]
 unfold getItem
 try with_reducible refine Kl ?_
 first|refine J0 (J5 ?_)|skip
 refine J0 (wpAny_sequenceKey ht.typeIs ⋯ ?_)
 refine J0 (Lz (name:=Km "__getitem__") ht.typeIs KO
  (KQ KO ht.typeIs entry_tuple_getitem ?_ (args_tuple_getitem _ _)))
 show Jq _ _ (Builtin.Tuple.tupleItemsOf (.ref t) >>= _) _ _ s
 refine J0 (tupleItemsOf_ ht ?_)
 refine J0 (wpAny_typeOf d ?_)
 rw[NB ⋯]
 refine J0 (eP hs pl i ?_)
 let e:¬((((sIx items.size 0 lo:Nat):Int)==0&&(1:Int)==1&&(sIx items.size items.size hi-sIx items.size 0 lo)==items.size)=MY):=by
  intro q
  rw[Kq,Kq]at q
  let l:((sIx items.size 0 lo:Nat):Int)=0:=eq_of_beq q.1.1
  let n:sIx items.size items.size hi-sIx items.size 0 lo=items.size:=eq_of_beq q.2
  exact hw #[(),()]
 show Jq _ _ (if(((sIx items.size 0 lo:Nat):Int)==0&&(1:Int)==1&&(sIx items.size items.size hi-sIx items.size 0 lo)==items.size)=MY then _ else _) _ _ s
 rw[NA e,zO]
 first
  |exact J0 (m:=Builtin.Tuple.tupleExact _) (Kf (J5 #[7,J5 h]) a)
  |exact J0 (m:=Builtin.Tuple.tupleExact _) (Kf (J0 (J5 (J5 #[7,J5 h]))) a)
  |exact J0 (J0 (m:=Builtin.Tuple.tupleExact _) (Kf (J5 (J5 #[7,J5 h])) a))
  |exact J0 (J0 (m:=Builtin.Tuple.tupleExact _) (Kf (J5 #[7,J5 h]) a))
end
end HT
namespace L2
open PySem PySem.Spec PyProof.Rows
abbrev TO:=St->Hp->(mu->Hp->Prop)->Prop
def PO(X:Cx)(e:Option l_)(t:TO):Prop:=
 ∀(NK:l')(s:J4)(σ:St)(H:Hp)(Q:mu->Hp->Prop),Inv X NK σ H s->t σ H Q->
  Jq (Ju X.prog X.w) X.A (evalPart e X.env) (λu b=>∃o a,Inv X NK σ a b/\IsPart u o/\Q o a) X.xe s
def Cp:TO:=λ_ H Q=>Q MX H
def Hq(t:TE):TO:=λσ H Q=>t σ H λx H1=>∃i,x=.int i/\Q (MW i) H1
def intsAre_of{ns:ml}:∀{us:List J3},Vals (ns.map V.int) us->L6 us ns:=by
 induction ns with
 |nil=>intro us r;rw[L7]at r;cases r;exact .nil
 |cons n ns a=>
  intro us r
  rw[J9]at r
  cases r with
  |cons b c=>
   let[t,e]:=b
   subst e
   exact .cons n t (a c)
section
variable{X:Cx}{e:l_}{te:TE}{lo hi:Option l_}{tl th:TO}{pos p2:Pos}
def BK:PO X MX Cp:=by intro NK s σ H Q I h;rw[evalPart_none];exact J5 #[MX,H,I,.none,h]
def Bw(h:PE X e te):PO X (MW e) (Hq te):=by intro NK s σ H Q I b;rw[evalPart_some];refine Nf (h NK s σ H _ I b) λu g a=>?_;let[x,H1,c,d,f]:=a;let[i,8,q]:=f;let[t,8]:=d;exact #[MW i,H1,c,.int i t,q]
def R9(X:Cx)(r:V->mu->mu->Hp->VK->Prop):Prop:=
 ∀(NK:l')(s:J4)(σ:St)(H:Hp)(x:V)(v a b:J3)(lo hi:mu)(sl:k_)(Q:VK),Inv X NK σ H s->RelV x v->s.heap.IsSliceOf sl a b .none->IsPart a lo->IsPart b hi->r x lo hi H Q->
  ∃T id,typeLookup (.type T) "__getitem__"=pure (MW (.builtin id))/\s.TypeIs v T/\Jq (Ju X.prog X.w) X.A (getItem v (.ref sl)) (EP X NK σ Q) X.xe s
def R9.or{r a:V->mu->mu->Hp->VK->Prop}(h:R9 X r)(h':R9 X a):R9 X (λx lo hi H Q=>r x lo hi H Q\/a x lo hi H Q):=by
 intro NK s σ H x v b c lo hi sl Q I d hs pl f q;rcases q with q|q
 .exact h NK s σ H x v b c lo hi sl Q I d hs pl f q
 .exact h' NK s σ H x v b c lo hi sl Q I d hs pl f q
def Zd(r:V->mu->mu->Hp->VK->Prop)(te:TE)(tl th:TO):TE:=λσ H Q=>te σ H λx H1=>tl σ H1 λl a=>th σ a λu b=>r x l u b Q
def zE{r:V->mu->mu->Hp->VK->Prop}(j:R9 X r)(he:PE X e te)(hl:PO X lo tl)(k:PO X hi th):PE X (.Subscript e (.Slice lo hi MX p2) pos) (Zd r te tl th):=by intro NK s σ H Q I h;refine Subscript_ (Nf (he NK s σ H _ I h) λv m c=>?_);let[x,H1,n,o,p]:=c;refine wpAny_Slice (Nf (hl NK m σ H1 _ n p) λf t ⟨l,y,z,pl,B⟩=>Nf (k NK t σ y _ z B) λg a d=>?_);let[u,i,C,D,E]:=d;rw[evalPart_none];refine J5 ?_;let F:Inv X NK σ i { a with heap:=a.heap.push { cls:=.type "slice",data:=.fields (List.toArray [f,g,.none]) } }:=C.kept (t':=a.toks) λb ob q=>J6 _ q;let[T,id,G,ht,J]:=j NK { a with heap:=a.heap.push { cls:=.type "slice",data:=.fields (List.toArray [f,g,.none]) } } σ i x v f g l u a.z Q F o (Heap.IsSliceOf.new ..) pl D E;show Jq (Ju X.prog X.w) X.A (subscriptTail e (.Slice lo hi MX p2) v (.ref a.z)) (EP X NK σ Q) X.xe { a with heap:=a.heap.push { cls:=.type "slice",data:=.fields (List.toArray [f,g,.none]) } };exact tail_any (ops:=[.ref a.z,v]) ht G J (by with_unfolding_all rfl)
def pd(xs:n7)(lo hi:mu):n7:=(xs.drop (HT.sIx xs.length 0 lo)).take (HT.sIx xs.length xs.length hi-HT.sIx xs.length 0 lo)
def jR(xs:n7)(lo hi:mu):(pd xs lo hi).length<=xs.length:=by unfold pd;rw[La,List.length_drop];omega
def Jm(K:J1):V->mu->mu->Hp->VK->Prop:=λx lo hi H Q=>∃a xs,x=.ref a/\Nl K H a xs/\
 ¬(HT.sIx xs.length 0 lo=0/\HT.sIx xs.length xs.length hi=xs.length)/\∀p,H p=MX->Q (.ref p) (upd H p (.tup (pd xs lo hi)))
def Fh:R9 X (Jm X.K):=by
 intro NK s σ H x v k l lo hi sl Q I g hs pl i h;let[a,xs,8,hx,j,q]:=h;cases g;let[d,r,ht,f]:=I.tuple hx;let c:d.toArray.size=xs.length:=by rw[Jw];exact r.length.symm
 exists "tuple",_,KO.lookup,ht.typeIs;refine HT.iF ht hs pl i (by rw[c];exact j) ?_ (by rw[c];exact f);rw[c];refine #[.ref s.z,_,I.laid (t':=s.toks) (o:=.tup (pd xs lo hi)) (λb ob q=>J6 _ q) (Jo _) ?_,8,q _ (I.hok.fresh (Jo _))];exact #[K0 (jR xs lo hi) f,_,(r.drop (HT.sIx xs.length 0 lo)).take (HT.sIx xs.length xs.length hi-HT.sIx xs.length 0 lo),IsTup.new _ _,Ry.new _ _]
def IH(K:J1):R2:=λx y H Q=>∃a b ns ms,x=.ref a/\y=.ref b/\Nl K H a (ns.map V.int)/\Nl K H b (ms.map V.int)/\Q (.bl (HT.lexLt ns ms)) H
def D9(f:X.A.units<Ky):OR X (K8 .Lt) (IH X.K):=by intro NK s σ H x y v u Q I g i h;let[a,b,ns,ms,8,8,ha,j,q]:=h;cases g;cases i;let[d,k,l,_]:=I.tuple ha;let[c,m,p2,_]:=I.tuple j;let n:L6 d.toArray.toList ns:=intsAre_of k;let o:L6 c.toArray.toList ms:=intsAre_of m;exact HT.l3 l p2 n o f #[.bl (HT.lexLt ns ms),H,I,8,q]
def HD(K:J1):R2:=λx y H Q=>∃a b xs c,x=.ref a/\y=.ref b/\Nl K H a xs/\Nl K H b c/\xs≠[]/\xs.length+c.length<=JJ/\
 (c=[]->Q (.ref a) H)/\(c≠[]->∀p,H p=MX->Q (.ref p) (upd H p (.tup (xs++c))))
def Vals.nP{xs:n7}{us:List J3}(r:Vals xs us):us=[]↔xs=[]:=by
 cases r with
 |nil=>simp
 |cons _ _=>simp
def A1:OR X (Mz .Add) (HD X.K):=by intro NK s σ H x y v u Q I i j h;let[a,b,xs,k,8,8,ha,l,hx,f,m,n]:=h;cases i;cases j;let[p,d,r,_]:=I.tuple ha;let[g,c,p2,_]:=I.tuple l;refine HT.Bo r p2 (λz=>hx (d.nP.mp z)) (λz=>#[.ref a,H,I,8,m (c.nP.mp z)]) (λz=>?_) (by rw[<-d.length,<-c.length];exact f);refine #[.ref s.z,_,I.laid (t':=s.toks) (o:=.tup (xs++k)) (λb ob q=>J6 _ q) (Jo _) ?_,8,n (λw=>z (c.nP.mpr w)) _ (I.hok.fresh (Jo _))];exact #[by rw[Ki];exact f,_,d.append c,IsTup.new _ _,Ry.new _ _]
end
def RG(n:Nat)(i:Int):Option Nat:=if 0<=i then(if i<n then MW i.toNat else MX)else if -(n:Int)<=i then MW (i+n).toNat else MX
def atI{a:Type}(xs:List a)(i:Int):Option a:=(RG xs.length i).bind λj=>xs[j]?
def um{n:Nat}{i:Int}{j:Nat}(h:RG n i=MW j):seqIndex? i n=MW j/\j<n/\-(n:Int)<=i/\i<n:=by
 unfold RG at h;by_cases h0:0<=i
 .rw[NB h0]at h;by_cases h1:i<n
  .rw[NB h1]at h;let e:i.toNat=j:=Option.some.inj h;exact #[by rw[seqIndex_of h0 h1,e],(),(),h1]
  .rw[NA h1]at h;cases h
 .rw[NA h0]at h;by_cases h1:-(n:Int)<=i
  .rw[NB h1]at h;let e:(i+n).toNat=j:=Option.some.inj h;exact #[by rw[seqIndex_neg () h1,e],(),h1,()]
  .rw[NA h1]at h;cases h
def nM{a:Type}{xs:List a}{i:Int}{v:a}(h:atI xs i=MW v):∃j,seqIndex? i xs.length=MW j/\xs[j]?=MW v/\j<xs.length/\-(xs.length:Int)<=i/\i<xs.length:=by
 unfold atI at h;cases e:RG xs.length i with
 |none=>rw[e]at h;cases h
 |some j=>
  rw[e]at h
  let[h1,h2,b,c]:=um e
  exact #[j,h1,h,h2,b,c]
def c7{a:Type}{xs:List a}{j:Nat}{v:a}(h:xs[j]?=MW v):atI xs (j:Int)=MW v:=by
 let b:j<xs.length:=(Jp.mp h).1;let e:RG xs.length (j:Int)=MW j:=by unfold RG;rw[NB (),NB ()];simp
 unfold atI;rw[e];exact h
def nF(b:l_):Prop:=∀o i,subscripted b MZ o i=operate [o,i] (getItem o i)
def QM(X:Cx)(r:R2):Prop:=
 ∀(b a:l_)(NK:l')(s:J4)(σ:St)(H:Hp)(x y:V)(v u:J3)(Q:VK),Inv X NK σ H s->RelV x v->RelV y u->r x y H Q->
  subscripted a MZ v u=operate [v,u] (getItem v u)->Jq (Ju X.prog X.w) X.A (subscriptTail b a v u) (EP X NK σ Q) X.xe s
def Yx(X:Cx)(id:String)(r:V->n7->Hp->VK->Prop):Prop:=
 ∀(NK:l')(s:J4)(σ:St)(H:Hp)(x:V)(xs:n7)(v:J3)(us:List J3)(Q:VK),Inv X NK σ H s->RelV x v->Vals xs us->r x xs H Q->
  Jq (Ju X.prog X.w) X.A (call (.builtin id) (v::us)) (EP X NK σ Q) X.xe s
section
variable{X:Cx}{a b:l_}{ta tb:TE}{pos:Pos}
def QM.or{r e:R2}(h:QM X r)(h':QM X e):QM X (λx y H Q=>r x y H Q\/e x y H Q):=by
 intro c d NK s σ H x y v u Q I f g q hs;rcases q with q|q
 .exact h c d NK s σ H x y v u Q I f g q hs
 .exact h' c d NK s σ H x y v u Q I f g q hs
def G4{r:R2}(c:QM X r)(ha:PE X a ta)(d:PE X b tb)(hs:nF b):PE X (.Subscript a b pos) (SA r ta tb):=by intro NK s σ H Q I h;exact Subscript_ (EV ha d I h λv u e x y f g i j q=>c a b NK e σ f x y v u Q g i j q (hs _ _))
def F1(K:J1):R2:=λx y H Q=>∃p xs i v,x=.ref p/\y=.int i/\Ni K H p xs/\atI xs i=MW v/\Q v H
def Hc(K:J1):R2:=λx y H Q=>∃p xs i v,x=.ref p/\y=.int i/\Nl K H p xs/\atI xs i=MW v/\Q v H
def Hf:R2:=λx y H Q=>∃z i c,x=.str z/\y=.int i/\z.length<=JJ/\atI z.cps.toList i=MW c/\Q (.str ⟨#[c]⟩) H
def BB:QM X (F1 X.K):=by
 intro d e NK s σ H x y v u Q I m n h hs;let[p,xs,i,z,8,8,o,he,q]:=h;cases m;let[t,8]:=n;let[f,r,pl,D]:=I.list o;let[j,h1,h2,E,A,B]:=nM he;let[w,l,g]:=r.get h2;let hl:=r.length;let F:=i9;let c:EP X NK σ Q w s:=#[z,H,I,g,q];by_cases h0:0<=i
 .have k:i.toNat=j:=by rw[seqIndex_of h0 B]at h1;exact Option.some.inj h1
  exact item_listR pl.isList h0 () (by rw[k];simpa using l) c hs
 .have k:(i+(f.toArray.size:Int)).toNat=j:=by rw[seqIndex_neg () A]at h1;rw[Jw,<-hl];exact Option.some.inj h1
  exact subscriptTail_builtinR (x:=w) pl.isList.typeIs slot_list_getitem.lookup (wpAny_getItem_list_neg (Q:=λr C=>r=w/\EP X NK σ Q r C) pl.isList () (by rw[Jw]<;>omega) () (by rw[k];simpa using l) #[8,c]) hs
def DJ:QM X (Hc X.K):=by intro c d NK s σ H x y v u Q I g k h hs;let[p,xs,i,z,8,8,l,he,q]:=h;cases g;let[t,8]:=k;let[m,r,pl,A]:=I.tuple l;let[j,h1,h2,B,C,D]:=nM he;let[w,n,e]:=r.get h2;let hl:=r.length;let E:=i9;let f:EP X NK σ Q w s:=#[z,H,I,e,q];exact subscriptTail_builtinR (x:=w) pl.typeIs slot_tuple_getitem.lookup (getItem_tuple (j:=j) (Q:=λr o=>r=w/\EP X NK σ Q r o) pl () () (by rw[Jw,<-hl];exact h1) ‹n› #[8,f]) hs
def EO:QM X Hf:=by
 intro d e NK s σ H x y v u Q I f g h hs;let[z,i,c,8,8,m,he,q]:=h;let[t,8]:=f;let[n,8]:=g;let[j,h1,h2,o,k,l]:=nM he;let hl:z.cps.toList.length=z.length:=by simp[Str.length]
 rw[hl]at h1 k l;let p:=i9
 exact tail_any (typeIs_str s z t) slot_str_getitem.lookup (getItem_str (c:=c) (by
  let e1:decide (i < -(2^63:Int))=MZ:=NC ()
  let e2:decide (i≥2^63)=MZ:=NC ()
  rw[e1,e2,Bool.or_false]) (by rw[h1];simpa using h2) #[.str ⟨#[c]⟩,H,I.tok _,#[_,rfl],q]) hs
def ZI(K:J1):R2:=λx y H Q=>F1 K x y H Q\/Hc K x y H Q\/Hf x y H Q
theorem E4:QM X (ZI X.K):=BB.or (DJ.or EO)
def rM(its:List J3)(n j:Nat)(u:J3):Kt (·.setIfInBounds j u) { cls:=.type "list",data:=.seq its.toArray n }={ cls:=.type "list",data:=.seq (its.set j u).toArray n }:=by simp[Kt]
def Inv.lst{NK:l'}{σ:St}{H:Hp}{s:J4}{p:k_}{xs:n7}(I:Inv X NK σ H s)(h:H p=MW (.lst xs)) : ∃(its:List J3) (n:Nat),Vals xs its/\s.heap.get? p=MW { cls:=.type "list",data:=.seq its.toArray n }/\xs.length<=JJ:=by let[z,its,n,r,e]:=I.hok p _ h;exact #[its,n,r,e,z]
def Inv.E3{NK:l'}{σ:St}{H:Hp}{s:J4}{p:k_}{xs c:n7}{its its':List J3}{n d:Nat}{f:Obj->Obj}(I:Inv X NK σ H s)(h:H p=MW (.lst xs))
 (i:s.heap.get? p=MW { cls:=.type "list",data:=.seq its.toArray n }) (g:f { cls:=.type "list",data:=.seq its.toArray n }={ cls:=.type "list",data:=.seq its'.toArray d }) (r:Vals c its') (j:c.length<=JJ) (t:Nat) :
 Inv X NK σ (upd H p (.lst c)) { s with heap:=s.heap.update p f,toks:=t }:=by
 let e:(s.heap.update p f).get? p=MW { cls:=.type "list",data:=.seq its'.toArray d }:=by
  rw[KC f i (by rw[g]<;>rfl),g]
 refine I.write (x:=p) (e:=p) (by rw[h];trivial) (.inl rfl) (λb u k q=>(Kn _ _ (Ne.symm k)).trans q) #[_,e] ?_
 exact #[j,its',d,r,e]
def Gv:V->V->V->Hp->(Hp->Prop)->Prop:=λo i v H Q=>∃p xs k j,o=.ref p/\i=.int k/\H p=MW (.lst xs)/\RG xs.length k=MW j/\Q (upd H p (.lst (xs.set j v)))
def set_list:Gb X Gv:=by
 intro NK s σ H o i v B C u Q I w x y h;let[p,xs,k,j,8,8,f,z,q]:=h;cases w;let[t,8]:=x;let[c,n,r,d,A]:=I.lst f;let[h1,h2,g,l]:=um z;let hl:=r.length;let D:=i9;let m:Inv X NK σ (upd H p (.lst (xs.set j v))) { s with heap:=s.heap.update p (Kt (·.setIfInBounds j u)) }:=I.E3 f d (rM c n j u) (r.set y j) (by rw[List.length_set];exact A) s.toks;by_cases h0:0<=k
 .have e:k.toNat=j:=by rw[seqIndex_of h0 l]at h1;exact Option.some.inj h1
  exact PySem.W.ki_setAt d h0 () (by rw[Jw,<-hl];exact l) (by rw[e];exact #[_,m,q])
 .have e:(k+(c.toArray.size:Int)).toNat=j:=by rw[seqIndex_neg () g]at h1;rw[Jw,<-hl];exact Option.some.inj h1
  exact PySem.W.ki_setBack d () (by rw[Jw,<-hl];exact g) () (by rw[e];exact #[_,m,q])
def nA(lo hi:mu)(n:Nat):(sliceBounds lo hi MX n).1=((HT.sIx n 0 lo:Nat):Int)/\(sliceBounds lo hi MX n).2.1=((HT.sIx n n hi:Nat):Int)/\(sliceBounds lo hi MX n).2.2=1:=by
 refine #[?_,?_,rfl]
 .cases lo with
  |none=>simp[sliceBounds,HT.sIx]
  |some i=>
   simp only[sliceBounds,HT.sIx,Option.getD_none,show(1:Int)>0 by decide,if_true]
   by_cases h:i<0
   .simp only[h,if_true]<;>omega
   .simp only[h,if_false]<;>omega
 .cases hi with
  |none=>simp[sliceBounds,HT.sIx]
  |some i=>
   simp only[sliceBounds,HT.sIx,Option.getD_none,show(1:Int)>0 by decide,if_true]
   by_cases h:i<0
   .simp only[h,if_true]<;>omega
   .simp only[h,if_false]<;>omega
def mD(its:List J3)(lo hi:mu):slicePick its.toArray lo hi MX=((its.drop (HT.sIx its.length 0 lo)).take (HT.sIx its.length its.length hi-HT.sIx its.length 0 lo)).toArray:=by let[h1,h2,c]:=nA lo hi its.toArray.size;unfold slicePick;rw[h1,h2,c];simp only[sliceRange_one,pick_run,Jw]<;>rfl
def Ii(K:J1):V->mu->mu->Hp->VK->Prop:=λx lo hi H Q=>∃a xs,x=.ref a/\Ni K H a xs/\∀p,H p=MX->Q (.ref p) (upd H p (.lst (pd xs lo hi)))
def A6:R9 X (Ii X.K):=by intro NK s σ H x v i j lo hi sl Q I d hs pl e h;let[a,xs,8,hx,q]:=h;cases d;let[f,r,ht,g]:=I.list hx;let c:=r.length;exists "list",_,slot_list_getitem.lookup,ht.isList.typeIs;refine wpAny_getItem_list_slice ht.isList hs pl e .none (_) ?_ (by rw[Jw]<;>omega);rw[mD,<-c];refine #[.ref s.z,_,I.laid (t':=s.toks) (o:=.lst (pd xs lo hi)) (λb ob q=>J6 _ q) (Jo _) ?_,8,q _ (I.hok.fresh (Jo _))];exact #[K0 (jR xs lo hi) g,_,0,(r.drop (HT.sIx xs.length 0 lo)).take (HT.sIx xs.length xs.length hi-HT.sIx xs.length 0 lo),Jt _ rfl]
def oQ:bo X (.builtin "len") (λxs H Q=>∃p d,xs=[.ref p]/\(Ni X.K H p d\/Nl X.K H p d)/\Q (.int d.length) H):=by
 intro NK s σ H xs us Q I r h;let[p,d,8,e,q]:=h;let[u,8,i]:=vals1 r;cases i;let k:=i9;rcases e with e|e
 .obtain⟨f,g,pl,j⟩:=I.list e;let c:=g.length;exact Calls.call_len_list pl.isList (by simp only[Jw]<;>omega) #[.int d.length,H,I.tok _,#[s.toks+1,by rw[Jw,c]],q]
 .obtain⟨f,g,pl,j⟩:=I.tuple e;let c:=g.length;exact len_tuple pl (by simp only[Jw]<;>omega) #[.int d.length,H,I.tok _,#[s.toks+1,by rw[Jw,c]],q]
def bo.or{f:J3}{r c:n7->Hp->VK->Prop}(h:bo X f r)(h':bo X f c):bo X f (λxs H Q=>r xs H Q\/c xs H Q):=by
 intro NK s σ H xs us Q I d q;rcases q with q|q
 .exact h NK s σ H xs us Q I d q
 .exact h' NK s σ H xs us Q I d q
def nW:bo X (.type "list") (λxs H Q=>∃p f,xs=[.ref p]/\(Ni X.K H p f\/Nl X.K H p f)/\∀l,H l=MX->Q (.ref l) (upd H l (.lst f))):=by
 intro NK s σ H xs us Q I r h;let[p,f,8,j,q]:=h;let[u,8,z]:=vals1 r;cases z;let k:∀(c:List J3),Vals f c->f.length<=JJ->∀(d:lj)(g:Nat),(∀b y,s.heap.get? b=MW y->d.get? b=MW y)->d.get? s.z=MW { cls:=.type "list",dict:=MX,data:=.seq c.toArray g,slots:=#[] }->EP X NK σ Q (.ref s.z) { s with heap:=d }:=λc i m d g kp e=>#[.ref s.z,_,I.laid (t':=s.toks) kp (Jo _) (show bB X.prog X.w _ d _ (.lst f)from #[m,c,g,i,e]),8,q _ (I.hok.fresh (Jo _))];rcases j with j|j
 .obtain⟨c,i,pl,m⟩:=I.list j;let t:=i.length;let[o,v,x,n,hd]:=pl.isList;exact call_list_seq p (.inl rfl) v x hd (λd g kp e=>k c i m d g kp e) (by simp only[Jw]<;>omega)
 .obtain⟨c,i,pl,m⟩:=I.tuple j;let t:=i.length;let[o,v,x,n,hd]:=pl;exact call_list_seq p (.inr rfl) v x hd (λd g kp e=>k c i m d g kp e) (by simp only[Jw]<;>omega)
def mi:bo X (.type "tuple") (λxs H Q=>∃p d,xs=[.ref p]/\((Ni X.K H p d/\∀l,H l=MX->Q (.ref l) (upd H l (.tup d)))\/(Nl X.K H p d/\Q (.ref p) H))):=by
 intro NK s σ H xs us Q I r h;let[p,d,8,h]:=h;let[u,8,n]:=vals1 r;cases n;rcases h with⟨g,q⟩|⟨g,q⟩
 .obtain⟨c,i,pl,j⟩:=I.list g;let k:=i.length;refine call_tuple_list pl.isList (λf kp=>?_) (by simp only[Jw]<;>omega);let m:Inv X NK σ H { s with heap:=f }:=I.kept (t':=s.toks) kp;let t:Inv X NK σ (upd H f.objs.size (.tup d)) { s with heap:=f.push { cls:=.type "tuple",data:=.seq c.toArray } }:=m.laid (t':=s.toks) (λb o e=>J6 _ e) (Jo _) (show bB X.prog X.w _ _ _ (.tup d)from #[j,c,i,IsTup.new _ _,Ry.new _ _]);exact #[.ref f.objs.size,_,t,8,q _ (m.hok.fresh (Jo _))]
 .obtain⟨c,i,pl,j⟩:=I.tuple g;exact call_tuple_same pl #[.ref p,H,I,8,q]
def XD(K:J1)(T:String)(x:V)(H:Hp):Prop:=match x with
 |.str _=>T="str"
 |.int _=>T="int"
 |.ref p=>(T="list"/\∃xs,Ni K H p xs)\/(T="tuple"/\∃o,K.lookup p=MW o/\o.cls=.type "tuple"/\o.dict=MX)\/
  (T="dict"/\((∃kvs,H p=MW (.dK kvs))\/∃kvs,H p=MW (.dT kvs)))\/(T="set"/\∃S n,H p=MW (.set S n))
 |_=>False
def ya{NK:l'}{σ:St}{H:Hp}{s:J4}{T:String}{x:V}{v:J3}(I:Inv X NK σ H s)(r:RelV x v)(ty:XD X.K T x H) : s.TypeIs v T/\∀a,v=.ref a->∃ob,s.heap.get? a=MW ob/\ob.dict=MX:=by
 cases x with
 |str z=>
  let[t,8]:=r
  cases (show T="str" from ty)
  exact #[typeIs_str s z t,λ_ e=>nomatch e]
 |int i=>
  let[t,8]:=r
  cases (show T="int" from ty)
  exact #[typeIs_int s i t,λ_ e=>nomatch e]
 |ref p=>
  cases r
  rcases ty with⟨rfl,xs,f⟩|⟨rfl,o,d,g,hd⟩|⟨rfl,d⟩|⟨rfl,S,n,d⟩
  .obtain⟨h,_,pl,_⟩:=I.list f;refine #[pl.isList.typeIs,λa e=>?_];cases e;let[o,n,e,c,hd,_]:=pl;exact #[o,e,hd]
  .refine #[#[o,I.kIn p o d,g],λa e=>?_];cases e;exact #[o,I.kIn _ o d,hd]
  .have z:∃o,s.heap.get? p=MW o/\o.ExactDict:=by
    rcases d with⟨kvs,d⟩|⟨kvs,d⟩
    .obtain⟨_,_,_,_,o,_,_,e,ex,_⟩:=I.hok p _ d;exact #[o,e,ex]
    .obtain⟨_,_,_,_,o,_,_,e,ex,_⟩:=I.hok p _ d;exact #[o,e,ex]
   let[o,e,ex]:=z;refine #[#[o,e,ex.1],λa e2=>?_];cases e2;exact #[o,e,ex.2.1]
  .obtain⟨o,_,_,_,e,ex,_⟩:=I.hok p _ d;refine #[#[o,e,ex.1],λa e2=>?_];cases e2;exact #[o,e,ex.2.1]
 |_=>exact JK ty
def Jb(K:J1)(T:String)(r:V->n7->Hp->VK->Prop)(to:TE):TE:=λσ H Q=>to σ H λx H1=>XD K T x H1/\r x [] H1 Q
def Zg(K:J1)(T:String)(r:V->n7->Hp->VK->Prop)(to:TE)(t:TA):TE:=λσ H Q=>to σ H λx H1=>XD K T x H1/\t σ H1 λxs c=>r x xs c Q
variable{o e:l_}{es:m3}{to:TE}{t:TA}{name:Str}{apos NO:Pos}{T id:String}{r:V->n7->Hp->VK->Prop}
def E8(k:PlainAttrs T)(slot:Slot T name id)(g:typeOf (.builtin id)=pure (.type "method_descriptor"))(l:Yx X id r)(m:PE X o to) (d:LB o name X.env (eval o X.env)=eval o X.env:=by rfl) (f:(apos.endLine==NO.line)=MY:=by rfl):PE X (.Call (.Attribute o name apos) [] [] NO) (Jb X.K T r to):=by intro NK s σ H Q I h;refine wpAny_Call_method0_late d f (Nf (m NK s σ H _ I h) λv n c=>?_);let[x,H1,i,j,ty,p]:=c;let[h1,h2]:=ya i j ty;exact #[T,id,k,slot,g,h1,h2,Calls.callWith_builtin rfl (PySem.evalArgs_none (l NK n σ H1 x [] v [] Q i j .nil p))]
def Df(p:PlainAttrs T)(slot:Slot T name id)(k:typeOf (.builtin id)=pure (.type "method_descriptor"))(q:Yx X id r)(u:PE X o to)(ha:PA X (e::es) t)
 (g:LB o name X.env (eval o X.env)=eval o X.env:=by rfl)
 (j:((Lh NO (Jz (e::es) X.env)).all (λx=>!x.1)&&(backToKw NO (keywordEach [] X.env)).all (λx=>x.1.isSome)
  && decide ((e::es).length+([]:List Keyword).length+(if([]:List Keyword).isEmpty then 0 else 1)<30))=MY:=by rfl)
 (i:(apos.endLine==NO.line)=MY:=by rfl) (hs:Jz (e::es) X.env=(MZ,eval e X.env)::Jz es X.env:=by rfl) (c:(Lh NO (Jz es X.env)).any (·.1)=MZ:=by rfl) :
 PE X (.Call (.Attribute o name apos) (e::es) [] NO) (Zg X.K T r to t):=by
 intro NK s σ H Q I h
 refine wpAny_Call_method_late g j i rfl (Nf (u NK s σ H _ I h) λv w d=>?_)
 let[x,H1,l,m,ty,y]:=d
 let[h1,h2]:=ya l m ty
 exists T,id,p,slot,k,h1,h2
 let n:=ha NO NK w σ H1 _ l y
 rw[hs]at n ⊢
 refine Calls.callWith_builtin (by show(MZ||(Lh NO (Jz es X.env)).any (·.1))=MZ;rw[c]<;>rfl) (Calls.evalArgs_plain ?_)
 exact Nf n λus z f=>by let[vs,A,B,C,D]:=f;exact(q NK z σ A x vs v us Q B m C D)
/- xs.append(e),list.index on a module's tuple .. are Yx facts of 06m -/
end
def Yy(X:Cx)(id:String)(r:V->n7->Hp->VK->Prop):Prop:=
 ∀(NK:l')(s:J4)(σ:St)(H:Hp)(x:V)(xs:n7)(v:J3)(us:List J3)(Q:VK),Inv X NK σ H s->RelV x v->Vals xs us->r x xs H Q->
  Jq (Ju X.prog X.w) X.A (call (.builtin id) (v::us)) (EP X NK σ Q) X.xe s
def Vals.one:∀{x:V}{us:List J3},Vals [x] us->∃u,us=[u]/\RelV x u:=by
 intro x us h;cases h with
 |cons r t=>cases t;exact #[7,r]
def Vals.two:∀{x y:V}{us:List J3},Vals [x,y] us->∃u v,us=[u,v]/\RelV x u/\RelV y v:=by
 intro x y us h;cases h with
 |cons r t=>
  cases t with
  |cons q n=>cases n;exact #[_,7,r,q]
theorem Vals.zero:∀{us:List J3},Vals [] us->us=[]
 |_,.nil=>rfl
def Vals.dropLast{xs:n7}{us:List J3}(h:Vals xs us):Vals xs.dropLast us.dropLast:=by
 induction h with
 |nil=>exact .nil
 |cons r t a=>
  cases t with
  |nil=>exact .nil
  |cons q b=>exact .cons r a
def sJ{c:Type}(l:List c):l.eraseIdx (l.length-1)=l.dropLast:=by
 induction l with
 |nil=>rfl
 |cons a r d=>
  cases r with
  |nil=>rfl
  |cons b r=>
   let e:(a::b::r).length-1=((b::r).length-1)+1:=by
    let h1:(a::b::r).length=r.length+2:=rfl
    let h2:(b::r).length=r.length+1:=rfl
    omega
   rw[e,List.eraseIdx_cons_succ,d]
   all_goals rfl
section
variable{X:Cx}{NK:l'}{σ:St}{H:Hp}{s:J4}{l b:k_}{xs ys zs:n7}
def Inv.ET{its its':List J3}{n:Nat}{f:Array J3->Array J3}{t':Nat}(I:Inv X NK σ H s)(a:H l=MW (.lst xs))
 (e:s.heap.get? l=MW { cls:=.type "list",data:=.seq its.toArray n }) (c:f its.toArray=its'.toArray) (d:Vals ys its') (g:ys.length<=JJ) :
 Inv X NK σ (upd H l (.lst ys)) { s with heap:=s.heap.update l (Kt f),toks:=t' }:=by
 let q:=PySem.IsL.update e f
 rw[c]at q
 refine I.write (x:=l) (e:=l) (by rw[a];exact trivial) (.inl rfl) (λj u h i=>(Kn s.heap (Kt f) (Ne.symm h)).trans i) #[_,q] ?_
 exact #[g,its',_,d,q]
theorem Inv.Iz{its:List J3}{t':Nat}(I:Inv X NK σ H s)(a:Vals ys its)(c:ys.length<=JJ) : Inv X NK σ (upd H s.z (.lst ys)) { s with heap:=s.heap.push { cls:=.type "list",data:=.seq its.toArray },toks:=t' }:=I.laid (λ_ _ q=>J6 _ q) (Jo _) #[c,its,0,a,Jt _ rfl]
theorem Inv.fresh(I:Inv X NK σ H s):H s.z=MX:=I.hok.fresh (Jo _)
def Inv.pP(I:Inv X NK σ H s)(a:H l=MW (.lst xs)):xs.length<=JJ/\∃(its:List J3) (n:Nat),Vals xs its/\xs.length=its.length/\s.heap.get? l=MW { cls:=.type "list",data:=.seq its.toArray n }:=by let[z,its,n,r,e]:=I.hok l _ a;exact #[z,its,n,r,r.length,e]
end
section
variable{X:Cx}
def BI:V->n7->Hp->VK->Prop:=λx vs H Q=>∃l xs y,x=.ref l/\vs=[y]/\H l=MW (.lst xs)/\xs.length<JJ/\Q .non (upd H l (.lst (xs++[y])))
def mQ:Yy X "list.append" BI:=by intro NK s σ H x vs v us Q I c d h;let[l,xs,y,8,8,b,g,q]:=h;cases c;let[u,8,f]:=d.one;let[z,a,n,r,hl,e]:=I.pP b;refine call_meets F.slot_list_append #[_,e,rfl] F.entry_list_append (F.args_list_append_2 _ _) (PySem.list_append l a.toArray n u (by rw[Jw];omega)) #[e,?_];refine #[.non,_,I.ET (its':=a++[u]) b e (_) (r.append (.cons f .nil)) ?_,8,q];rw[Ki,List.length_singleton];omega
def Ig:V->n7->Hp->VK->Prop:=λx vs H Q=>∃l xs y,x=.ref l/\vs=[]/\H l=MW (.lst xs)/\xs[xs.length-1]?=MW y/\Q y (upd H l (.lst xs.dropLast))
def Eg:Yy X "list.pop" Ig:=by
 intro NK s σ H x vs v us Q I f g h;let[l,xs,y,8,8,d,i,q]:=h;cases f;let b:=g.zero;subst b;let[z,a,n,r,hl,e]:=I.pP d;let[u,j,k]:=r.get i;let c:a.toArray[a.toArray.size-1]?=MW u:=by show a.toArray[a.length-1]?=MW u;rw[<-JX,<-hl];exact j
 refine call_meets F.slot_list_pop #[_,e,rfl] F.entry_list_pop (F.args_list_pop_1 _) (MeetsSeq.list_pop_last l a.toArray n u c (by rw[Jw];omega)) #[e,?_];refine #[y,_,I.ET (its':=a.dropLast) d e ?_ r.dropLast ?_,k,q]
 .show a.toArray.eraseIdxIfInBounds (a.toArray.size-1)=a.dropLast.toArray;rw[Jw,List.eraseIdxIfInBounds_toArray,sJ]
 .rw[List.length_dropLast];omega
def IS:R2:=λx y H Q=>∃l b xs a,x=.ref l/\y=.ref b/\H l=MW (.lst xs)/\H b=MW (.lst a)/\xs.length+a.length<=JJ/\∀p,H p=MX->Q (.ref p) (upd H p (.lst (xs++a)))
def DH:OR X (Mz .Add) IS:=by
 intro NK s σ H x y v u Q I d f h;let[l,b,xs,m,8,8,g,i,o,q]:=h;cases d;cases f;let[z,c,n,r,hl,e]:=I.pP g;let[p,a,n2,j,k,e2]:=I.pP i;refine PySem.P.add_list e e2 ?_ (by rw[Jw,Jw];omega);let ea:c.toArray++a.toArray=(c++a).toArray:=by simp
 rw[ea];exact #[.ref _,_,I.Iz (t':=s.toks) (r.append j) (by rw[Ki];omega),8,q _ I.fresh]
end
end L2
namespace Att
open PySem PySem.W PySem.Calls PyProof.Rows
def j3{P:JA}{h:lj}:∀(ns:ml)(vs:List J3),WellAll P h vs (ns.map WData.int)->L6 vs ns:=by
 intro ns
 induction ns with
 |nil=>
  intro vs w
  rw[L7]at w
  cases w
  exact .nil
 |cons n ns c=>
  intro vs w
  rw[J9]at w
  cases w with
  |cons a b=>
   cases a
   exact .cons _ _ (c _ b)
def vG{l:OpenLaw}{n:Nat}(o:l.most=MW n){P:JA}{h:lj}{args:List WData}{b:List J3}
 (c:l.row.toRowW.claim.pre args=MY) (j:WellAll P h b args) :
 ∃a vs ns,b=[JV a]/\args=[WData.list (ns.map WData.int)]/\h.get? a=MW { cls:=.type "list",data:=.seq vs.toArray }/\L6 vs ns/\ns.length<=n:=by
 let k:WShape.hasAll [] args [.list .int]=MY:=(pre_splitW c).1
 let m:l.pre.holds [] { args:=args }=MY:=(pre_splitW c).2
 let[d,r,8,h1,h2]:=hasAllW_cons k
 obtain rfl:=hasAllW_nil h2
 let[xs,8,p]:=hasW_list h1
 let[ns,8]:=items_int p
 let e:ns.length<=n:=by
  unfold OpenLaw.pre at m
  let g:(WTm.not (.lt (.lit (.int (n:Int))) (.len (.arg 0)))).holds [] { args:=[.list (ns.map .int)] }=MY:=by
   let g:=(holds_andW m).1
   rw[o]at g
   exact g
  let i:=condW_of g (w_not (w_lt w_lit (w_len_list (w_arg rfl))))
  rw[J7]at i
  refine Nat.le_of_not_lt λq=>?_
  let s:(n:Int)<((ns.length:Nat):Int):=()
  first
   |(rw[ND s]at i;exact absurd i ⋯)
   |(simp at i;omega)
 cases j with
 |cons w1 w2=>
  cases w2
  cases w1 with
  |list t f=>exact #[_,_,ns,8,8,t,j3 ns _ f,e]
theorem vN(l:OpenLaw)(args:List WData):l.row.toRowW.claim.post args (.bool MY) args=MY:=
 postW_of (r:=l.row.toRowW) (X:=(MY==MY))
  (show WShape.has [] (.bool MY) .bool=MY by first|rfl|decide|simp[WShape.has,WShape.arms,WShape.armsAll])
  (show(WTm.eq .res (.lit (.bool MY))).value [] { args:=args,res:=MW (.bool MY),after:=args }=MW (.bool (MY==MY))from w_eq_bool (w_res rfl) w_lit) rfl
def p6{l:OpenLaw}{n:Nat}{q:Jv}{c:nj}{y:(Str->Option J3)->lj->Prop}{z:JP->lj->Prop}{d:DefRec}
 (D:l.most=MW n) (p:d.params.defaults=[])
 (call:∀(w:JP)(s₀ b:J4)(mg s:Str->Option J3)(h:k_)(o:Obj)(t cd e:J3)(a:k_)(vs:List J3)(ns:ml),
  Ground q c [] y w s₀ mg s b.heap->z w b.heap->
  b.heap.get? h=MW o->o.data=.func (docDef d.name d.params d.body d.scope t cd e)->b.heap.CodeRec cd d.name->mg d.name=MW (.ref h)->
  b.heap.get? a=MW { cls:=.type "list",data:=.seq vs.toArray }->L6 vs ns->ns.length<=n->b.gens=#[]->
  L5 (Ju l.prog w) callerA (.call (.ref h) #[[.ref a],[]]) (λr m=>r=.ok (.ret (.bool MY))/\OldK b.heap m.heap/\m.os=b.os/\AllBare m.gens) b) :
 WalkO q c y z l.row.toRowW d [] (λf vs=>PySem.call f vs):=by
 intro w s₀ b mg s G Y h o t cd e E kV F hd u A v H args B O i C I x J
 obtain rfl:E=.none:=Dflts.none A p
 obtain rfl:kV=.none:=Dflts.noKw A
 let[a,vs,ns,8,8,j,g,k]:=vG D i x
 refine enter_call (MB (call w s₀ b mg s h o t cd e a vs ns G Y F (fd_plain hd) u v j g k H) λr m K=>?_)
 let[8,h2,L,M]:=K
 exact #[.inl #[.bool MY,.bool MY,[],8,λ_=>rfl,.bool MY,vN l _,λ_=>#[List.Pairwise.nil,λ_ N=>(nomatch N)]],h2,L,M]
section
variable{prog:Jv}{w:JP}{A:JQ}{E:J3->J4->Prop}{s:J4}{K:Frag}
end
end Att
namespace L2
open PySem PySem.Spec PyProof.Rows
theorem eT:∀{vs:List J3}{ns:ml},L6 vs ns->Vals (ns.map V.int) vs
 |_,_,.nil=>.nil
 |_,_,.cons n t h=>.cons #[t,rfl] (eT h)
abbrev KOf{K:J1}{h:lj}(_:K.In h):J1:=K
def aT(s:lb):Arguments:=match s with
 |.FunctionDef _ a _ _ _ _ _ _ _ _=>a
 |_=>{ posonlyargs:=[],args:=[],vararg:=MX,kwonlyargs:=[],kw_defaults:=[],kwarg:=MX,defaults:=[] }
def aJ(s:lb):mv:=match s with
 |.FunctionDef _ _ b _ _ _ _ _ _ _=>b
 |_=>[]
def ao(s:lb):Lq:=match s with
 |.FunctionDef _ _ _ _ _ _ sc _ _ _=>sc
 |_=>{ kind:=.function,names:=[],isGenerator:=MZ,isCoroutine:=MZ }
abbrev Oa:QO:=λ_ _ _ _ _ _=>False
abbrev E0:XK:=λ_ _ _=>False
theorem yg{X:Cx}:Passes Oa X E0:=λ_ _ _ _ _ _ _ h=>h.elim
structure Fun(K:J1)(x qual:Str)(st:lb)(f:k_)(fd:MA):Prop where
 ex:∃(oc:J3) (od:Option k_) (kV doc pm:J3) (an:Option k_) (cdv ct:J3) (osl:Array (Option J3)),
  fd=Kp x qual (aT st) (aJ st) (ao st) .none kV doc pm an cdv ct/\K.lookup f=MW #[oc,od,.func fd,osl]/\LS K cdv qual=MY
 kp:Kz K (.ref f)=MY
section
variable{P:Jv}{w:JP}{K:J1}{mg:Str->Option J3}{base:lj}
def Fun.ok{x qual:Str}{st:lb}{f:k_}{fd:MA}{N ps:nj}{k:Nat}{sp:Sp}(F:Fun K x qual st f fd)(S:N9 N ps (ao st))(len:∀vs H Q E,sp vs H Q E->vs.length=ps.length)
 (a:∀(cdv:J3)(A:JQ)(outer:List Env)(s:J4)(H:Hp)(vs:n7)(Q:VK)(E:XK),Nd k (A.deeper (MT qual (ao st) s.z f cdv))->sp vs H Q E->
  ∃t,PK (bg Oa P w K mg base N qual (ao st) f cdv A outer s H E).nox (aJ st) t/\t { nx:=λ_ d=>Q .non d,rt:=Q } (start N vs) H):Np P w K mg base Oa (k+1) f fd ps sp:=by
 let[oc,od,kV,e,i,an,cdv,ct,osl,8,lk,b]:=F.ex
 refine yl lk b S len λA outer s H vs Q E g c=>?_
 let[t,h,q]:=a cdv A outer s H vs Q E g c
 exact #[t,h.nox,q]
def Fun.binds{x qual:Str}{st:lb}{f:k_}{fd:MA}{ps:nj}(F:Fun K x qual st f fd) (h:∀(kV a b:J3)(an:Option k_)(cdv ct:J3)(us:List J3),us.length=ps.length->MM (Kp x qual (aT st) (aJ st) (ao st) .none kV a b an cdv ct) #[us,[]]=pure (ps.zip us)):Binds K fd ps []:=by let[oc,od,kV,a,b,an,cdv,ct,osl,8,lk,c]:=F.ex;exact .all (h kV a b an cdv ct)
theorem nX{x qual:Str}{st:lb}{f:k_}{oc:J3}{od an:Option k_}{osl:Array (Option J3)}{kV a b cdv ct:J3}(l:K.lookup f=MW #[oc,od,.func (Kp x qual (aT st) (aJ st) (ao st) .none kV a b an cdv ct),osl]) (c:LS K cdv qual=MY) (k:Kz K (.ref f)=MY):Fun K x qual st f (Kp x qual (aT st) (aJ st) (ao st) .none kV a b an cdv ct):=#[#[oc,od,kV,a,b,an,cdv,ct,osl,8,l,c],k]
end
section
variable{X:Cx}
theorem pv(i:Nat){x:Str}{a:Pos}(c:X.N[i]?=MW x:=by rfl)(d:Wg X.env.scope x:=by first|exact Or.inl rfl|exact Or.inr (Or.inl rfl)|exact Or.inr (Or.inr rfl))(hd:(x==("__debug__":Str))=MZ:=by decide) (b:(x==("__classdict__":Str))=MZ:=by decide):PE X (.Name x a) (Av i):=zu c d hd b
end
def mw{A B:Prop}(h:A):if MY=MY then A else B:=by rw[NB rfl];exact h
def cD{c A B:Prop}[Decidable c](h1:c->A)(h2:¬c->B):if c then A else B:=by
 by_cases h:c
 .rw[NB h];exact h1 h
 .rw[NA h];exact h2 h
section
variable{X:Cx}{NK:l'}{σ:St}{H:Hp}{s:J4}{a:k_}{y v:V}{u r:J3}{o:Option V}{A:JQ}{E:J3->J4->Prop}
def Inv.big(I:Inv X NK σ H s):LL<s.z:=by let h:JR<s.z:=(I.mod.glob.keeps I.bk).lt;exact Nat.lt_trans ⋯ h
theorem ki{h':lj}{t':Nat}{ob:HO}(I:Inv X NK σ H s)(c:Wm (H a))(hs:LN a s.heap h')(he:∃q,h'.get? a=MW q)(new:bB X.prog X.w (upd H a ob) h' a ob) : Inv X NK σ (upd H a ob) { s with heap:=h',toks:=t' }:=I.write (x:=a) (e:=a) c (.inl rfl) (λb q d z=>(hs.2 b d).trans z) he new
end
def Ci(i:l_):Prop:=∀a b,subscripted i MZ a b=operate [a,b] (getItem a b)
end L2
namespace SD
def vy{c:Type}{l:List c}(h:l.length=1):∃a,l=[a]:=by
 cases l with
 |nil=>cases h
 |cons a l=>
  cases l with
  |nil=>exact #[a,rfl]
  |cons b l=>cases h
def Ez{b:Type}{n:Nat}{l:List b}(h:l.length=n+1):∃a r,l=a::r/\r.length=n:=by
 cases l with
 |nil=>cases h
 |cons a l=>exact #[a,l,8,Nat.succ.inj h]
def vm{c:Type}{l:List c}(h:l.length=2):∃a b,l=[a,b]:=by let[a,r,8,h2]:=Ez h;let[b,8]:=vy h2;exact #[a,b,rfl]
def wu{d:Type}{l:List d}(h:l.length=3):∃a b c,l=[a,b,c]:=by let[a,r,8,h2]:=Ez h;let[b,c,8]:=vm h2;exact #[a,b,c,rfl]
def Io{e:Type}{l:List e}(h:l.length=4):∃a b c d,l=[a,b,c,d]:=by let[a,r,8,h2]:=Ez h;let[b,c,d,8]:=wu h2;exact #[a,b,c,d,rfl]
open PySem PySem.Spec PyProof.Rows L2
inductive D where
 |non|bl (b:Bool)|int (i:Int)|str (x:Str)|ty (n:String)|ref (a:k_)|rol (ds:List D)|tup (ds:List D)
abbrev _root_.oy:=Option D
abbrev _root_.ox:=List D
abbrev _root_.oi:=List (oy)
def Rx(K:J1)(H:Hp)(a:k_)(xs:n7):Prop:=
 (∃o,H a=MW (.frz o (.lst xs)))\/
  ∃(o:Obj) (b:Array J3) (n:Nat),K.lookup a=MW o/\o.cls=.type "list"/\o.dict=MX/\o.data=.seq b n/\b.size<=JJ/\Vals xs b.toList
def Rx.sql{K:J1}{H:Hp}{a:k_}{xs:n7}(h:Rx K H a xs):Ni K H a xs:=by
 rcases h with h|h
 .exact .inl (.inr h)
 .exact .inr h
mutual
def Rep(K:J1)(H:Hp):D->V->Prop
 |.non,v=>v=.non
 |.bl b,v=>v=.bl b
 |.int i,v=>v=.int i
 |.str x,v=>v=.str x
 |.ty n,v=>v=.ty n
 |.ref a,v=>v=.ref a
 |.rol ds,v=>∃a xs,v=.ref a/\Rx K H a xs/\aC K H ds xs
 |.tup ds,v=>∃a xs,v=.ref a/\Nl K H a xs/\aC K H ds xs
def aC(K:J1)(H:Hp):ox->n7->Prop
 |[],xs=>xs=[]
 |d::ds,xs=>∃x r,xs=x::r/\Rep K H d x/\aC K H ds r
end
structure Nb(K:J1)(H H':Hp):Prop where
 t:∀a xs,Nl K H a xs->Nl K H' a xs
 f:∀a xs,Rx K H a xs->Rx K H' a xs
theorem Nb.refl{K:J1}{H:Hp}:Nb K H H:=#[λ_ _ h=>h,λ_ _ h=>h]
theorem Nb.trans{K:J1}{H H1 c:Hp}(a:Nb K H H1)(b:Nb K H1 c):Nb K H c:=#[λx y h=>b.t x y (a.t x y h),λx y h=>b.f x y (a.f x y h)]
def Nb.put{K:J1}{H:Hp}{p:k_}{o:HO}(h1:∀xs,H p≠MW (.tup xs))(h2:∀u xs,H p≠MW (.frz u xs)):Nb K H (upd H p o):=by
 refine #[λa xs h=>?_,λa xs h=>?_]
 .rcases h with(h|⟨u,h⟩)|h
  .exact .inl (.inl (by rw[ay (by intro e;subst e;exact h1 _ h)];exact h))
  .exact .inl (.inr #[u,by rw[ay (by intro e;subst e;exact h2 _ _ h)];exact h])
  .exact .inr h
 .rcases h with⟨u,h⟩|h
  .exact .inl #[u,by rw[ay (by intro e;subst e;exact h2 _ _ h)];exact h]
  .exact .inr h
theorem Nb.new{K:J1}{H:Hp}{p:k_}{o:HO}(h:H p=MX):Nb K H (upd H p o):=.put (λxs e=>by rw[h]at e;cases e) (λu xs e=>by rw[h]at e;cases e)
theorem Nb.lst{K:J1}{H:Hp}{p:k_}{o:HO}{xs:n7}(h:H p=MW (.lst xs)):Nb K H (upd H p o):=.put (λa e=>by rw[h]at e;cases e) (λu a e=>by rw[h]at e;cases e)
mutual
theorem Rep.mono{K:J1}{H b:Hp}(g:Nb K H b):∀{d:D}{v:V},Rep K H d v->Rep K b d v
 |.non,_,h=>h
 |.bl _,_,h=>h
 |.int _,_,h=>h
 |.str _,_,h=>h
 |.ty _,_,h=>h
 |.ref _,_,h=>h
 |.rol ds,_,h=>by
  rw[Rep]at h ⊢
  let[a,xs,e,h1,h2]:=h
  exact #[a,xs,e,g.f _ _ h1,aC.mono g h2]
 |.tup ds,_,h=>by
  rw[Rep]at h ⊢
  let[a,xs,e,h1,h2]:=h
  exact #[a,xs,e,g.t _ _ h1,aC.mono g h2]
theorem aC.mono{K:J1}{H b:Hp}(g:Nb K H b):∀{a:ox}{xs:n7},aC K H a xs->aC K b a xs
 |[],_,h=>h
 |d::a,_,h=>by
  rw[aC]at h ⊢
  let[x,r,e,h1,h2]:=h
  exact #[x,r,e,Rep.mono g h1,aC.mono g h2]
end
section
variable{K:J1}{H H':Hp}
def aC.nil:aC K H [] []:=by rw[aC]
def aC.cons{d:D}{c:ox}{x:V}{r:n7}(a:Rep K H d x)(b:aC K H c r):aC K H (d::c) (x::r):=by rw[aC];exact #[x,r,8,a,b]
theorem aC.length:∀{a:ox}{xs:n7},aC K H a xs->a.length=xs.length
 |[],xs,h=>by rw[aC]at h;subst h;rfl
 |d::a,xs,h=>by
  rw[aC]at h
  let[x,r,8,_,h2]:=h
  simp[aC.length h2]
theorem aC.get:∀{a:ox}{xs:n7}{i:Nat}{d:D},aC K H a xs->a[i]?=MW d->∃x,xs[i]?=MW x/\Rep K H d x
 |[],_,_,_,_,e=>by simp at e
 |_::_,xs,0,_,h,e=>by
  rw[aC]at h
  let[x,r,8,h1,_]:=h
  simp at e;subst e
  exact #[x,8,h1]
 |_::a,xs,i+1,d,h,e=>by
  rw[aC]at h
  let[x,r,8,_,h2]:=h
  simpa using aC.get (i:=i) (d:=d) h2 ‹e›
theorem aC.set{d:D}{x:V}(a:Rep K H d x):∀{b:ox}{xs:n7}(i:Nat),aC K H b xs->aC K H (b.set i d) (xs.set i x)
 |[],_,_,h=>by rw[aC]at h;subst h;simp[aC.nil]
 |_::_,_,0,h=>by
  rw[aC]at h
  let[y,r,8,_,h2]:=h
  exact .cons a h2
 |_::b,_,i+1,h=>by
  rw[aC]at h
  let[y,r,8,h1,h2]:=h
  exact .cons h1 (aC.set a i h2)
theorem aC.append:∀{a es:ox}{xs b:n7},aC K H a xs->aC K H es b->aC K H (a++es) (xs++b)
 |[],_,_,_,h,k=>by rw[aC]at h;subst h;exact k
 |_::a,_,_,_,h,k=>by
  rw[aC]at h
  let[y,r,8,h1,h2]:=h
  exact .cons h1 (aC.append h2 k)
theorem aC.of_get:∀{c:ox}{xs:n7},c.length=xs.length->(∀(i:Nat) d x,c[i]?=MW d->xs[i]?=MW x->Rep K H d x)->aC K H c xs
 |[],[],_,_=>.nil
 |[],_::_,h,_=>by simp at h
 |_::_,[],h,_=>by simp at h
 |d::c,x::xs,h,k=>.cons (k 0 d x rfl rfl) (aC.of_get ‹h› λi d x a b=>k (i+1) d x ‹a› ‹b›)
def aC.take{c:ox}{xs:n7}(n:Nat)(h:aC K H c xs):aC K H (c.take n) (xs.take n):=by
 refine .of_get (by simp[h.length]) λi d x a b=>?_
 let hi:i<n:=by
  rw[List.getElem?_take]at a;split at a
  .assumption
  .cases a
 rw[List.getElem?_take_of_lt hi]at a b;let[y,e,r]:=h.get a;rw[e]at b;cases b;exact r
def aC.drop{c:ox}{xs:n7}(n:Nat)(h:aC K H c xs):aC K H (c.drop n) (xs.drop n):=by refine .of_get (by simp[h.length]) λi d x a b=>?_;rw[List.getElem?_drop]at a b;let[y,e,r]:=h.get a;rw[e]at b;cases b;exact r
theorem cA:∀(ns:ml),aC K H (ns.map D.int) (ns.map V.int)
 |[]=>.nil
 |n::ns=>.cons (by rw[Rep]) (cA ns)
end
def Jn(a C:k_):lj->Prop:=λh=>∃o,h.get? a=MW o/\o.cls=.ref C
inductive MO where
 |lst (ds:ox)|err (C:k_)
 |dct (n:Nat) (P:ml->Bool)
 |gen (A:J1->Hp->k_->Prop)
abbrev MH:=k_->Option MO
def iI(K:J1)(H:Hp)(a:k_):MO->Prop
 |.lst c=>∃xs,H a=MW (.lst xs)/\aC K H c xs
 |.err C=>H a=MW (.ext (Jn a C))
 |.dct n P=>∃kvs:List (List Key×V),H a=MW (.dT kvs)/\kvs.length<=n/\∀k:ml,(kvs.any λd=>decide (d.1=k.map Sum.inl))=P k
 |.gen A=>A K H a/\H a≠MX/\∀b,Nb K H b->b a=H a->A K b a
def Nc(K:J1)(H:Hp)(M:MH):Prop:=∀a o,M a=MW o->iI K H a o
def av(M:MH)(a:k_)(o:MO):MH:=λb=>if b=a then MW o else M b
def aj{M:MH}{a:k_}{o:MO}:av M a o a=MW o:=by unfold av;rw[NB rfl]
def ak{M:MH}{a b:k_}{o:MO}(h:b≠a):av M a o b=M b:=by unfold av;rw[NA h]
def eG{M:MH}{a:k_}{o u:MO}:av (av M a o) a u=av M a u:=by funext b;unfold av;split<;>rfl
section
variable{K:J1}{H H':Hp}{M:MH}
def iI.some{a:k_}{o:MO}(h:iI K H a o):H a≠MX:=by
 cases o with
 |lst b=>
  let[xs,h1,_]:=h
  rw[h1];simp
 |err C=>rw[show H a=_ from h];simp
 |dct n P=>
  let[kvs,h1,_]:=h
  rw[h1];simp
 |gen A=>exact h.2.1
def Nc.fresh(h:Nc K H M){p:k_}(a:H p=MX):M p=MX:=by
 cases e:M p with
 |none=>rfl
 |some o=>exact absurd a (h p o e).some
def iI.dg{a:k_}{o:MO}(g:Nb K H H')(e:H' a=H a)(h:iI K H a o):iI K H' a o:=by
 cases o with
 |lst d=>
  let[xs,h1,h2]:=h
  exact #[xs,e.trans h1,h2.mono g]
 |err C=>exact e.trans h
 |dct n P=>
  let[kvs,h1,h2]:=h
  exact #[kvs,e.trans h1,h2]
 |gen A=>exact #[h.2.2 H' g e,λz=>h.2.1 (by rw[<-e];exact z),λb c e2=>h.2.2 b (g.trans c) (e2.trans e)]
theorem Nc.new{p:k_}{o:HO}(h:Nc K H M)(b:H p=MX):Nc K (upd H p o) M:=λa u e=>by
 let ne:a≠p:=λz=>by subst z;rw[h.fresh b]at e;cases e
 exact(h a u e).dg (.new b) (ay ne)
theorem Nc.mB{p:k_}{xs:n7}{b:ox}(h:Nc K H M)(c:H p=MX)(r:aC K H b xs):Nc K (upd H p (.lst xs)) (av M p (.lst b)):=λa u e=>by
 by_cases ne:a=p
 .subst ne;rw[aj]at e;cases e;exact #[xs,az,r.mono (.new c)]
 .rw[ak ne]at e;exact(h a u e).dg (.new c) (ay ne)
theorem Nc.yJ{p:k_}{xs b:n7}{c:ox}(h:Nc K H M)(d:H p=MW (.lst xs))(r:aC K H c b):Nc K (upd H p (.lst b)) (av M p (.lst c)):=λa u e=>by
 by_cases ne:a=p
 .subst ne;rw[aj]at e;cases e;exact #[b,az,r.mono (.lst d)]
 .rw[ak ne]at e;exact(h a u e).dg (.lst d) (ay ne)
theorem Nc.sub{b:MH}(h:Nc K H M)(s:∀a o,b a=MW o->M a=MW o):Nc K H b:=λa o e=>h a o (s a o e)
end
abbrev DS:=oi
structure Slots(K:J1)(H:Hp)(δ:DS)(σ:L2.St):Prop where
 len:δ.length=σ.length
 at':∀(i:Nat) d,δ[i]?=MW (MW d)->∃v,σ[i]?=MW (MW v)/\Rep K H d v
section
variable{K:J1}{H H':Hp}{δ:DS}{σ:L2.St}
theorem Slots.mono(g:Nb K H H')(h:Slots K H δ σ):Slots K H' δ σ:=#[h.len,λi d e=>let⟨v,a,b⟩:=h.at' i d e;#[v,a,b.mono g]]
def Slots.set{d:D}{v:V}(r:Rep K H d v)(i:Nat)(h:Slots K H δ σ):Slots K H (δ.set i (MW d)) (σ.set i (MW v)):=by
 refine #[by simp[h.len],λj e q=>?_];rw[List.getElem?_set]at q;by_cases a:i=j
 .subst a;rw[NB rfl]at q;by_cases hl:i<δ.length
  .rw[NB hl]at q;cases q;exact #[v,by rw[List.getElem?_set,NB rfl,NB (by rw[<-h.len];exact hl)],r]
  .rw[NA hl]at q;cases q
 .rw[NA a]at q;let[b,e1,e2]:=h.at' j e q;exact #[b,by rw[List.getElem?_set,NA a];exact e1,e2]
def gc{N:nj}{a:ox}{vs:n7}(r:aC K H a vs):Slots K H (a.map MW++List.replicate (N.length-a.length) MX) (L2.start N vs):=by
 let hl:=r.length;refine #[by unfold L2.start;simp[hl],λi d e=>?_];unfold L2.start;by_cases hi:i<a.length
 .rw[K7 ‹hi›,JI]at e;cases q:a[i]? with
  |none=>rw[q]at e;cases e
  |some b=>
   rw[q]at e;cases e
   let[x,e1,e2]:=r.get q
   refine #[x,?_,e2]
   rw[K7 (by simp;omega),JI,e1];rfl
 .rw[K4 ‹hi›,List.getElem?_replicate]at e;split at e<;>cases e
end
abbrev DK:=D->MH->Prop
abbrev TD:=DS->MH->DK->Prop
abbrev OL:=DS->MH->(Bool->MH->Prop)->Prop
abbrev Ny:=DS->MH->(ox->MH->Prop)->Prop
structure EndsD where
 nx:DS->MH->Prop
 rt:DK
 bk:DS->MH->Prop:=λ_ _=>False
 ct:DS->MH->Prop:=λ_ _=>False
@[reducible] def EndsD.nxt(B:EndsD)(n:DS->MH->Prop):EndsD:={ B with nx:=n }
@[reducible] def EndsD.lp(B:EndsD)(w:DS->MH->Prop):EndsD:={ B with nx:=w,ct:=w,bk:=B.nx }
abbrev OH:=EndsD->DS->MH->Prop
section
variable(K:J1)
def Fin(H:Hp)(R:DK)(Q:VK):Prop:=∀d b v a,Nb K H a->Rep K a d v->Nc K a b->R d b->Q v a
def Bp(H:Hp)(R:Bool->MH->Prop)(Q:Bool->Hp->Prop):Prop:=∀b c a,Nb K H a->Nc K a c->R b c->Q b a
def FinA(H:Hp)(R:ox->MH->Prop)(Q:n7->Hp->Prop):Prop:=∀b c vs a,Nb K H a->aC K a b vs->Nc K a c->R b c->Q vs a
def lift(t:TD):TE:=λσ H Q=>∃δ M R,Slots K H δ σ/\Nc K H M/\t δ M R/\Fin K H R Q
def liftT(t:OL):TT:=λσ H Q=>∃δ M R,Slots K H δ σ/\Nc K H M/\t δ M R/\Bp K H R Q
def yG(t:Ny):TA:=λσ H Q=>∃δ M R,Slots K H δ σ/\Nc K H M/\t δ M R/\FinA K H R Q
structure PM(H:Hp)(B:EndsD)(E:Ends):Prop where
 nx:∀δ M σ H',Nb K H H'->Slots K H' δ σ->Nc K H' M->B.nx δ M->E.nx σ H'
 rt:∀d M v H',Nb K H H'->Rep K H' d v->Nc K H' M->B.rt d M->E.rt v H'
 bk:∀δ M σ H',Nb K H H'->Slots K H' δ σ->Nc K H' M->B.bk δ M->E.bk σ H'
 ct:∀δ M σ H',Nb K H H'->Slots K H' δ σ->Nc K H' M->B.ct δ M->E.ct σ H'
def tP(t:OH):TS:=λE σ H=>∃δ M,Slots K H δ σ/\Nc K H M/\∃B,PM K H B E/\t B δ M
end
namespace Zq
@[scoped irreducible]def _root_.SD.DE(X:Cx)(e:l_)(t:TD):Prop:=PE X e (lift X.K t)
@[scoped irreducible]def _root_.SD.DT(X:Cx)(e:l_)(t:OL):Prop:=PT X e (liftT X.K t)
@[scoped irreducible]def _root_.SD.DW(X:Cx)(e:l_)(t:OL):Prop:=PW X e (liftT X.K t)
@[scoped irreducible]def _root_.SD.DA(X:Cx)(es:m3)(t:Ny):Prop:=PA X es (yG X.K t)
@[scoped irreducible]def _root_.SD.DSt(X:Cx)(st:lb)(t:OH):Prop:=PS X st (tP X.K t)
@[scoped irreducible]def _root_.SD.DSs(X:Cx)(st:mv)(t:OH):Prop:=PK X st (tP X.K t)
end Zq
theorem aQ{X:Cx}{e:l_}{t t':TE}(h:PE X e t)(k:∀σ H Q,t' σ H Q->t σ H Q):PE X e t':=λNK s σ H Q I q=>h NK s σ H Q I (k σ H Q q)
theorem ji{X:Cx}{e:l_}{t t':TT}(h:PT X e t)(k:∀σ H Q,t' σ H Q->t σ H Q):PT X e t':=λNK s σ H Q I q=>h NK s σ H Q I (k σ H Q q)
theorem ym{X:Cx}{e:l_}{t t':TT}(h:PW X e t)(k:∀σ H Q,t' σ H Q->t σ H Q):PW X e t':=λa NK s σ H Q I q=>h a NK s σ H Q I (k σ H Q q)
theorem yh{X:Cx}{e:m3}{t t':TA}(h:PA X e t)(k:∀σ H Q,t' σ H Q->t σ H Q):PA X e t':=λa NK s σ H Q I q=>h a NK s σ H Q I (k σ H Q q)
theorem b8{X:Cx}{e:lb}{t t':TS}(h:PS X e t)(k:∀D σ H,t' D σ H->t D σ H):PS X e t':=λNK s σ H D I q=>h NK s σ H D I (k D σ H q)
theorem oS{X:Cx}{e:mv}{t t':TS}(h:PK X e t)(k:∀D σ H,t' D σ H->t D σ H):PK X e t':=λNK s σ H D I q=>h NK s σ H D I (k D σ H q)
section
variable{K:J1}{H H1 H':Hp}
theorem Fin.go{R:DK}{Q:VK}(g:Nb K H H1)(h:Fin K H R Q):Fin K H1 R Q:=λd M v H' a=>h d M v H' (g.trans a)
theorem Bp.go{R:Bool->MH->Prop}{Q:Bool->Hp->Prop}(g:Nb K H H1)(h:Bp K H R Q):Bp K H1 R Q:=λb M H' a=>h b M H' (g.trans a)
theorem PM.go{B:EndsD}{E:Ends}(g:Nb K H H1)(h:PM K H B E):PM K H1 B E:=#[λd M v H' a=>h.nx d M v H' (g.trans a),λd M v H' a=>h.rt d M v H' (g.trans a),λd M v H' a=>h.bk d M v H' (g.trans a),λd M v H' a=>h.ct d M v H' (g.trans a)]
end
section
variable{X:Cx}
inductive QC(i:Nat)(δ:DS)(M:MH)(Q:DK):Prop
 |mk (d:D)(h:δ[i]?=MW (MW d))(q:Q d M):QC i δ M Q
def Rf(d:D):TD:=λ_ M Q=>Q d M
theorem dv(i:Nat){x:Str}{a:Pos}(f:X.N[i]?=MW x:=by rfl)(g:Wg X.env.scope x:=by first|exact Or.inl rfl|exact Or.inr (Or.inl rfl)|exact Or.inr (Or.inr rfl))(hd:(x==("__debug__":Str))=MZ:=by decide)
 (b:(x==("__classdict__":Str))=MZ:=by decide):DE X (.Name x a) (QC i):=
 aQ (zu f g hd b) λσ H Q h=>by
  obtain⟨δ,M,R,hs,j,⟨d,e,r⟩,c⟩:=h
  let[v,e1,e2]:=hs.at' i d e
  exact #[v,e1,c d M v H .refl e2 j r]
theorem dc{e:l_}{v:V}{d:D}(h:PE X e (tC v))(r:∀H,Rep X.K H d v):DE X e (Rf d):=aQ h λσ H Q a=>by let[δ,M,R,hs,c,q,b]:=a;exact(b d M v H .refl (r H) c q)
theorem ai{i j a}:DE X (.Constant (.int i) j a) (Rf (.int i)):=dc DQ λ_=>by rw[Rep]
theorem iJ{i j a}:DE X (.Constant (.bool i) j a) (Rf (.bl i)):=dc G2 λ_=>by rw[Rep]
theorem oH{j a}:DE X (.Constant .none j a) (Rf .non):=dc Ei λ_=>by rw[Rep]
theorem pI{x:Str}{n:String}{a:Pos}(b:Gl X x)(c:X.mg x=MX)(d:Kk x=MW (.type n))(e:x≠"__name__":=by decide)(hd:(x==("__debug__":Str))=MZ:=by decide):DE X (.Name x a) (Rf (.ty n)):=dc (Bx (v:=.ty n) b c d rfl e hd) λ_=>by rw[Rep]
theorem gZ{x:Str}{a:k_}{b:Pos}(c:Gl X x)(d:X.mg x=MW (.ref a))(hd:(x==("__debug__":Str))=MZ:=by decide):DE X (.Name x b) (Rf (.ref a)):=dc (uG (v:=.ref a) c d rfl hd) λ_=>by rw[Rep]
end
abbrev OU:=D->D->MH->DK->Prop
def jK(K:J1)(r:OU):R2:=λv u H Q=>∃x y M R,Rep K H x v/\Rep K H y u/\Nc K H M/\r x y M R/\Fin K H R Q
def O4(X:Cx)(f:J3->J3->Sem J3)(r:OU):Prop:=OR X f (jK X.K r)
def u5(r:OU)(a tb:TD):TD:=λδ M Q=>a δ M λx b=>tb δ b λy c=>r x y c Q
theorem jF{X:Cx}{f:J3->J3->Sem J3}{r c:R2}(h:OR X f r)(k:∀x y H Q,c x y H Q->r x y H Q):OR X f c:=λNK s σ H x y v u Q I a b q=>h NK s σ H x y v u Q I a b (k _ _ _ _ q)
def kj{K:J1}{r:OU}{b tb:TD}{σ:L2.St}{H:Hp}{Q:VK}(h:lift K (u5 r b tb) σ H Q):SA (jK K r) (lift K b) (lift K tb) σ H Q:=by let[δ,M,R,hs,d,q,a]:=h;refine #[δ,M,_,hs,d,q,λx e v H1 g1 f g i=>?_];exact #[δ,e,_,hs.mono g1,g,i,λy j u n c k l m=>#[x,y,j,R,f.mono c,k,l,m,a.go (g1.trans c)]]
section
variable{X:Cx}{a b:l_}{ta tb:TD}{pos:Pos}
theorem aA{op:Operator}{r:OU}(c:O4 X (Mz op) r)(ha:DE X a ta)(d:DE X b tb):DE X (.BinOp a op b pos) (u5 r ta tb):=aQ (F8 c ha d) λ_ _ _ h=>kj h
theorem bL{op:CmpOp}{r:OU}(c:O4 X (K8 op) r)(ha:DE X a ta)(d:DE X b tb)(e:MI op b=MZ:=by exact yH _):DE X (.Compare a [op] [b] pos) (u5 r ta tb):=aQ (BX c ha d e) λ_ _ _ h=>kj h
inductive Qw(x:D)(M:MH)(Q:Bool->MH->Prop):Prop
 |mk (c:Bool)(h:x=.bl c)(q:Q c M):Qw x M Q
def tBD(t:TD):OL:=λδ M Q=>t δ M λx c=>Qw x c Q
def jA{K:J1}{t:TD}{t':TE}(ht:∀σ H Q,lift K t σ H Q->t' σ H Q){σ:L2.St}{H:Hp}{Q:Bool->Hp->Prop}(h:liftT K (tBD t) σ H Q):xv t' σ H Q:=by let[δ,M,R,hs,i,q,f]:=h;refine ht _ _ _ #[δ,M,_,hs,i,q,λx j v H1 g1 g k d=>?_];let[c,e,l]:=d;subst e;rw[Rep]at g;exact #[c,g,f c j H1 g1 k l]
theorem aO{op:CmpOp}{r:OU}(c:O4 X (K8 op) r)(ha:DE X a ta)(d:DE X b tb)(e:MI op b=MZ:=by exact yH _):DT X (.Compare a [op] [b] pos) (tBD (u5 r ta tb)):=ji (Bu c ha d e) λ_ _ _ h=>jA (λ_ _ _ h=>kj h) h
theorem bW{e:l_}{t:TD}(h:DE X e t)(he:∀whole,isTrue e X.env whole=(do let v <-whole;ML e.pos;holding [v] (truthy v)):=by intro _;rfl):DT X e (tBD t):=
 ji (Fx h he) λ_ _ _ h=>jA (t':=lift X.K t) (λ_ _ _ h=>h) h
end
section
variable{X:Cx}{a b c:l_}{ta tb:TD}{tA NL:OL}{rest:m3}{pos:Pos}
def C9(t u:OL):OL:=λδ M Q=>t δ M λc d=>if c=MY then u δ d Q else Q MZ d
def HG(t u:OL):OL:=λδ M Q=>t δ M λc d=>if c=MY then Q MY d else u δ d Q
def gW(t:OL):OL:=λδ M Q=>t δ M λc d=>Q (!c) d
theorem km(ha:DT X a tA):DW X (.BoolOp .And [a] pos) tA:=A3 ha
theorem sW(ha:DT X a tA):DW X (.BoolOp .Or [a] pos) tA:=EE ha
theorem oo(ha:DT X a tA)(h:DW X (.BoolOp .And (b::rest) pos) NL):DW X (.BoolOp .And (a::b::rest) pos) (C9 tA NL):=
 ym (FJ ha h) λσ H Q d=>by let[δ,M,R,hs,i,q,e]:=d;exact(#[δ,M,_,hs,i,q,λc j H1 g1 g f=>by
  cases c with
  |true=>rw[NB rfl]at f ⊢;exact #[δ,j,R,hs.mono g1,g,f,e.go g1]
  |false=>rw[NA JO]at f ⊢;exact e _ _ _ g1 g f])
theorem pX(ha:DT X a tA)(h:DW X (.BoolOp .Or (b::rest) pos) NL):DW X (.BoolOp .Or (a::b::rest) pos) (HG tA NL):=
 ym (G1 ha h) λσ H Q d=>by let[δ,M,R,hs,i,q,e]:=d;exact(#[δ,M,_,hs,i,q,λc j H1 g1 g f=>by
  cases c with
  |true=>rw[NB rfl]at f ⊢;exact e _ _ _ g1 g f
  |false=>rw[NA JO]at f ⊢;exact #[δ,j,R,hs.mono g1,g,f,e.go g1]])
theorem sF{e:l_}{t:OL}(h:DW X e t):DT X e t:=PW.pt h
theorem jk(ha:DT X a tA):DT X (.UnaryOp .Not a pos) (gW tA):=ji (DO ha) λσ H Q d=>by let[δ,M,R,hs,f,q,e]:=d;exact(#[δ,M,_,hs,f,q,λc i H1 g1 g h=>e _ _ _ g1 g h])
def wV(ta tb:TD):TD:=λδ M Q=>ta δ M λx d=>Qw x d λc d=>if c=MY then tb δ d Q else Q (.bl MZ) d
def Gp(ta tb:TD):TD:=λδ M Q=>ta δ M λx d=>Qw x d λc d=>if c=MY then Q (.bl MY) d else tb δ d Q
def Fv(ta:TD):TD:=λδ M Q=>ta δ M λx d=>Qw x d λc d=>Q (.bl (!c)) d
theorem fR{op}{t:TD}(h:DE X a t):DE X (.BoolOp op [a] pos) t:=DU h
theorem fo(ha:DE X a ta)(i:DE X (.BoolOp .And (b::rest) pos) tb):DE X (.BoolOp .And (a::b::rest) pos) (wV ta tb):=
 aQ (Es ha i) λσ H Q ⟨δ,M,R,hs,j,q,d⟩=>#[δ,M,_,hs,j,q,λx k v H1 g1 g h l=>by
  let[c,e,f]:=l
  subst e
  rw[Rep]at g
  exists c,g
  cases c with
  |true=>rw[NB rfl]at f ⊢;exact #[δ,k,R,hs.mono g1,h,f,d.go g1]
  |false=>rw[NA JO]at f ⊢;exact d _ _ _ _ g1 (by rw[Rep]) h f]
theorem GV(ha:DE X a ta)(i:DE X (.BoolOp .Or (b::rest) pos) tb):DE X (.BoolOp .Or (a::b::rest) pos) (Gp ta tb):=
 aQ (Gz ha i) λσ H Q ⟨δ,M,R,hs,j,q,d⟩=>#[δ,M,_,hs,j,q,λx k v H1 g1 g h l=>by
  let[c,e,f]:=l
  subst e
  rw[Rep]at g
  exists c,g
  cases c with
  |true=>rw[NB rfl]at f ⊢;exact d _ _ _ _ g1 (by rw[Rep]) h f
  |false=>rw[NA JO]at f ⊢;exact #[δ,k,R,hs.mono g1,h,f,d.go g1]]
theorem xa(ha:DE X a ta):DE X (.UnaryOp .Not a pos) (Fv ta):=
 aQ (Ff ha) λσ H Q d=>by let[δ,M,R,hs,h,q,f]:=d;exact(#[δ,M,_,hs,h,q,λx l v H1 g1 g i j=>by
  let[c,e,k]:=j
  subst e
  rw[Rep]at g
  exact #[c,g,f _ _ _ _ g1 (by rw[Rep]) i k]])
def IY(t:OL)(ta tb:TD):TD:=λδ M Q=>t δ M λc d=>if c=MY then ta δ d Q else tb δ d Q
theorem sE(i:DT X c tA)(ha:DE X a ta)(j:DE X b tb):DE X (.IfExp c a b pos) (IY tA ta tb):=
 aQ (yL i ha j) λσ H Q d=>by let[δ,M,R,hs,k,q,e]:=d;exact(#[δ,M,_,hs,k,q,λc g H1 g1 h f=>by
  cases c with
  |true=>rw[NB rfl]at f ⊢;exact #[δ,g,R,hs.mono g1,h,f,e.go g1]
  |false=>rw[NA JO]at f ⊢;exact #[δ,g,R,hs.mono g1,h,f,e.go g1]])
end
def Jd(r:D->MH->DK->Prop)(a:TD):TD:=λδ M Q=>a δ M λx b=>r x b Q
def Dq(K:J1)(r:D->MH->DK->Prop):V->Hp->VK->Prop:=λv H Q=>∃x M R,Rep K H x v/\Nc K H M/\r x M R/\Fin K H R Q
theorem tX{X:Cx}{a:l_}{e:TD}{c:Pos}{op:UnaryOp}{r:D->MH->DK->Prop}(f:Wh X (unaryOp op) (Dq X.K r))(ha:DE X a e):DE X (.UnaryOp op a c) (Jd r e):=aQ (GD f ha) λσ H Q b=>by let[δ,M,R,hs,g,q,d]:=b;exact(#[δ,M,_,hs,g,q,λx h v H1 g1 i j k=>#[x,h,R,i,j,k,d.go g1]])
def CW:Ny:=λ_ M Q=>Q [] M
def rE(a:TD)(b:Ny):Ny:=λδ M Q=>a δ M λx c=>b δ c λxs d=>Q (x::xs) d
section
variable{X:Cx}{e:l_}{es:m3}{te:TD}{t:Ny}{pos:Pos}
theorem ag:DA X [] CW:=yh oA λσ H Q a=>by let[δ,M,R,hs,c,q,b]:=a;exact(b _ _ _ _ .refl .nil c q)
theorem af(ha:DE X e te)(d:DA X es t)(hs:Jz (e::es) X.env=(MZ,eval e X.env)::Jz es X.env:=by rfl):DA X (e::es) (rE te t):=
 yh (iS ha d hs) λσ H Q a=>by let[δ,M,R,hs,f,q,b]:=a;exact(#[δ,M,_,hs,f,q,λx g v H1 g1 h i j=>
  #[δ,g,_,hs.mono g1,i,j,λxs n vs o c k l m=>b _ _ _ _ (g1.trans c) (.cons (h.mono c) k) l m]])
def HQ(t:Ny):TD:=λδ M Q=>t δ M λxs a=>xs.length<=JJ/\Q (.tup xs) a
def GY(t:Ny):TD:=λδ M Q=>t δ M λxs a=>xs.length<=JJ/\∀p,a p=MX->Q (.ref p) (av a p (.lst xs))
theorem aK{x1}(h:DA X es t):DE X (.Tuple es x1 pos) (HQ t):=aQ (EK h) λσ H Q a=>by let[δ,M,R,hs,g,q,c]:=a;exact(#[δ,M,_,hs,g,q,λxs k vs H1 g1 f i b=>by let[z,j]:=b;exact(#[by rw[<-f.length];exact z,λp d=>c _ _ _ _ (g1.trans (.new d)) (by rw[Rep];exact #[p,vs,8,Nl.of az,f.mono (.new d)]) (i.new d) j])])
theorem eE(h:DA X es t):DE X (.List es pos) (GY t):=aQ (Ek h) λσ H Q a=>by let[δ,M,R,hs,i,q,c]:=a;exact(#[δ,M,_,hs,i,q,λxs k vs H1 g1 f g b=>by let[z,j]:=b;exact(#[by rw[<-f.length];exact z,λp d=>c _ _ _ _ (g1.trans (.new d)) (by rw[Rep]) (g.mB d f) (j p (g.fresh d))])])
end
def IxD(X:Cx)(r:OU):Prop:=QM X (jK X.K r)
theorem DB{X:Cx}{r c:R2}(h:QM X r)(k:∀x y H Q,c x y H Q->r x y H Q):QM X c:=λe1 e2 NK s σ H x y v u Q I a b q=>h e1 e2 NK s σ H x y v u Q I a b (k _ _ _ _ q)
theorem DP{X:Cx}{a b:l_}{d tb:TD}{c:Pos}{r:OU}(e:IxD X r)(ha:DE X a d)(f:DE X b tb)(hs:nF b):DE X (.Subscript a b c) (u5 r d tb):=aQ (G4 e ha f hs) λ_ _ _ h=>kj h
inductive ZD(ds:ox)(i:Int)(M:MH)(Q:DK):Prop
 |mk (d:D)(h:atI ds i=MW d)(q:Q d M):ZD ds i M Q
inductive ZT(a:k_)(i:Int)(M:MH)(Q:DK):Prop
 |mk (ds:ox)(d:D)(h:M a=MW (.lst ds))(q:atI ds i=MW d/\Q d M):ZT a i M Q
def EM:OU:=λx y M Q=>match x,y with
 |.tup ds,.int i=>ZD ds i M Q
 |.rol ds,.int i=>ZD ds i M Q
 |.ref a,.int i=>ZT a i M Q
 |_,_=>False
def aC.atI{K:J1}{H:Hp}{a:ox}{xs:n7}{i:Int}{d:D}(h:aC K H a xs)(e:L2.atI a i=MW d):∃x,L2.atI xs i=MW x/\Rep K H d x:=by
 unfold L2.atI at e ⊢;rw[<-h.length];cases q:RG a.length i with
 |none=>rw[q]at e;cases e
 |some j=>
  rw[q]at e
  exact h.get e
def wJ{K:J1}{v u:V}{H:Hp}{Q:VK}(h:jK K EM v u H Q):ZI K v u H Q:=by
 let[x,y,M,R,c,g,a,q,b]:=h;unfold EM at q;split at q
 .obtain⟨d,e,q⟩:=q;obtain rfl:u=.int _:=g;rw[Rep]at c;let[p,xs,8,i,f]:=c;let[x,e1,e2]:=f.atI e;exact .inr (.inl #[p,xs,_,x,8,8,i,e1,b _ _ _ _ .refl e2 a q])
 .obtain⟨d,e,q⟩:=q;obtain rfl:u=.int _:=g;rw[Rep]at c;let[p,xs,8,i,f]:=c;let[x,e1,e2]:=f.atI e;exact .inl #[p,xs,_,x,8,8,i.sql,e1,b _ _ _ _ .refl e2 a q]
 .obtain⟨k,d,j,e,q⟩:=q;obtain rfl:u=.int _:=g;obtain rfl:v=.ref _:=c;let[xs,hx,f]:=a _ _ j;let[x,e1,e2]:=f.atI e;exact .inl #[_,xs,_,x,8,8,Ni.of hx,e1,b _ _ _ _ .refl e2 a q]
 .exact q.elim
theorem aD{X:Cx}{a b:l_}{d tb:TD}{c:Pos}(ha:DE X a d)(e:DE X b tb)(hs:nF b:=by exact λ_ _=>rfl):DE X (.Subscript a b c) (u5 EM d tb):=DP (DB E4 λ_ _ _ _ h=>wJ h) ha e hs
def Bd(n:Nat)(i:Int):Prop:=i.natAbs<2^n
instance(n:Nat)(i:Int):Decidable (Bd n i):=inferInstanceAs (Decidable (i.natAbs<2^n))
theorem Bd.mono{m n:Nat}{i:Int}(h:Bd m i)(l:m<=n):Bd n i:=JF h (MD ⋯ l)
def Bd.bits{n:Nat}{i:Int}(h:Bd n i):Builtin.Int.intBits i<=n:=by
 unfold Builtin.Int.intBits;split
 .exact Kh _
 .rename_i hz;let h0:i.natAbs≠0:=λe=>hz ‹Int.natAbs_eq_zero.mp e›;exact(Nat.log2_lt h0).mpr h
def Bd.log2{n:Nat}{i:Int}(h:Bd n i)(a:0<n):i.natAbs.log2<n:=by
 by_cases h0:i.natAbs=0
 .rw[h0];simpa using a
 .exact(Nat.log2_lt h0).mpr h
def Bd.mul{m n:Nat}{i j:Int}(a:Bd m i)(b:Bd n j):Bd (m+n) (i*j):=by unfold Bd at *;rw[Int.natAbs_mul,Nat.pow_add];exact Nat.mul_lt_mul'' a b
def Bd.add{n:Nat}{i j:Int}(a:Bd n i)(b:Bd n j):Bd (n+1) (i+j):=by unfold Bd at *;rw[Nat.pow_succ];have:=Int.natAbs_add_le i j;omega
def Bd.sub{n:Nat}{i j:Int}(a:Bd n i)(b:Bd n j):Bd (n+1) (i-j):=by unfold Bd at *;rw[Nat.pow_succ];have:=Int.natAbs_sub_le i j;omega
def Bd.neg{n:Nat}{i:Int}(a:Bd n i):Bd n (-i):=by unfold Bd at *;rw[Int.natAbs_neg];exact a
theorem Bd.of_le{n:Nat}{i j:Int}(a:Bd n i)(b:j.natAbs<=i.natAbs):Bd n j:=Nat.lt_of_le_of_lt b a
theorem dN{n:Nat}{i:Int}(h:i.natAbs<2^64)(l:64<=n:=by decide):Bd n i:=Bd.mono (m:=64) h l
theorem iG{i j:Int}(a:Bd 1000000 i)(b:Bd 1000000 j):IntMulOk i j:=.of_bits (K0 a.bits ⋯) (K0 b.bits ⋯)
theorem bC{i j:Int}(a:Bd 64 i):IntMulOk i j:=.of_left a.bits
theorem AQ{i j:Int}(a:Bd 64 j):IntMulOk i j:=.of_right a.bits
def QJ(C:Int->Int->Prop)(g:Int->Int->D):OU:=λx y M Q=>match x,y with
 |.int i,.int j=>C i j/\Q (g i j) M
 |_,_=>False
section
variable{X:Cx}
theorem du{f:J3->J3->Sem J3}{C:Int->Int->Prop}{g:Int->Int->V}{g':Int->Int->D}(h:OR X f (rI C g))(e:∀i j H,Rep X.K H (g' i j) (g i j)):O4 X f (QJ C g'):=
 jF h λv u H Q c=>by
  let[x,y,M,R,d,k,a,q,b]:=c
  unfold QJ at q
  split at q
  .obtain rfl:v=.int _:=d
   obtain rfl:u=.int _:=k
   exact #[_,7,8,q.1,b _ _ _ _ .refl (e _ _ _) a q.2]
  .exact q.elim
theorem SQ{f:J3->J3->Sem J3}{g:Int->Int->V}(h:OR X f (RF g)):OR X f (rI (λ_ _=>True) g):=jF h λx y H Q c=>by let[i,j,a,b,_,q]:=c;exact(#[i,j,a,b,q])
def Hk:OU:=QJ (λ_ _=>True) λi j=>.int (i-j)
def Hr:OU:=QJ IntMulOk λi j=>.int (i*j)
def CFd(i j:Int):Prop:=j≠0/\Bd 8000 j
def HX:OU:=QJ CFd λi j=>.int (i.fdiv j)
def GK:OU:=QJ (λ_ j=>j≠0) λi j=>.int (i.fmod j)
def HR:OU:=QJ F2 λi j=>.int (i^j.toNat)
def Jg:OU:=QJ (λ_ _=>True) λi j=>.bl (decide (i<j))
def IC:OU:=QJ (λ_ _=>True) λi j=>.bl (decide (i<=j))
def Iu:OU:=QJ (λ_ _=>True) λi j=>.bl (decide (j<i))
def Je:OU:=QJ (λ_ _=>True) λi j=>.bl (decide (j<=i))
theorem br:O4 X (Mz .Sub) Hk:=du (SQ E5) λ_ _ _=>by rw[Rep]
theorem aV:O4 X (Mz .Mult) Hr:=du (Wz λ_ _ _ _ _ _ _ a q=>mul_int q a) λ_ _ _=>by rw[Rep]
theorem lW:O4 X (Mz .FloorDiv) HX:=du (Wz λ_ _ _ _ _ _ _ a q=>floordiv_int a.1 q (.inl (PyProof.noPylong_of_log2 (Nat.lt_trans (a.2.log2 ⋯) ⋯)))) λ_ _ _=>by rw[Rep]
theorem gB:O4 X (Mz .Mod) GK:=du Bg λ_ _ _=>by rw[Rep]
theorem fV:O4 X (Mz .Pow) HR:=du D6 λ_ _ _=>by rw[Rep]
theorem He:O4 X (K8 .Lt) Jg:=du (SQ GP) λ_ _ _=>by rw[Rep]
theorem Hh:O4 X (K8 .LtE) IC:=du (SQ GZ) λ_ _ _=>by rw[Rep]
theorem Hj:O4 X (K8 .Gt) Iu:=du (SQ F0) λ_ _ _=>by rw[Rep]
theorem Ds:O4 X (K8 .GtE) Je:=du (SQ GB) λ_ _ _=>by rw[Rep]
def CQ:D->MH->DK->Prop:=λx M Q=>match x with
 |.int i=>Q (.int (-i)) M
 |_=>False
theorem kB:Wh X (unaryOp .USub) (Dq X.K CQ):=λNK s σ H x v Q I r b=>by let[d,M,R,e,a,q,c]:=b;exact(Ft NK s σ H x v Q I r (by
 unfold CQ at q
 split at q
 .obtain rfl:x=.int _:=e;exact #[7,c _ _ _ _ .refl (by rw[Rep]) a q]
 .exact q.elim))
def C0:OU:=λx y M Q=>match x,y with
 |.int i,.int j=>Q (.int (i+j)) M
 |.tup a,.tup b=>a≠[]/\a.length+b.length<=JJ/\Q (.tup (a++b)) M
 |.ref a,.ref b=>∃xs c,M a=MW (.lst xs)/\M b=MW (.lst c)/\xs.length+c.length<=JJ/\∀p,M p=MX->Q (.ref p) (av M p (.lst (xs++c)))
 |_,_=>False
theorem aP:O4 X (Mz .Add) C0:=jF (D2.or (A1.or DH)) λv u H Q k=>by
 let[x,y,M,R,g,h,a,q,b]:=k;unfold C0 at q;split at q
 .obtain rfl:v=.int _:=g;obtain rfl:u=.int _:=h;exact .inl #[_,7,8,b _ _ _ _ .refl (by rw[Rep]) a q]
 .rename_i da db;let[l,hl,q]:=q;rw[Rep]at g;let[p,xs,8,hx,d]:=g;obtain⟨m,i,rfl,j,f⟩:∃a xs,u=V.ref a/\Nl X.K H a xs/\aC X.K H db xs:=by rw[Rep]at h;exact h
  let l1:=d.length;let l2:=f.length;refine .inr (.inl #[p,m,xs,i,8,8,hx,j,?_,(),λe=>?_,λ_ z c=>?_])
  .intro e;subst e;exact l (KR.mp ‹l1›)
  .subst e;obtain rfl:db=[]:=KR.mp ‹l2›;exact b _ _ _ _ .refl (by rw[Rep,KP];exact #[p,xs,8,hx,d]) a q
  .exact b _ _ _ _ (.new c) (by rw[Rep];exact #[z,7,Nl.of az,(d.append f).mono (.new c)]) (a.new c) q
 .obtain⟨n,es,e1,e2,hl,q⟩:=q;obtain rfl:v=.ref _:=g;obtain rfl:u=.ref _:=h;let[xs,hx,d]:=a _ _ e1;let[i,j,f]:=a _ _ e2;let l1:=d.length;let l2:=f.length;exact .inr (.inr #[_,_,xs,i,8,8,hx,j,(),λz c=>b _ _ _ _ (.new c) (by rw[Rep]) (a.mB c (d.append f)) (q z (a.fresh c))])
 .exact q.elim
end
mutual
inductive Pd(M:MH):D->MN->Prop
 |non:Pd M .non .none
 |bl (b:Bool):Pd M (.bl b) (.bool b)
 |int (i:Int):Pd M (.int i) (.int i)
 |str (x:Str):Pd M (.str x) (.str x)
 |tup {ds:ox} {ps:List MN}:QD M ds ps->Pd M (.tup ds) (.tuple ps)
 |rol {ds:ox} {ps:List MN}:QD M ds ps->Pd M (.rol ds) (.list ps)
 |lst {a:k_} {ds:ox} {ps:List MN}:M a=MW (.lst ds)->QD M ds ps->Pd M (.ref a) (.list ps)
inductive QD(M:MH):ox->List MN->Prop
 |nil:QD M [] []
 |cons {d:D} {ds:ox} {p:MN} {ps:List MN}:Pd M d p->QD M ds ps->QD M (d::ds) (p::ps)
end
mutual
def Qt:D->Option MN
 |.non=>MW .none
 |.bl b=>MW (.bool b)
 |.int i=>MW (.int i)
 |.str x=>MW (.str x)
 |.tup a=>match rL a with
  |some ps=>MW (.tuple ps)
  |none=>MX
 |_=>MX
def rL:ox->Option (List MN)
 |[]=>MW []
 |d::ds=>match Qt d,rL ds with
  |some p,MW ps=>MW (p::ps)
  |_,_=>MX
end
mutual
theorem Pd.of{M:MH}:∀{d:D}{p:MN},Qt d=MW p->Pd M d p
 |.non,p,h=>by rw[Qt]at h;cases h;exact .non
 |.bl b,p,h=>by rw[Qt]at h;cases h;exact .bl b
 |.int i,p,h=>by rw[Qt]at h;cases h;exact .int i
 |.str x,p,h=>by rw[Qt]at h;cases h;exact .str x
 |.ty _,p,h=>by simp[Qt]at h
 |.ref _,p,h=>by simp[Qt]at h
 |.rol _,p,h=>by simp[Qt]at h
 |.tup ds,p,h=>by
  rw[Qt]at h
  cases e:rL ds with
  |none=>rw[e]at h;cases h
  |some ps=>rw[e]at h;cases h;exact .tup (QD.of e)
theorem QD.of{M:MH}:∀{a:ox}{ps:List MN},rL a=MW ps->QD M a ps
 |[],ps,h=>by rw[rL]at h;cases h;exact .nil
 |d::a,ps,h=>by
  rw[rL]at h
  cases e1:Qt d with
  |none=>rw[e1]at h;cases h
  |some p=>
   cases e2:rL a with
   |none=>rw[e1,e2]at h;cases h
   |some b=>rw[e1,e2]at h;cases h;exact .cons (Pd.of e1) (QD.of e2)
end
section
variable{X:Cx}{NK:l'}{σ:L2.St}{H:Hp}{s:J4}{M:MH}
mutual
theorem df(I:Inv X NK σ H s)(l:Nc X.K H M):∀{d:D}{p:MN}{v:V}{u:J3},Pd M d p->Rep X.K H d v->L2.RelV v u->∃c,Reads s.heap u p c
 |_,_,_,_,.non,r,e=>by rw[Rep]at r;subst r;cases e;exact #[_,.none]
 |_,_,_,_,.bl b,r,e=>by rw[Rep]at r;subst r;cases e;exact #[_,.bool b]
 |_,_,_,_,.int i,r,e=>by rw[Rep]at r;subst r;let[t,8]:=e;exact #[_,.int i t]
 |_,_,_,_,.str x,r,e=>by rw[Rep]at r;subst r;let[t,8]:=e;exact #[_,.str x t]
 |_,_,_,_,.tup hp,r,e=>by
  rw[Rep]at r
  let[a,xs,8,m,f]:=r
  cases e
  obtain⟨g,h,⟨o,h1,h2,n,j⟩,_⟩:=I.tuple m
  let[c,k]:=gL I l hp f h
  exact #[c,reads_tuple_at h1 h2 j ‹k›]
 |_,_,_,_,.rol hp,r,e=>by
  rw[Rep]at r
  let[a,xs,8,m,f]:=r
  cases e
  obtain⟨g,h,⟨o,n,h1,h2,_,j⟩,_⟩:=I.list m.sql
  let[c,k]:=gL I l hp f h
  exact #[_,reads_list_at h1 h2 j ‹k›]
 |_,_,_,_,.lst ha hp,r,e=>by
  rw[Rep]at r
  subst r
  cases e
  let[xs,hx,f]:=l _ _ ha
  obtain⟨g,h,⟨o,n,h1,h2,_,j⟩,_⟩:=I.list (Ni.of hx)
  let[c,k]:=gL I l hp f h
  exact #[_,reads_list_at h1 h2 j ‹k›]
theorem gL(I:Inv X NK σ H s)(a:Nc X.K H M):∀{b:ox}{ps:List MN}{vs:n7}{us:List J3},QD M b ps->aC X.K H b vs->Vals vs us->∃c,ReadsAll s.heap us ps c
 |_,_,_,_,.nil,r,e=>by rw[aC]at r;subst r;cases e;exact #[_,.nil]
 |_,_,_,_,.cons h1 h2,r,e=>by
  rw[aC]at r
  let[x,r,8,d,f]:=r
  cases e with
  |cons e1 e2=>
   let[c,g]:=df I a h1 d e1
   let[bs,h]:=gL I a h2 f e2
   exact #[_,.cons g h]
end
end
inductive Qs(g:Bool->Bool)(x y:D)(M:MH)(Q:DK):Prop
 |mk (p q:MN)(h1:Pd M x p)(h2:Pd M y q)(h3:SeqAt.shaped p=MY)(h4:SeqAt.shaped q=MY)(hq:Q (.bl (g (KA p q))) M):Qs g x y M Q
def Hz:OU:=λx y M Q=>match x,y with
 |.int i,.int j=>Q (.bl (decide (i=j))) M
 |.bl i,.bl j=>Q (.bl (decide (i=j))) M
 |x,y=>Qs (λb=>b) x y M Q
def Gj:OU:=λx y M Q=>match x,y with
 |.int i,.int j=>Q (.bl (!decide (i=j))) M
 |.bl i,.bl j=>Q (.bl (!decide (i=j))) M
 |x,y=>Qs (λb=>!b) x y M Q
section
variable{X:Cx}
def Du(d:X.A.units+64<Ky):O4 X (K8 .Eq) (Qs λb=>b):=by intro NK s σ H v u t w Q I e f h;obtain⟨x,y,M,R,g,i,a,⟨p,q,j,k,l,m,n⟩,c⟩:=h;let[z,o]:=df I a j g e;let[bs,r]:=df I a k i f;exact eq_dataH o r l m d #[.bl _,H,I,8,c _ _ _ _ .refl (by rw[Rep]) a n]
def Ey(d:X.A.units+64<Ky):O4 X (K8 .NotEq) (Qs λb=>!b):=by intro NK s σ H v u t w Q I e f h;obtain⟨x,y,M,R,g,i,a,⟨p,q,j,k,l,m,n⟩,c⟩:=h;let[z,o]:=df I a j g e;let[bs,r]:=df I a k i f;exact ne_dataH o r l m d #[.bl _,H,I,8,c _ _ _ _ .refl (by rw[Rep]) a n]
def oE{i j:Int}:(i==j)=decide (i=j):=by by_cases h:i=j<;>simp[h]
def qb{i j:Bool}:(i==j)=decide (i=j):=by cases i<;>cases j<;>rfl
theorem dn(c:X.A.units+64<Ky):O4 X (K8 .Eq) Hz:=jF (Du c) λv u H Q d=>by
 let[x,y,M,R,e,f,a,q,b]:=d;refine #[x,y,M,R,e,f,a,?_,b];unfold Hz at q;split at q
 .exact #[_,_,.int _,.int _,8,8,by simpa[KA,oE]using q]
 .exact #[_,_,.bl _,.bl _,8,8,by simpa[KA,qb]using q]
 .exact q
theorem zX(c:X.A.units+64<Ky):O4 X (K8 .NotEq) Gj:=jF (Ey c) λv u H Q d=>by
 let[x,y,M,R,e,f,a,q,b]:=d;refine #[x,y,M,R,e,f,a,?_,b];unfold Gj at q;split at q
 .exact #[_,_,.int _,.int _,8,8,by simpa[KA,oE]using q]
 .exact #[_,_,.bl _,.bl _,8,8,by simpa[KA,qb]using q]
 .exact q
def ZK(x y:D):Option Bool:=match y with
 |.non=>MW (match x with
  |.non=>MY
  |_=>MZ)
 |.bl b=>MW (match x with
  |.bl a=>decide (a=b)
  |_=>MZ)
 |_=>MX
inductive Rh(g:Bool->Bool)(x y:D)(M:MH)(Q:DK):Prop
 |mk (b:Bool)(h:ZK x y=MW b)(q:Q (.bl (g b)) M):Rh g x y M Q
def Iv:OU:=Rh λb=>b
def CG:OU:=Rh λb=>!b
def mI{K:J1}{H:Hp}{x y:D}{b:Bool}{v u:V}{k l:J3}(h:ZK x y=MW b)(g:Rep K H x v)(m:Rep K H y u)(i:L2.RelV v k)(j:L2.RelV u l):plainIs k l=MY/\(k==l)=b:=by
 let f:∀{c:J3}{d:Bool},l=c->MW d=MW b->plainIs k c=MY->(k==c)=d->plainIs k l=MY/\(k==l)=b:=λe h p q=>by cases h;subst e;exact #[p,q]
 cases y with
 |non=>
  rw[Rep]at m;subst m
  cases x<;>rw[Rep]at g
  case non=>subst g;cases (show k=Lg from i);exact f j h rfl rfl
  case bl=>subst g;cases (show k=Value.bool _ from i);exact f j h rfl rfl
  case int=>subst g;let[t,8]:=i;exact f j h rfl rfl
  case str=>subst g;let[t,8]:=i;exact f j h rfl rfl
  case ty=>subst g;cases i;exact f j h rfl rfl
  case ref=>subst g;cases i;exact f j h rfl rfl
  all_goals (let[a,xs,8,_]:=g;cases i;exact f j h rfl rfl)
 |bl c=>
  rw[Rep]at m;subst m
  cases x<;>rw[Rep]at g
  case non=>subst g;cases (show k=Lg from i);exact f j h rfl rfl
  case bl c'=>subst g;cases (show k=Value.bool _ from i);exact f j h rfl (by cases c<;>cases c'<;>rfl)
  case int=>subst g;let[t,8]:=i;exact f j h rfl rfl
  case str=>subst g;let[t,8]:=i;exact f j h rfl rfl
  case ty=>subst g;cases i;exact f j h rfl rfl
  case ref=>subst g;cases i;exact f j h rfl rfl
  all_goals (let[a,xs,8,_]:=g;cases i;exact f j h rfl rfl)
 |_=>cases h
def GL:O4 X (K8 .Is) Iv:=by intro NK s σ H v u j k Q I d f h;obtain⟨x,y,M,R,g,i,a,⟨b,e,q⟩,c⟩:=h;let[e1,e2]:=mI e g i d f;exact wpAny_is_plain e1 #[.bl b,H,I,by rw[e2];rfl,c _ _ _ _ .refl (by rw[Rep]) a q]
def zg:O4 X (K8 .IsNot) CG:=by intro NK s σ H v u j k Q I d f h;obtain⟨x,y,M,R,g,i,a,⟨b,e,q⟩,c⟩:=h;let[e1,e2]:=mI e g i d f;exact wpAny_isNot_plain e1 #[.bl (!b),H,I,by rw[e2];rfl,c _ _ _ _ .refl (by rw[Rep]) a q]
end
abbrev RC:=ox->MH->DK->Prop
def Dk(K:J1)(r:RC):n7->Hp->VK->Prop:=λvs H Q=>∃a M R,aC K H a vs/\Nc K H M/\r a M R/\Fin K H R Q
def cK(X:Cx)(f:J3)(r:RC):Prop:=bo X f (Dk X.K r)
theorem bN{X:Cx}{f:J3}{r b:n7->Hp->VK->Prop}(h:bo X f r)(k:∀xs H Q,b xs H Q->r xs H Q):bo X f b:=λNK s σ H xs us Q I a q=>h NK s σ H xs us Q I a (k _ _ _ q)
def Ep(r:RC)(t:Ny):TD:=λδ M Q=>t δ M λa b=>r a b Q
def uy{K:J1}{r:RC}{t:Ny}{σ:L2.St}{H:Hp}{Q:VK}(h:lift K (Ep r t) σ H Q):XI (Dk K r) (yG K t) σ H Q:=by let[δ,M,R,hs,b,q,a]:=h;exact #[δ,M,_,hs,b,q,λc d vs H1 g1 e f g=>#[c,d,R,e,f,g,a.go g1]]
section
variable{X:Cx}{x:Str}{p pos:Pos}{e:l_}{es:m3}{t:Ny}{id T:String}{r:RC}
theorem aF(c:cK X (.builtin id) r)(d:Gl X x)(f:X.mg x=MX)(g:Kk x=MW (.builtin id))(ha:DA X (e::es) t)(i:x≠"__name__":=by decide)(a:(x==("__debug__":Str))=MZ:=by decide) (he:Jz (e::es) X.env=(MZ,eval e X.env)::Jz es X.env:=by rfl) (b:(Lh pos (Jz es X.env)).any (·.1)=MZ:=by rfl):DE X (.Call (.Name x p) (e::es) [] pos) (Ep r t):=aQ (qr c d f g ha i a he b) λ_ _ _ h=>uy h
theorem eK(c:cK X (.type T) r)(d:Gl X x)(f:X.mg x=MX)(g:Kk x=MW (.type T))(ha:DA X (e::es) t)(i:x≠"__name__":=by decide)(a:(x==("__debug__":Str))=MZ:=by decide) (he:Jz (e::es) X.env=(MZ,eval e X.env)::Jz es X.env:=by rfl) (b:(Lh pos (Jz es X.env)).any (·.1)=MZ:=by rfl):DE X (.Call (.Name x p) (e::es) [] pos) (Ep r t):=aQ (nv c d f g ha i a he b) λ_ _ _ h=>uy h
def bR{K:J1}{H:Hp}{d:D}{vs:n7}(h:aC K H [d] vs):∃v,vs=[v]/\Rep K H d v:=by rw[aC]at h;let[x,r,8,h1,h2]:=h;rw[aC]at h2;subst h2;exact #[x,8,h1]
def dQ{K:J1}{H:Hp}{d e:D}{vs:n7}(h:aC K H [d,e] vs):∃v u,vs=[v,u]/\Rep K H d v/\Rep K H e u:=by rw[aC]at h;let[x,r,8,h1,h2]:=h;let[u,8,a]:=bR h2;exact #[x,u,8,h1,a]
def Ir:RC:=λa M Q=>match a with
 |[.int i]=>Q (.int (i.natAbs:Int)) M
 |_=>False
theorem rG:cK X (.builtin "abs") Ir:=bN za λvs H Q f=>by
 let[b,M,R,g,a,q,c]:=f;rcases b with _|⟨d,b⟩
 .exact JK q
 cases d<;>rcases b with _|⟨e,b⟩<;>try exact JK q
 .rename_i i;let[v,8,r]:=bR g;rw[Rep]at r;subst r;let e:(if i<0 then -i else i)=(i.natAbs:Int):=by split<;>omega
  exact #[7,c _ _ _ _ .refl (by rw[Rep,e]) a q]
def Ji:RC:=λa M Q=>match a with
 |[.int i,.int j]=>Q (.int (max i j)) M
 |_=>False
def Ip:RC:=λa M Q=>match a with
 |[.int i,.int j]=>Q (.int (min i j)) M
 |_=>False
theorem Fc(h:X.calm=MY):cK X (.builtin "max") Ji:=bN (vI h) λvs H Q k=>by
 let[b,M,R,l,a,q,c]:=k;rcases b with _|⟨d,b⟩
 .exact JK q
 cases d<;>rcases b with _|⟨e,b⟩<;>try exact JK q
 all_goals (cases e<;>rcases b with _|⟨f,b⟩<;>try exact JK q)
 .rename_i i j;let[v,u,8,r,g]:=dQ l;rw[Rep]at r;subst r;let m:u=.int j:=by rw[Rep]at g;exact g
  subst m;let e:(if j>i then j else i)=max i j:=by split<;>omega
  exact #[_,7,c _ _ _ _ .refl (by rw[Rep,e]) a q]
theorem El(h:X.calm=MY):cK X (.builtin "min") Ip:=bN (vf h) λvs H Q k=>by
 let[b,M,R,l,a,q,c]:=k;rcases b with _|⟨d,b⟩
 .exact JK q
 cases d<;>rcases b with _|⟨e,b⟩<;>try exact JK q
 all_goals (cases e<;>rcases b with _|⟨f,b⟩<;>try exact JK q)
 .rename_i i j;let[v,u,8,r,g]:=dQ l;rw[Rep]at r;subst r;let m:u=.int j:=by rw[Rep]at g;exact g
  subst m;let e:(if j<i then j else i)=min i j:=by split<;>omega
  exact #[_,7,c _ _ _ _ .refl (by rw[Rep,e]) a q]
def Jf:RC:=λa M Q=>match a with
 |[.tup xs]=>Q (.int (xs.length:Int)) M
 |[.rol xs]=>Q (.int (xs.length:Int)) M
 |[.ref l]=>∃xs,M l=MW (.lst xs)/\Q (.int (xs.length:Int)) M
 |_=>False
theorem bD:cK X (.builtin "len") Jf:=bN oQ λvs H Q g=>by
 let[c,M,R,f,a,q,b]:=g;rcases c with _|⟨d,c⟩
 .exact JK q
 cases d<;>rcases c with _|⟨e,c⟩<;>try exact JK q
 .obtain⟨v,rfl,r⟩:=bR f;rw[Rep]at r;subst r;let[xs,e,q]:=q;let[h,h1,h2]:=a _ _ e;exact #[_,h,8,.inl (Ni.of h1),b _ _ _ _ .refl (by rw[Rep,h2.length]) a q]
 .obtain⟨v,rfl,r⟩:=bR f;rw[Rep]at r;let[l,xs,8,h1,h2]:=r;exact #[l,xs,8,.inl h1.sql,b _ _ _ _ .refl (by rw[Rep,h2.length]) a q]
 .obtain⟨v,rfl,r⟩:=bR f;rw[Rep]at r;let[l,xs,8,h1,h2]:=r;exact #[l,xs,8,.inr h1,b _ _ _ _ .refl (by rw[Rep,h2.length]) a q]
def FC:RC:=λa M Q=>match a with
 |[.tup xs]=>Q (.tup xs) M
 |[.rol xs]=>Q (.tup xs) M
 |[.ref l]=>∃xs,M l=MW (.lst xs)/\Q (.tup xs) M
 |_=>False
theorem qt:cK X (.type "tuple") FC:=bN mi λvs H Q i=>by
 let[f,M,R,g,a,q,b]:=i;rcases f with _|⟨d,f⟩
 .exact JK q
 cases d<;>rcases f with _|⟨e,f⟩<;>try exact JK q
 .obtain⟨v,rfl,r⟩:=bR g;rw[Rep]at r;subst r;let[xs,e,q]:=q;let[h,h1,h2]:=a _ _ e;exact #[_,h,8,.inl #[Ni.of h1,λp c=>b _ _ _ _ (.new c) (by rw[Rep];exact #[p,h,8,Nl.of az,h2.mono (.new c)]) (a.new c) q]]
 .obtain⟨v,rfl,r⟩:=bR g;rw[Rep]at r;let[l,xs,8,h1,h2]:=r;exact #[l,xs,8,.inl #[h1.sql,λp c=>b _ _ _ _ (.new c) (by rw[Rep];exact #[p,xs,8,Nl.of az,h2.mono (.new c)]) (a.new c) q]]
 .obtain⟨v,rfl,r⟩:=bR g;rw[Rep]at r;let[l,xs,8,h1,h2]:=r;exact #[l,xs,8,.inr #[h1,b _ _ _ _ .refl (by rw[Rep];exact #[l,xs,8,h1,h2]) a q]]
def FY:RC:=λa M Q=>match a with
 |[.int i]=>Q (.int i) M
 |[.bl k]=>Q (.int (if k=MY then 1 else 0)) M
 |_=>False
theorem yD:cK X (.type "int") FY:=bN vY λvs H Q g=>by
 let[c,M,R,f,a,q,b]:=g;rcases c with _|⟨d,c⟩
 .exact JK q
 cases d<;>rcases c with _|⟨e,c⟩<;>try exact JK q
 .obtain⟨v,rfl,r⟩:=bR f;rw[Rep]at r;subst r;exact .inr #[7,b _ _ _ _ .refl (by rw[Rep]) a q]
 .obtain⟨v,rfl,r⟩:=bR f;rw[Rep]at r;subst r;exact .inl #[7,b _ _ _ _ .refl (by rw[Rep]) a q]
def Z1:D->Option String
 |.non=>MW "NoneType"
 |.bl _=>MW "bool"
 |.int _=>MW "int"
 |.str _=>MW "str"
 |.tup _=>MW "tuple"
 |.rol _=>MW "list"
 |_=>MX
def nU(K:J1):RC:=λa M Q=>match a with
 |[x,.ty n]=>∃t b,Z1 x=MW t/\JY K (.type t) (.type n)=MW b/\Q (.bl b) M
 |_=>False
def vM:cK X (.builtin "isinstance") (nU X.K):=by
 intro NK s σ H vs us Q I w A;let[E,M,R,B,a,q,g]:=A;unfold nU at q;split at q
 .rename_i x n;let[v,u,8,r,m]:=dQ B;rw[Rep]at m;subst m;let[f,C,8,c,D]:=vals2 w;cases (show C=MS n from D);let[t,b,d,e,q]:=q;let h:∀i,EP X NK σ Q (.bool b) { s with toks:=i }:=λi=>#[.bl b,H,I.tok i,8,g _ _ _ _ .refl (by rw[Rep]) a q];cases x with
  |non=>cases d;rw[Rep]at r;subst r;cases (show f=Lg from c);exact Mx PySem.W.kitx_none I.kIn Lm e (λz=>nomatch z) h
  |bl y=>cases d;rw[Rep]at r;subst r;cases (show f=Value.bool y from c);exact Mx PySem.W.kitx_bool I.kIn Lm e (λz=>nomatch z) h
  |int y=>cases d;rw[Rep]at r;subst r;let[t,q]:=(show ∃t,f=KZ y t from c);cases q;exact Mx PySem.W.kitx_int I.kIn Lm e (λz=>nomatch z) h
  |str y=>cases d;rw[Rep]at r;subst r;let[t,q]:=(show ∃t,f=Value.str y t from c);cases q;exact Mx PySem.W.kitx_str I.kIn Lm e (λz=>nomatch z) h
  |tup y=>
   cases d;rw[Rep]at r
   let[p,xs,8,h1,_]:=r
   cases (show f=JV p from c)
   obtain⟨j,_,⟨o,k,l,_⟩,_⟩:=I.tuple h1
   exact Mx PySem.W.kitx_tuple I.kIn #[o,k,l] e (λz=>nomatch z) h
  |rol y=>
   cases d;rw[Rep]at r
   let[p,xs,8,h1,_]:=r
   cases (show f=JV p from c)
   obtain⟨j,_,⟨o,n,k,l,_⟩,_⟩:=I.list h1.sql
   exact Mx PySem.W.kitx_list I.kIn #[o,k,l] e (λz=>nomatch z) h
  |_=>cases d
 .exact q.elim
end
abbrev Pq:=D->DS->MH->(DS->MH->Prop)->Prop
abbrev om:=ox->DS->MH->(DS->MH->Prop)->Prop
section
variable(K:J1)
def xx(H:Hp)(R:DS->MH->Prop)(Q:L2.St->Hp->Prop):Prop:=∀a d b c,Nb K H c->Slots K c a b->Nc K c d->R a d->Q b c
def G0(t:Pq):TG:=λv σ H Q=>∃d δ M R,Rep K H d v/\Slots K H δ σ/\Nc K H M/\t d δ M R/\xx K H R Q
def EY(t:om):RB:=λvs σ H Q=>∃a δ M R,aC K H a vs/\Slots K H δ σ/\Nc K H M/\t a δ M R/\xx K H R Q
end
theorem xx.go{K:J1}{H H1:Hp}{R:DS->MH->Prop}{Q:L2.St->Hp->Prop}(g:Nb K H H1)(h:xx K H R Q):xx K H1 R Q:=λd M v a b=>h d M v a (g.trans b)
namespace Zq
@[scoped irreducible]def _root_.SD.DG(X:Cx)(e:l_)(t:Pq):Prop:=PG X e (G0 X.K t)
@[scoped irreducible]def _root_.SD.DGs(X:Cx)(es:m3)(t:om):Prop:=Rc X es (EY X.K t)
end Zq
theorem oX{X:Cx}{e:l_}{t t':TG}(h:PG X e t)(k:∀v σ H Q,t' v σ H Q->t v σ H Q):PG X e t':=λNK s σ H v u Q I r q=>h NK s σ H v u Q I r (k _ _ _ _ q)
theorem uP{X:Cx}{e:m3}{t t':RB}(h:Rc X e t)(k:∀v σ H Q,t' v σ H Q->t v σ H Q):Rc X e t':=λNK s σ H v u Q I r q=>h NK s σ H v u Q I r (k _ _ _ _ q)
section
variable{X:Cx}{pos:Pos}
def aR(i:Nat):Pq:=λd δ M Q=>Q (δ.set i (MW d)) M
theorem aG(i:Nat){x:Str}(e:X.N.Nodup)(hi:X.N[i]?=MW x:=by rfl)(hx:Loc X.env.scope x:=by first|exact Or.inl rfl|exact Or.inr rfl)(f:X.fn x=MY\/X.env.scope.names.lookup x=MW .local:=by first|exact .inl rfl|exact .inr rfl|assumption):DG X (.Name x pos) (aR i):=oX (tU e hi hx f) λv σ H Q b=>by let[d,δ,M,R,r,hs,a,q,c]:=b;exact(c _ _ _ _ .refl (hs.set r i) a q)
def Gf:om:=λa δ M Q=>a=[]/\Q δ M
inductive Qu(t:Pq)(u:om)(ds:ox)(δ:DS)(M:MH)(Q:DS->MH->Prop):Prop
 |mk (d:D)(r:ox)(h:ds=d::r)(q:t d δ M λδ' M'=>u r δ' M' Q):Qu t u ds δ M Q
theorem bS:DGs X [] Gf:=uP tG λvs σ H Q d=>by obtain⟨f,δ,M,R,c,hs,a,⟨e,q⟩,b⟩:=d;subst e;rw[aC]at c;exact #[c,b _ _ _ _ .refl hs a q]
theorem aH{e:l_}{es:m3}{t:Pq}{u:om}(h1:DG X e t)(h2:DGs X es u) (hs:(Lv (e::es) X.env).map (·.2)=assign e X.env::(Lv es X.env).map (·.2):=by rfl):DGs X (e::es) (Qu t u):=uP (lR h1 h2 hs) λvs σ H Q h=>by obtain⟨p,δ,M,R,f,hs,a,⟨d,r,e,q⟩,b⟩:=h;subst e;rw[aC]at f;let[x,xs,8,i,j]:=f;exact #[x,xs,8,d,δ,M,_,i,hs,a,q,λc k l s g m n o=>#[r,c,k,R,j.mono g,m,n,o,b.go g]]
inductive R3(n:Nat)(t:om)(d:D)(δ:DS)(M:MH)(Q:DS->MH->Prop):Prop
 |mk (ds:ox)(h:d=.tup ds)(q:ds.length=n/\t ds δ M Q):R3 n t d δ M Q
theorem c6{es:m3}{k:Nat}{t:om}{n:Nat}(f:X.calm=MY)(h:DGs X es t) (g:(Lv es X.env).length=n:=by rfl) (b:(Lv es X.env).findIdx? (·.1)=MX:=by rfl):DG X (.Tuple es k pos) (R3 n t):=oX (wR f h g b) λv σ H Q i=>by obtain⟨d,δ,M,R,r,hs,a,⟨j,e,hl,q⟩,c⟩:=i;subst e;rw[Rep]at r;let[p,xs,8,h1,h2]:=r;exact #[p,xs,8,h1,by rw[<-h2.length];exact hl,j,δ,M,R,h2,hs,a,q,c]
def Di:D->D->D->MH->(MH->Prop)->Prop:=λo i v M Q=>match o,i with
 |.ref p,.int k=>∃a j,M p=MW (.lst a)/\RG a.length k=MW j/\Q (av M p (.lst (a.set j v)))
 |_,_=>False
def GF(to a:TD):Pq:=λv δ M Q=>to δ M λo b=>a δ b λi c=>Di o i v c λd=>Q δ d
theorem zy{o i:l_}{to f:TD}(l:DE X o to)(hi:DE X i f)
 (ha:∀v,assign (.Subscript o i pos) X.env v=(do
  let ov <-holding [v] (eval o X.env)
  let iv <-holding [v,ov] (eval i X.env)
  ML pos
  holding [v,ov,iv] (setItem ov iv v)
  release [v,ov,iv] []):=by intro _;rfl):DG X (.Subscript o i pos) (GF to f):=
 oX (FE l hi set_list ha) λv σ H Q m=>by
  let[d,δ,M,R,r,hs,a,q,c]:=m
  exact #[δ,M,_,hs,a,q,λo n p H1 g1 s t u=>#[δ,n,_,hs.mono g1,t,u,λi y w g e x h b=>by
   unfold Di at b
   split at b
   .obtain⟨z,j,e1,e2,b⟩:=b
    obtain rfl:p=.ref _:=s
    obtain rfl:w=.int _:=x
    let[xs,h1,h2]:=h _ _ e1
    refine #[_,xs,_,j,8,8,h1,by rw[<-h2.length];exact e2,?_]
    let k:Nb X.K g (upd g _ (.lst (xs.set j v))):=.lst h1
    exact c _ _ _ _ ((g1.trans e).trans k) (hs.mono ((g1.trans e).trans k)) (h.yJ h1 (h2.set (r.mono (g1.trans e)) j)) b
   .exact b.elim]]
end
section
variable{X:Cx}{pos:Pos}{st:lb}{rest:mv}{t u:OH}
def dM:OH:=λB δ M=>B.nx δ M
def fQ(t u:OH):OH:=λB δ M=>t (B.nxt (u B)) δ M
theorem aN:DSs X [] dM:=oS Ba λE σ H b=>by let[δ,M,hs,a,B,ok,q]:=b;exact(ok.nx _ _ _ _ .refl hs a q)
theorem aq(h1:DSt X st t)(h2:DSs X rest u):DSs X (st::rest) (fQ t u):=oS (pR h1 h2) λE σ H b=>by let[δ,M,hs,a,B,ok,q]:=b;exact(#[δ,M,hs,a,B.nxt (u B),#[λc d e j g f h i=>#[c,d,f,h,B,ok.go g,i],ok.rt,ok.bk,ok.ct],q])
theorem ar(h1:DSt X st t):DSs X [st] t:=ua h1
def uI:OH:=λ_ _ _=>False
theorem qh:DSt X st uI:=b8 yo λE σ H b=>by let[δ,M,hs,a,B,ok,q]:=b;exact(q.elim)
theorem m5{c:mv}:DSs X c uI:=oS uZ λE σ H b=>by let[δ,M,hs,a,B,ok,q]:=b;exact(q.elim)
def eA(te:TD):OH:=λB δ M=>te δ M λ_ a=>B.nx δ a
theorem fx{e:l_}{te:TD}(he:DE X e te)(hs:LW e MX pos.line X.env=pure MZ:=by rfl):DSt X (.Expr e pos) (eA te):=b8 (uH he hs) λE σ H b=>by let[δ,M,hs,a,B,ok,q]:=b;exact(#[δ,M,_,hs,a,q,λd g v H1 g1 h c f=>ok.nx _ _ _ _ g1 (hs.mono g1) c f])
def gv(te:TD):OH:=λB δ M=>te δ M B.rt
theorem aE{e:l_}{te:TD}(he:DE X e te):DSt X (.Return (MW e) pos) (gv te):=b8 (EC he) λE σ H b=>by let[δ,M,hs,a,B,ok,q]:=b;exact(#[δ,M,_,hs,a,q,λd h v H1 g1 c f g=>ok.rt _ _ _ _ g1 c f g])
def gX(c:OL)(t u:OH):OH:=λB δ M=>c δ M λb a=>if b=MY then t B δ a else u B δ a
theorem bz{c:l_}{a b:mv}{tc:OL}(h:DT X c tc)(ha:DSs X a t)(i:DSs X b u):DSt X (.If c a b pos) (gX tc t u):=
 b8 (Gy h ha i) λE σ H d=>by let[δ,M,hs,a,B,ok,q]:=d;exact(#[δ,M,_,hs,a,q,λc f H1 g1 g e=>by
  cases c with
  |true=>rw[NB rfl]at e ⊢;exact #[δ,f,hs.mono g1,g,B,ok.go g1,e]
  |false=>rw[NA JO]at e ⊢;exact #[δ,f,hs.mono g1,g,B,ok.go g1,e]])
def eU(te:TD)(g:Pq):OH:=λB δ M=>te δ M λd a=>g d δ a B.nx
theorem dj{tg e:l_}{te:TD}{g:Pq}(he:DE X e te)(c:DG X tg g)(hs:swapsWithSole [tg] e pos.line X.env=pure MZ:=by rfl)(hw:swappedStores [tg] e X.env=pure MX:=by rfl)
 (h1:(Lv [tg] X.env).map (·.2)=[assign tg X.env]:=by rfl):DSt X (.Assign [tg] e pos) (eU te g):=
 b8 (En he c hs hw h1) λE σ H b=>by let[δ,M,hs,a,B,ok,q]:=b;exact(#[δ,M,_,hs,a,q,λd f v H1 g1 h i j=>
  #[d,δ,f,B.nx,h,hs.mono g1,i,j,λk r l s m n o p=>ok.nx _ _ _ _ (g1.trans m) n o p]])
theorem aI(i:Nat){x:Str}{e:l_}{te:TD}{c:Pos}(f:X.N.Nodup)(he:DE X e te)(hi:X.N[i]?=MW x:=by rfl)(hx:Loc X.env.scope x:=by first|exact Or.inl rfl|exact Or.inr rfl)(hs:LW e (MW (.Name x c)) pos.line X.env=pure MZ:=by rfl) (g:X.fn x=MY\/X.env.scope.names.lookup x=MW .local:=by first|exact .inl rfl|exact .inr rfl|assumption):DSt X (.Assign [.Name x c] e pos) (eU te (aR i)):=b8 (Ex f hi hx he hs g) λE σ H b=>by let[δ,M,hs,a,B,ok,q]:=b;exact(#[δ,M,_,hs,a,q,λd l v H1 g1 h j k=>ok.nx _ _ _ _ g1 ((hs.mono g1).set h i) j k])
def Hv(i j:Nat)(a:Ny):OH:=λB δ M=>a δ M λb c=>∃d e,b=[d,e]/\B.nx ((δ.set i (MW d)).set j (MW e)) c
theorem jL(i j:Nat){x y:Str}{a b:l_}{n:Ny}{g h pt:Pos}{k l f}(o:X.calm=MY)(p:X.N.Nodup)(ha:DA X [a,b] n)(m:i≠j:=by decide)(hi:X.N[i]?=MW x:=by rfl)(r:X.N[j]?=MW y:=by rfl)
 (hx:X.env.scope.names.lookup x=MW .local:=by rfl) (s:X.env.scope.names.lookup y=MW .local:=by rfl)
 (hw:swappedStores [.Tuple [.Name x g,.Name y h] k pt] (.Tuple [a,b] l f) X.env=pure (MW [x,y]):=by rfl)
 (hs:swapsWithSole [.Tuple [.Name x g,.Name y h] k pt] (.Tuple [a,b] l f) pos.line X.env=pure MZ:=by rfl) :
 DSt X (.Assign [.Tuple [.Name x g,.Name y h] k pt] (.Tuple [a,b] l f) pos) (Hv i j n):=
 b8 (DZ o p hi r m hx s ha hw hs) λE σ H c=>by let[δ,M,hs,a,B,ok,q]:=c;exact(#[δ,M,_,hs,a,q,λI J vs H1 g1 w A C=>by
  let[d,e,z,D]:=C
  subst z
  let[v,u,8,F,G]:=dQ w
  exact #[v,u,8,ok.nx _ _ _ _ g1 (((hs.mono g1).set F i).set G j) A D]])
def AI(c:OL)(tb:OH):OH:=λB δ M=>∃W:Nat->DS->MH->Prop,(∃m,W m δ M)/\∀m δ M,W m δ M->
 c δ M λb d=>if b=MY then tb (B.lp λa f=>∃e,e<m/\W e a f) δ d else B.nx δ d
theorem iO{c:l_}{body:mv}{tc:OL}{tb:OH}(G:PassesOwn (Ju X.prog X.w) X.A X.env X.xe)(I:DT X c tc)(J:DSs X body tb):DSt X (.While c body [] pos) (AI tc tb):=
 b8 (xC G I J) λE σ H L=>by
  obtain⟨δ,M,hs,a,B,ok,W,⟨m,y⟩,p⟩:=L
  exists λm σ e=>Nb X.K H e/\∃δ M,Slots X.K e δ σ/\Nc X.K e M/\W m δ M,#[m,.refl,δ,M,hs,a,y]
  rintro m σ e ⟨g,δ,M,hs,a,y⟩
  refine #[δ,M,_,hs,a,p m δ M y,λb N H1 g1 F s=>?_]
  cases b with
  |true=>
   rw[NB rfl]at s ⊢
   refine #[λz C=>∃o,o<m/\(Nb X.K H C/\∃δ M,Slots X.K C δ z/\Nc X.K C M/\W o δ M),λk e h=>h,δ,N,hs.mono g1,F,_,?_,s]
   refine #[λf x k e n q r i=>by let[o,l,D]:=i;exact(#[o,l,(g.trans g1).trans n,f,x,q,r,D]),λd M v e n=>ok.rt d M v e ((g.trans g1).trans n),λf x k e n q r O=>ok.nx _ _ _ _ ((g.trans g1).trans n) q r O,λf x k e n q r j=>by let[o,l,D]:=j;exact(#[o,l,(g.trans g1).trans n,f,x,q,r,D])]
  |false=>
   rw[NA JO]at s ⊢
   exact ok.nx _ _ _ _ (g.trans g1) (hs.mono g1) F s
inductive Wq(g:Pq)(tb:OH)(B:EndsD)(n:Nat)(δ0:DS)(M0:MH):Prop
 |mk (W:Nat->DS->MH->Prop)(w0:W 0 δ0 M0)(turn:∀i δ M,i<n->W i δ M->g (.int (i:Int)) δ M λδ2 M2=>tb (B.lp (W (i+1))) δ2 M2)(done:∀δ M,W n δ M->B.nx δ M):Wq g tb B n δ0 M0
inductive Wr(g:Pq)(tb:OH)(B:EndsD)(ds:ox)(δ0:DS)(M0:MH):Prop
 |mk (n:Nat)(e:ds=[.int (n:Int)])(q:n<2^60/\Wq g tb B n δ0 M0):Wr g tb B ds δ0 M0
def Fd(a:Ny)(g:Pq)(tb:OH):OH:=λB δ M=>a δ M λb c=>Wr g tb B b δ c
theorem oO{tg e:l_}{body:mv}{F:Ny}{g:Pq}{tb:OH}{p G:Pos}(I:PassesOwn (Ju X.prog X.w) X.A X.env X.xe)(J:X.calm=MY)(L:Gl X "range")(N:X.mg "range"=MX)(ha:DA X [e] F)(O:DG X tg g)(P:DSs X body tb)
 (hs:Jz [e] X.env=[(MZ,eval e X.env)]:=by rfl) (Q:∀x,K6 (.Call (.Name "range" p) [e] [] G) X.env x=pure x:=by intro _;rfl):DSt X (.For tg (.Call (.Name "range" p) [e] [] G) body [] pos) (Fd F g tb):=
 b8 (xP I J (mY L N ha hs) O P Q) λE σ H ⟨δ,M,hs,a,B,ok,q⟩=>#[δ,M,_,hs,a,q,λds R vs H1 g1 S T U=>by
  let[n,e,hn,W,V,j,done]:=U
  subst e
  let[v,8,r]:=bR S
  rw[Rep]at r;subst r
  exists (n:Int),8,(),()
  rw[show((n:Int)).toNat=n from by simp]
  refine wa (λi σ c=>Nb X.K H c/\∃δ M,Slots X.K c δ σ/\Nc X.K c M/\W i δ M) #[g1,δ,R,hs.mono g1,T,V] ?_ ?_
  .rintro i σ Y hi ⟨h,δ,M,y,z,w2⟩
   refine #[.int (i:Int),δ,M,_,by rw[Rep];simp,y,z,j i δ M hi w2,λC Z a0 H3 o s3 a3 q3=>?_]
   refine #[C,Z,s3,a3,_,?_,q3]
   exact #[λb s k c f l m D=>#[(h.trans o).trans f,b,s,l,m,D],λd M v c f=>ok.rt d M v c ((h.trans o).trans f),λb s k c f l m q'=>ok.nx _ _ _ _ ((h.trans o).trans f) l m q',λb s k c f l m D=>#[(h.trans o).trans f,b,s,l,m,D]]
  .rintro σ Y ⟨h,δ,M,y,z,w2⟩
   exact ok.nx _ _ _ _ h y z (done δ M w2)]
end
def zw{b:Bool}{A B:Prop}(e:b=MY)(h:A):if b=MY then A else B:=by rw[NB e];exact h
def jE{b:Bool}{A B:Prop}(e:b=MZ)(h:B):if b=MY then A else B:=by rw[NA (by rw[e];exact JO)];exact h
theorem n9{b tb:TD}{δ:DS}{M:MH}{Q:DK}(a c:Bool)(ha:∀K:DK,K (.bl a) M->b δ M K)(e:a=MY->∀K:DK,K (.bl c) M->tb δ M K)(d:Q (.bl (a&&c)) M):wV b tb δ M Q:=
 ha _ #[a,8,by
  cases a with
  |true=>rw[NB rfl];exact e rfl _ d
  |false=>rw[NA JO];exact d]
theorem Wy{b tb:OL}{δ:DS}{M:MH}{Q:Bool->MH->Prop}(a c:Bool)(ha:∀K:Bool->MH->Prop,K a M->b δ M K)(e:a=MZ->∀K:Bool->MH->Prop,K c M->tb δ M K)(d:Q (a||c) M):HG b tb δ M Q:=
 ha _ (by
  cases a with
  |true=>rw[NB rfl];exact d
  |false=>rw[NA JO];exact e rfl _ d)
theorem HY{b tb:OL}{δ:DS}{M:MH}{Q:Bool->MH->Prop}(a c:Bool)(ha:∀K:Bool->MH->Prop,K a M->b δ M K)(e:a=MY->∀K:Bool->MH->Prop,K c M->tb δ M K)(d:Q (a&&c) M):C9 b tb δ M Q:=
 ha _ (by
  cases a with
  |true=>rw[NB rfl];exact e rfl _ d
  |false=>rw[NA JO];exact d)
def uj(r b:OU)(c tb tc:TD):TD:=λδ M Q=>c δ M λx d=>tb δ d λy e=>r x y e λz a=>∃k,z=.bl k/\if k=MY then tc δ a λu f=>b y u f Q else Q (.bl MZ) a
theorem fm{t u:OH}{B:EndsD}{δ:DS}{M:MH}(W:DS->MH->Prop)(c:∀a b,W a b->u B a b)(ht:(∀a b,W a b->u B a b)->t (B.nxt (u B)) δ M):fQ t u B δ M:=ht c
def Sub(b M:MH):Prop:=∀a o,b a=MW o->M a=MW o
theorem Sub.refl{M:MH}:Sub M M:=λ_ _ h=>h
theorem Sub.trans{M c M2:MH}(a:Sub M c)(b:Sub c M2):Sub M M2:=λx o h=>b x o (a x o h)
theorem Sub.new{M b:MH}{p:k_}{o:MO}(c:M p=MX)(s:Sub b M):Sub b (av M p o):=λa u h=>by rw[ak (λe=>by subst e;rw[s _ _ h]at c;cases c)];exact s _ _ h
inductive Ra(Q:DK)(d:D)(M:MH):Prop
 |mk (M':MH)(s:Sub M' M)(q:Q d M'):Ra Q d M
@[reducible] def lT(Q:DK):EndsD:={ nx:=λ_ a=>Ra Q .non a,rt:=Ra Q }
theorem Nk{Q:DK}{d:D}{M:MH}(q:Q d M):Ra Q d M:=#[M,.refl,q]
abbrev OE:=ox->MH->DK->Prop
def dC(K:J1)(sp:OE):Sp:=λvs H Q _=>∃a M R,aC K H a vs/\Nc K H M/\sp a M R/\Fin K H R Q
def Cal(P:Jv)(w:JP)(K:J1)(mg:Str->Option J3)(base:lj)(k:Nat)(x:Str)(sp:OE):Prop:=
 ∃f fd ps,Np P w K mg base Oa k f fd ps (dC K sp)/\mg x=MW (.ref f)/\Kz K (.ref f)=MY/\Binds K fd ps []
theorem Cal.mono{P:Jv}{w:JP}{K:J1}{mg:Str->Option J3}{base:lj}{j k:Nat}{x:Str}{sp:OE}(h:Cal P w K mg base j x sp)(l:j<=k):Cal P w K mg base k x sp:=let⟨f,fd,ps,F,r⟩:=h;#[f,fd,ps,F.mono l,r]
section
variable{X:Cx}{k:Nat}{x:Str}{sp:OE}{p pos:Pos}{e:l_}{es:m3}{t:Ny}
def yz(sp:OE)(t:Ny):TD:=λδ M Q=>t δ M λa b=>sp a b Q
def au(C:Cal X.prog X.w X.K X.mg X.base k x sp)(g:Nd k X.A)(ha:DA X (e::es) t)(h:Gl X x:=by rfl)(b:(x==("__debug__":Str))=MZ:=by decide)
 (he:Jz (e::es) X.env=(MZ,eval e X.env)::Jz es X.env:=by rfl) (c:(Lh pos (Jz es X.env)).any (·.1)=MZ:=by rfl):DE X (.Call (.Name x p) (e::es) [] pos) (yz sp t):=by
 let[f,fd,ps,F,i,j,l]:=C
 refine aQ (CD F g h i j l .nil yg ha b he c) λσ H Q a=>?_
 let[δ,M,R,hs,m,q,d]:=a
 refine #[δ,M,_,hs,m,q,λn o vs H1 g1 r s u=>?_]
 show dC X.K sp (vs++[]) H1 Q E0
 rw[KP]
 exact #[n,o,R,r,s,u,d.go g1]
end
def cV(N:nj)(a:ox):DS:=a.map MW++List.replicate (N.length-a.length) MX
section
variable{P:Jv}{w:JP}{K:J1}{mg:Str->Option J3}{base:lj}
def XB{x qual:Str}{st:lb}{f:k_}{fd:MA}{N ps:nj}{k:Nat}{sp:OE}(F:Fun K x qual st f fd)(S:N9 N ps (ao st))(len:∀b M Q,sp b M Q->b.length=ps.length)
 (m:∀X:Cx,X.prog=P->True) (body:∀(cdv:J3)(A:JQ)(outer:List Env)(s:J4)(H:Hp)(E:XK),Nd k (A.deeper (MT qual (ao st) s.z f cdv))->
  ∃t,DSs (bg Oa P w K mg base N qual (ao st) f cdv A outer s H E).nox (aJ st) t/\∀b M Q,sp b M Q->t (lT Q) (cV N b) M):Np P w K mg base Oa (k+1) f fd ps (dC K sp):=by
 refine F.ok S (λvs H Q E c=>by let[b,M,R,n,_,q,_]:=c;rw[<-n.length];exact len _ _ _ q) λcdv A outer s H vs Q E B e=>?_
 let[b,M,R,n,a,q,j]:=e
 let[t,h,C]:=body cdv A outer s H E B
 refine #[_,h,cV N b,M,gc n,a,(lT R),#[λD G I u g J o l=>?_,λd G v u g r o i=>by let[y,p,l]:=i;exact(j _ _ _ _ g r (o.sub p) l),λ_ _ _ _ _ _ _ z=>z,λ_ _ _ _ _ _ _ z=>z],C b M R q]
 let[y,p,l]:=l
 exact j .non y .non u g (by rw[Rep]) (o.sub p) l
def Txt(K:J1)(mg:Str->Option J3)(x:Str)(st:lb):Prop:=∃f fd,Fun K x x st f fd/\mg x=MW (.ref f)
theorem Txt.mk{h:lj}{x:Str}{st:lb}{f:k_}{oc:J3}{od an:Option k_}{osl:Array (Option J3)}{kV b d cdv ct:J3}(X:K.In h)(G:h.Ns JR mg)(a:Kb K JR x=MW (MW (.ref f))) (l:K.lookup f=MW #[oc,od,.func (Kp x x (aT st) (aJ st) (ao st) .none kV b d an cdv ct),osl]) (c:LS K cdv x=MY) (k:Kz K (.ref f)=MY):Txt K mg x st:=#[f,_,nX l c k,PySem.W.mg_of X G a]
def Ag{x:Str}{st:lb}{N ps:nj}{k:Nat}{sp:OE}(T:Txt K mg x st)(S:N9 N ps (ao st))
 (c:∀(kV b d:J3)(an:Option k_)(cdv ct:J3)(us:List J3),us.length=ps.length->MM (Kp x x (aT st) (aJ st) (ao st) .none kV b d an cdv ct) #[us,[]]=pure (ps.zip us))
 (len:∀a M Q,sp a M Q->a.length=ps.length)
 (body:∀(f:k_)(cdv:J3)(A:JQ)(outer:List Env)(s:J4)(H:Hp)(E:XK),Nd k (A.deeper (MT x (ao st) s.z f cdv))->
  ∃t,DSs (bg Oa P w K mg base N x (ao st) f cdv A outer s H E).nox (aJ st) t/\∀a M Q,sp a M Q->t (lT Q) (cV N a) M):Cal P w K mg base (k+1) x sp:=by
 let[f,fd,F,e]:=T
 exact #[f,fd,ps,XB F S len (λ_ _=>trivial) (body f),e,F.kp,F.binds c]
end
def sC:Kk "abs"=MW (.builtin "abs"):=by decide +kernel
def rT:Kk "max"=MW (.builtin "max"):=by decide +kernel
def qH:Kk "min"=MW (.builtin "min"):=by decide +kernel
def bG:Kk "len"=MW (.builtin "len"):=by decide +kernel
def bE:Kk "isinstance"=MW (.builtin "isinstance"):=by decide +kernel
def qz:Kk "tuple"=MW (.type "tuple"):=by decide +kernel
def uC:Kk "list"=MW (.type "list"):=by decide +kernel
def ot:Kk "int"=MW (.type "int"):=by decide +kernel
def uJ:Kk "bool"=MW (.type "bool"):=by decide +kernel
section
variable{P:Jv}{w:JP}{K:J1}{mg:Str->Option J3}
def IV{x:Str}{st:lb}{N:nj}{p:Str}{k:Nat}{sp:OE}{g:k_}(T:Txt K mg x st)(c:mg x=MW (.ref g))(S:N9 N [p] (ao st))
 (h:∀(kV a d:J3)(an:Option k_)(cdv ct:J3)(us:List J3),us.length=[p].length->MM (Kp x x (aT st) (aJ st) (ao st) .none kV a d an cdv ct) #[us,[]]=pure ([p].zip us))
 (len:∀b M Q,sp b M Q->b.length=[p].length)
 (body:∀(base:lj)(f:k_)(cdv:J3)(A:JQ)(outer:List Env)(s:J4)(H:Hp)(E:XK),Nd k (A.deeper (MT x (ao st) s.z f cdv))->
  ∃t,DSs (bg Oa P w K mg base N x (ao st) f cdv A outer s H E).nox (aJ st) t/\∀b M Q,sp b M Q->t (lT Q) (cV N b) M) :
 ∃fd,(∀(s:J4)(u:J3),BindsTo s fd #[[u],[]] [(p,u)])/\∀base:lj,Np P w K mg base Oa (k+1) g fd [p] (dC K sp):=by
 let[f,fd,F,i]:=T
 let e:=c.symm.trans i
 cases e
 refine #[fd,λs u=>?_,λbase=>XB F S len (λ_ _=>trivial) (body base _)]
 let[oc,od,kV,a,d,an,cdv,ct,osl,8,lk,j]:=F.ex
 exact .of_eq (h kV a d an cdv ct [u] rfl)
end
end SD
namespace Ma
open PySem PySem.Spec PyProof.Rows L2 SD
abbrev fr(q:Rat):D:=.tup [.int q.num,.int (q.den:Int)]
def den_pos(q:Rat):(0:Int)<(q.den:Int):=by have:=q.den_pos;omega
def Bq(n:Nat)(q:Rat):Prop:=Bd n q.num/\Bd n (q.den:Int)
theorem Bq.mono{m n:Nat}{q:Rat}(h:Bq m q)(l:m<=n):Bq n q:=#[h.1.mono l,h.2.mono l]
theorem oZ{t b:Int}(a:0<b):t.fdiv b=t/b:=Int.fdiv_eq_ediv_of_nonneg _ ()
def fdiv_neg{t b:Int}(hd:b ∣ t)(d:0<b):t.fdiv (-b)=-(t/b):=by
 let[c,8]:=hd;let a:b≠0:=()
 rw[Int.mul_ediv_cancel_left _ a];have:b*c=-b * -c:=by rw[Int.neg_mul_neg]
 rw[this];exact Int.mul_fdiv_cancel_left _ ()
theorem uT(t b:Int):((Nat.gcd t.natAbs b.natAbs:Nat):Int) ∣ t:=Int.ofNat_dvd_left.mpr (Nat.gcd_dvd_left _ _)
theorem ui(t b:Int):((Nat.gcd t.natAbs b.natAbs:Nat):Int) ∣ b:=Int.ofNat_dvd_left.mpr (Nat.gcd_dvd_right _ _)
def mP(t b:Int):Int.gcd b t=Nat.gcd t.natAbs b.natAbs:=by unfold Int.gcd;exact Nat.gcd_comm _ _
theorem uL{t b:Int}(a:b≠0):0<Nat.gcd t.natAbs b.natAbs:=Nat.gcd_pos_of_pos_right _ ()
def uo{t b:Int}(a:0<b):t.fdiv (Nat.gcd t.natAbs b.natAbs:Nat)=(Rat.divInt t b).num/\b.fdiv (Nat.gcd t.natAbs b.natAbs:Nat)=((Rat.divInt t b).den:Int):=by
 let c:=uL (t:=t) (b:=b) ();rw[oZ (),oZ (),Rat.num_divInt,Rat.den_divInt,NA (),Lk a,Int.one_mul,mP];exists 8;rw[Int.natCast_ediv]
 congr 1
 omega
def CF{t b:Int}(a:b<0):t.fdiv (-((Nat.gcd t.natAbs b.natAbs:Nat):Int))=(Rat.divInt t b).num/\b.fdiv (-((Nat.gcd t.natAbs b.natAbs:Nat):Int))=((Rat.divInt t b).den:Int):=by
 let c:=uL (t:=t) (b:=b) ();rw[fdiv_neg (uT t b) (),fdiv_neg (ui t b) (),Rat.num_divInt,Rat.den_divInt,NA (),Lj a,mP];constructor
 .rw[show(-1:Int)*t=-t from by omega,Int.neg_ediv_of_dvd (uT t b)]
 .rw[Int.natCast_ediv,show((b.natAbs:Nat):Int)=-b from by omega,Int.neg_ediv_of_dvd (ui t b)]
def sh{t b:Int}(a:b≠0):(Rat.divInt t b).num.natAbs<=t.natAbs/\(Rat.divInt t b).den<=b.natAbs:=by
 constructor
 .rw[Rat.num_divInt];refine K0 (Int.natAbs_ediv_le_natAbs _ _) ?_;rw[Int.natAbs_mul];rcases LX b 0 with h|h|h
  .rw[Lj h];simp
  .exact absurd h a
  .rw[Lk h];simp
 .rw[Rat.den_divInt,NA a];exact Nat.div_le_self _ _
def Bq.divInt{n:Nat}{t b:Int}(a:b≠0)(h1:Bd n t)(h2:Bd n b):Bq n (Rat.divInt t b):=by let[c,d]:=sh (t:=t) a;exact #[Nat.lt_of_le_of_lt c h1,Nat.lt_of_le_of_lt ‹d› h2]
def tM(x y:Nat):Int.fmod (x:Int) (y:Int)=((x%y:Nat):Int):=by rw[Int.fmod_eq_emod_of_nonneg _ ()];rfl
def sf(q r:Rat):KA (.tuple [.int q.num,.int (q.den:Int)]) (.tuple [.int r.num,.int (r.den:Int)])=decide (q=r):=by
 simp only[KA,KU,Bool.and_true];by_cases h:q=r
 .subst h;simp
 .rw[NC h];rw[Bool.eq_false_iff];intro z;rw[Kq,beq_iff_eq,beq_iff_eq]at z;exact h (Rat.ext z.1 (by have:=z.2;omega))
def HW(q r:Rat):decide (q.num*(r.den:Int)<r.num*(q.den:Int))=decide (q<r):=by rw[NG,Rat.lt_iff]
abbrev spt(a b:Rat):D:=.tup [fr a,fr b]
def tI(a b c d:Rat):KA (.tuple [.tuple [.int a.num,.int (a.den:Int)],.tuple [.int b.num,.int (b.den:Int)]]) (.tuple [.tuple [.int c.num,.int (c.den:Int)],.tuple [.int d.num,.int (d.den:Int)]])=decide (a=c/\b=d):=by rw[KA,KU,KU,KU,sf,sf,Bool.and_true,Bool.decide_and]
def jI(q:Rat):(q.den:Int)≠0:=by have:=q.den_pos;omega
def sub_eq(q r:Rat):Rat.divInt (q.num*(r.den:Int)-r.num*(q.den:Int)) ((q.den:Int)*(r.den:Int))=q-r:=by rw[<-Rat.divInt_sub_divInt _ _ (jI q) (jI r),Rat.num_divInt_den,Rat.num_divInt_den]
theorem tD(q r:Rat):(q.den:Int)*(r.den:Int)≠0:=Int.mul_ne_zero (jI q) (jI r)
theorem Bq.tS{n:Nat}{q r:Rat}(a:Bq n q)(b:Bq n r):Bd (2*n+1) (q.num*(r.den:Int)-r.num*(q.den:Int)):=((a.1.mul b.2).sub (b.1.mul a.2)).mono ()
def sgn(z:Rat):Int:=if 0<z then 1 else if z<0 then -1 else 0
def cr(a b c d x y:Rat):Rat:=(c-a)*(y-b)-(d-b)*(x-a)
abbrev wll(a b c d:Rat):D:=.tup [spt a b,spt c d]
def ah(a b c d:Rat):Prop:=a<c\/a=c/\b<d
instance(a b c d:Rat):Decidable (ah a b c d):=inferInstanceAs (Decidable (_\/_))
def pos_int{i:Int}(h:0<i):(0:Rat)<(i:Rat):=by rw[Rat.lt_iff];simpa using h
end Ma
namespace SD
open PySem PySem.Spec PyProof.Rows L2
def dW(names:List (Str×LR))(env:Env):List (Str×k_):=(names.filter λy=>y.2==.free).reverse.map λy=>(y.1,(env.cells.lookup y.1).getD 0)
def lH{scope:Lq}{env:Env}(h:∀y∈scope.names,y.2=.free->∃c,env.cells.lookup y.1=MW c):closureFor scope env=pure (dW scope.names env):=by
 let key:∀(names:List (Str×LR)) (b:List (Str×k_)),(∀y∈names,y.2=.free->∃c,env.cells.lookup y.1=MW c)->
  (forIn names b (λ(x:Str×LR) (r:List (Str×k_))=>if(x.2==Mo)=MY then do let a <-cellOf env x.1;pure (Mf ((x.1,a)::r))else pure (Mf r)):Sem (List (Str×k_)))=pure (dW names env++b):=by
  intro names
  induction names with
  |nil=>intro b _;rfl
  |cons y l g=>
   intro b e
   let[n,k]:=y
   rw[Mg]
   by_cases d:(k==Mo)=MY
   .obtain⟨c,i⟩:=e (n,k) (JW ..) ‹d›
    let e1:cellOf env n=pure c:=by unfold cellOf;rw[i]
    dsimp only
    rw[NB d,e1]
    simp only[Lb]
    rw[g _ λy f=>e y (JC _ f)]
    unfold dW
    rw[List.filter_cons_of_pos ‹d›,List.reverse_cons,Kr,List.append_assoc]
    simp[i]
   .dsimp only
    rw[NA d]
    simp only[Lb]
    rw[g _ λy f=>e y (JC _ f)]
    unfold dW
    rw[List.filter_cons_of_neg ‹d›]
 have:=key scope.names [] h;rw[KP]at this;unfold closureFor;exact Eq.trans (congrArg (λt:Sem (List (Str×k_))=>t >>= λj=>pure j) this) rfl
def ph{env:Env}{y:Str}{c:k_}:∀{names:List (Str×LR)},(∀z∈names,z.2=.free->∃c,env.cells.lookup z.1=MW c)->(dW names env).lookup y=MW c->env.cells.lookup y=MW c:=by intro names h e;let b:=K1 e;unfold dW at b;let[z,a,e2]:=JZ.mp b;rw[List.mem_reverse,Ke]at a;let[f,d]:=h z a.1 ‹a.2›;rw[d]at e2;cases e2;exact d
def qo{env:Env}{y:Str}{names:List (Str×LR)}(a:(y,Mo)∈names):∃c,(dW names env).lookup y=MW c:=by
 cases e:(dW names env).lookup y with
 |some c=>exact #[c,rfl]
 |none=>
  have:=List.lookup_eq_none_iff.mp e (y,(env.cells.lookup y).getD 0) (JZ.mpr #[(y,.free),List.mem_reverse.mpr (Ke.mpr #[a,rfl]),rfl])
  simp at this
theorem fL{env:Env}(d:env.scope.kind=.function):∀{names:List (Str×LR)} {y:Str} {k:LR},
 (names.map λ(n,k)=>if(k==Mo&&env.scope.kind==.function&&env.kindOf n==MW .cell)then(n,NameKind.cell)else(n,k)).lookup y=MW k->
  names.lookup y=MW k\/(k=.cell/\names.lookup y=MW .free)
 |[],_,_,h=>by simp at h
 |(n,q)::r,y,k,h=>by
  let e:=@fL env d r y k
  rw[J9]at h
  dsimp only at h
  by_cases b:(y==n)=MY
  .by_cases c:(q==Mo&&env.scope.kind==.function&&env.kindOf n==MW .cell)=MY
   .rw[NB c,Kw,b]at h
    let f:q=.free:=by
     rw[Kq,Kq]at c
     simpa using c.1.1
    cases h
    right
    exact #[8,by rw[Kw,b,f]]
   .rw[NA c,Kw,b]at h
    left
    rw[Kw,b];exact h
  .have a:(y==n)=MZ:=‹b›
   let g:(r.map λ(n,k)=>if(k==Mo&&env.scope.kind==.function&&env.kindOf n==MW .cell)then(n,NameKind.cell)else(n,k)).lookup y=MW k:=by
    split at h
    .rw[Kw,a]at h;exact h
    .rw[Kw,a]at h;exact h
   rw[Kw,a]
   exact e g
theorem nN{X:Cx}{tg a:l_}{c b:TI}(h:PI X tg a c)(k:∀σ H R,b σ H R->c σ H R):PI X tg a b:=λNK s σ H R I q=>h NK s σ H R I (k _ _ _ q)
def IZ(K:J1)(tl:TE):TI:=λσ H R=>tl σ H λx H1=>∃a,x=.ref a/\(((∃xs,Ni K H1 a xs)/\R (ZR K a) H1)\/((∃xs,Nl K H1 a xs)/\R (ZQ K a) H1))
def EL{X:Cx}{tg l:l_}{tl:TE}(hl:PE X l tl):PI X tg l (IZ X.K tl):=by
 intro NK s σ H R I h;refine Nf (hl NK s σ H _ I h) λv c d=>?_;let[x,H1,f,j,k]:=d;let[a,e,z]:=k;subst e;cases j
 let fp:∀b∈[c.z],cP X NK H1 b:=λb m=>by
  obtain rfl:b=c.z:=‹m›
  exact f.sS (Jo _) (f.hok.fresh (Jo _))
 rcases z with⟨⟨xs,i⟩,q⟩|⟨⟨xs,i⟩,q⟩
 .obtain⟨g,n,p,r⟩:=f.list i;exact wpAny_pyIter_list p.isList #[_,[c.z],_,_,H1,8,f.kept (t':=c.toks) λb o e=>J6 _ e,wL a _,#[_,Jt _ rfl,8,rfl],fp,q]
 .obtain⟨g,n,p,r⟩:=f.tuple i;exact wpAny_pyIter_tuple (show c.heap.IsTuple a g.toArray from p) #[_,[c.z],_,_,H1,8,f.kept (t':=c.toks) λb o e=>J6 _ e,qL a _,#[_,Jt _ rfl,8,rfl],fp,q]
structure RE where
 n:Nat
 item:Nat->oy
 C:MH->Prop
abbrev Ou:=DS->MH->(RE->MH->Prop)->Prop
structure Wo(K:J1)(H1:Hp)(I:RE)(J:It):Prop where
 stop:∀H2 M2,Nb K H1 H2->Nc K H2 M2->I.C M2->J.stop I.n H2
 go:∀i H2 M2,i<I.n->Nb K H1 H2->Nc K H2 M2->I.C M2->J.go i H2
 yld:∀i H2 M2 v H3,i<I.n->Nb K H1 H2->Nc K H2 M2->I.C M2->J.yld i H2 v H3->Nb K H2 H3/\Nc K H3 M2/\∃d,I.item i=MW d/\Rep K H3 d v
def lU(K:J1)(t:Ou):TI:=λσ H R=>∃δ M b,Slots K H δ σ/\Nc K H M/\t δ M b/\∀I c a J,Nb K H a->Nc K a c->b I c->Wo K a I J->R J a
namespace Zq
@[scoped irreducible]def _root_.SD.DI(X:Cx)(tg a:l_)(t:Ou):Prop:=PI X tg a (lU X.K t)
end Zq
def Hi(M:MH):D->ox->Prop
 |.tup ds,es=>es=ds
 |.rol ds,es=>es=ds
 |.ref a,es=>M a=MW (.lst es)
 |_,_=>False
inductive ZM(ds:ox)(M:MH)(R:RE->MH->Prop):Prop
 |mk (n:Nat)(h:ds=[.int (n:Int)])(q:n<2^60/\R #[n,λi=>MW (.int (i:Int)),λ_=>True] M):ZM ds M R
inductive Yv(d:D)(M:MH)(R:RE->MH->Prop):Prop
 |mk (ds:ox)(h:Hi M d ds)(q:R #[ds.length,λi=>ds[i]?,λM=>Hi M d ds] M):Yv d M R
def F7(a:Ny):Ou:=λδ M R=>a δ M λb c=>ZM b c R
def IG(tl:TD):Ou:=λδ M R=>tl δ M λd a=>Yv d a R
section
variable{X:Cx}{tg:l_}
theorem jx{a:l_}{d:Ny}{p b:Pos}(f:Gl X "range")(g:X.mg "range"=MX)(ha:DA X [a] d)(hs:Jz [a] X.env=[(MZ,eval a X.env)]:=by rfl):DI X tg (.Call (.Name "range" p) [a] [] b) (F7 d):=
 nN (mY f g ha hs) λσ H R h=>by
  let[δ,M,u,hs,j,q,c]:=h
  exact #[δ,M,_,hs,j,q,λw k vs H1 g1 l m o=>by
   let[n,e,x,s]:=o
   subst e
   let[v,8,r]:=bR l
   rw[Rep]at r;subst r
   refine #[(n:Int),8,(),(),c _ k H1 _ g1 m s #[λ_ _ _ _ _=>by show((n:Int)).toNat<=n;simp,λi _ _ hi _ _ _=>by show i<((n:Int)).toNat;simpa using hi,?_]]
   rintro i y z v A hi B t _ ⟨rfl,rfl⟩
   exact #[.refl,t,7,by rw[Rep];simp]]
theorem aZ{l:l_}{tl:TD}(hl:DE X l tl):DI X tg l (IG tl):=
 nN (EL hl) λσ H R D=>by
  let[δ,M,G,hs,E,q,n]:=D
  exact #[δ,M,_,hs,E,q,λd w v H1 g1 r y F=>by
   let[c,z,A]:=F
   cases d with
   |tup es=>
    obtain rfl:c=es:=z
    rw[Rep]at r
    let[a,xs,8,h,k]:=r
    refine #[a,8,.inr #[#[xs,h],n _ w H1 _ g1 y A #[λm _ b _ _=>#[xs,b.t _ _ h,by rw[k.length];exact Jo _],λi m _ hi b _ _=>?_,?_]]]
    .have e:i<xs.length:=by rw[<-k.length];exact hi
     exact #[xs,xs[i],b.t _ _ h,by simp[e]]
    .rintro i m o v C hi b g _ ⟨rfl,j⟩
     let hi:i<c.length:=hi
     let[x,e1,e2]:=(k.mono b).get (show c[i]?=MW c[i] by simp[hi])
     have:=j xs (b.t _ _ h)
     rw[e1]at this;cases this
     exact #[.refl,g,_,by simp[hi],e2]
   |rol es=>
    obtain rfl:c=es:=z
    rw[Rep]at r
    let[a,xs,8,h,k]:=r
    refine #[a,8,.inl #[#[xs,h.sql],n _ w H1 _ g1 y A #[λm _ b _ _=>#[xs,(b.f _ _ h).sql,by rw[k.length];exact Jo _],λi m _ hi b _ _=>?_,?_]]]
    .have e:i<xs.length:=by rw[<-k.length];exact hi
     exact #[xs,xs[i],(b.f _ _ h).sql,by simp[e]]
    .rintro i m o v C hi b g _ ⟨rfl,j⟩
     let hi:i<c.length:=hi
     let[x,e1,e2]:=(k.mono b).get (show c[i]?=MW c[i] by simp[hi])
     have:=j xs (b.f _ _ h).sql
     rw[e1]at this;cases this
     exact #[.refl,g,_,by simp[hi],e2]
   |ref a=>
    rw[Rep]at r;subst r
    let[xs,hx,k]:=y _ _ (show w a=MW (.lst c)from z)
    refine #[a,8,.inl #[#[xs,Ni.of hx],n _ w H1 _ g1 y A #[λm o b g s=>?_,λi m o hi b g s=>?_,?_]]]
    .obtain⟨p,j,u⟩:=g _ _ (show o a=MW (.lst c)from s)
     exact #[p,Ni.of j,by rw[u.length];exact Jo _]
    .obtain⟨p,j,u⟩:=g _ _ (show o a=MW (.lst c)from s)
     let e:i<p.length:=by rw[<-u.length];exact hi
     exact #[p,p[i],Ni.of j,by simp[e]]
    .rintro i m o v C hi b g s ⟨rfl,j⟩
     let hi:i<c.length:=hi
     let[p,B,u]:=g _ _ (show o a=MW (.lst c)from s)
     let[x,e1,e2]:=u.get (show c[i]?=MW c[i] by simp[hi])
     have:=j p (Ni.of B)
     rw[e1]at this;cases this
     exact #[.refl,g,_,by simp[hi],e2]
   |_=>exact z.elim]
inductive Ws(g:Pq)(tb:OH)(B:EndsD)(I:RE)(δ0:DS)(M0:MH):Prop
 |mk (W:Nat->DS->MH->Prop)(w0:W 0 δ0 M0)(hC:∀i δ M,i<=I.n->W i δ M->I.C M)(turn:∀i d δ M,i<I.n->I.item i=MW d->W i δ M->g d δ M λδ2 M2=>tb (B.lp (W (i+1))) δ2 M2)(done:∀δ M,W I.n δ M->B.nx δ M):Ws g tb B I δ0 M0
def GA(a:Ou)(g:Pq)(tb:OH):OH:=λB δ M=>a δ M λI b=>Ws g tb B I δ b
theorem ff{b:l_}{body:mv}{P:Ou}{g:Pq}{tb:OH}{F:Pos}(S:PassesOwn (Ju X.prog X.w) X.A X.env X.xe)(T:X.calm=MY)(hi:DI X tg b P)(U:DG X tg g)(V:DSs X body tb)
 (Y:∀x,K6 b X.env x=pure x:=by intro _;rfl):DSt X (.For tg b body [] F) (GA P g tb):=
 b8 (xP S T hi U V Y) λE σ H ⟨δ,M,hs,a,B,ok,q⟩=>#[δ,M,_,hs,a,q,λI Z H1 J g1 a1 z9 L=>by
  let[W,w0,hC,p,done]:=z9
  refine #[λi m σ h=>m=I.n-i/\i<=I.n/\Nb X.K H1 h/\∃δ M,Slots X.K h δ σ/\Nc X.K h M/\W i δ M,#[I.n,by simp,Kh _,.refl,δ,Z,hs.mono g1,a1,w0],?_]
  rintro i m σ h ⟨rfl,hi,r,j,l,Q,u,w2⟩
  by_cases e:i<I.n
  .refine .inr #[L.go i h l e r u (hC _ _ _ hi w2),λc o=>Nb X.K H1 o/\∃δ M,Slots X.K o δ c/\Nc X.K o M/\W (i+1) δ M,λc o z=>#[I.n-(i+1),(),8,e,z],λx o y=>?_]
   let[R,a3,d,ed,rd]:=L.yld i h l x o e r u (hC _ _ _ hi w2) y
   refine #[d,j,l,_,rd,Q.mono R,a3,p i d j l e ed w2,λN M4 a0 H4 g4 s4 a4 q4=>#[N,M4,s4,a4,_,?_,q4]]
   let G:Nb X.K H1 H4:=(r.trans R).trans g4
   exact #[λf C c D k s t O=>#[G.trans k,f,C,s,t,O],λd M v D k=>ok.rt d M v D ((g1.trans G).trans k),λf C c D k s t q'=>ok.nx _ _ _ _ ((g1.trans G).trans k) s t q',λf C c D k s t O=>#[G.trans k,f,C,s,t,O]]
  .obtain rfl:i=I.n:=()
   exact .inl #[L.stop h l r u (hC _ _ _ hi w2),ok.nx _ _ _ _ (g1.trans r) Q u (done j l w2)]]
end
end SD
namespace Ma
open SD
def k7{a b:Int}(h:0<b):0<Rat.divInt a b↔0<a:=by
 let h1:=Rat.divInt_nonneg_iff_of_pos_right (a:=-a) h;rw[<-Rat.neg_divInt]at h1;have:¬(0<=-Rat.divInt a b)↔0<Rat.divInt a b:=by constructor<;>intro z<;>grind
 rw[<-this,h1];omega
def qO{a b:Int}(h:0<b):Rat.divInt a b<0↔a<0:=by
 let h1:=Rat.divInt_nonneg_iff_of_pos_right (a:=a) h;have:¬(0<=Rat.divInt a b)↔Rat.divInt a b<0:=by constructor<;>intro z<;>grind
 rw[<-this,h1];omega
def Az{t b:Int}(h:0<b):sgn (Rat.divInt t b)=if 0<t then 1 else if t<0 then -1 else 0:=by unfold sgn;simp only[k7 h,qO h]
def AB(a b c d x y:Rat) :
 Rat.divInt ((c.num*(a.den:Int)-a.num*(c.den:Int))*(y.num*(b.den:Int)-b.num*(y.den:Int))*((d.den:Int)*(b.den:Int)*((x.den:Int)*(a.den:Int))) -
  (d.num*(b.den:Int)-b.num*(d.den:Int))*(x.num*(a.den:Int)-a.num*(x.den:Int))*((c.den:Int)*(a.den:Int)*((y.den:Int)*(b.den:Int))))
  ((c.den:Int)*(a.den:Int)*((y.den:Int)*(b.den:Int))*((d.den:Int)*(b.den:Int)*((x.den:Int)*(a.den:Int))))=cr a b c d x y:=by
 rw[<-Rat.divInt_sub_divInt _ _ (Int.mul_ne_zero (tD c a) (tD y b)) (Int.mul_ne_zero (tD d b) (tD x a)),<-Rat.divInt_mul_divInt,<-Rat.divInt_mul_divInt,sub_eq,sub_eq,sub_eq,sub_eq]
 rfl
end Ma
namespace SD
open PySem PySem.Spec PyProof.Rows L2
abbrev OM:J3->J4->Prop:=λ_ _=>False
def cN(X:Cx)(xs:nj)(js:ma):nj:=xs++js.map λj=>(X.N[j]?).getD ("":Str)
def cσ(os:L2.St)(js:ma)(σ:L2.St):L2.St:=os++js.map λj=>(σ[j]?).join
theorem cz:∀(names:List (Str×LR)) (n:Nat) (a:List (Str×k_)),Lo n names a=Lo n names []++a
 |[],_,_=>rfl
 |(x,k)::r,n,a=>by
  unfold Lo
  split
  .rw[cz r (n+1) ((x,n)::a),cz r (n+1) [(x,n)],List.append_assoc];rfl
  .exact cz r n a
theorem jy:∀(names:List (Str×LR)) (n:Nat) {y:Str} {c:k_},(y,c)∈Lo n names []->(y,NameKind.cell)∈names
 |[],_,_,_,h=>by cases h
 |(x,k)::r,n,y,c,h=>by
  unfold Lo at h
  split at h
  .rename_i hk
   rw[cz]at h
   rcases K5.mp h with h|h
   .exact JC _ (jy r _ h)
   .have e:(y,c)=(x,n):=‹h›
    cases e
    obtain rfl:k=.cell:=‹hk›
    exact JW
  .exact JC _ (jy r _ h)
def p7{l r:List (Str×k_)}{y:Str}{c:k_}(h:(l++r).lookup y=MW c):l.lookup y=MW c\/(l.lookup y=MX/\r.lookup y=MW c):=by
 rw[List.lookup_append]at h;cases e:l.lookup y with
 |some a=>rw[e]at h;exact .inl h
 |none=>rw[e]at h;exact .inr #[8,h]
def xt{env:Env}{y:Str}{c:k_}{names:List (Str×LR)}(h:(dW names env).lookup y=MW c):(y,Mo)∈names:=by
 let b:=K1 h;unfold dW at b;let[z,a,e]:=JZ.mp b;rw[List.mem_reverse,Ke]at a;let[n,k]:=z;obtain rfl:k=.free:=‹a.2›
 cases e;exact a.1
theorem eV{env:Env}{k:LR}(b:k≠.free):∀{names:List (Str×LR)} {x:Str},names.lookup x=MW k->
 (names.map λ(n,k)=>if(k==Mo&&env.scope.kind==.function&&env.kindOf n==MW .cell)then(n,NameKind.cell)else(n,k)).lookup x=MW k
 |[],_,h=>by simp at h
 |(n,q)::r,x,h=>by
  let c:=@eV env k b r x
  rw[J9]
  dsimp only
  by_cases hx:(x==n)=MY
  .rw[Kw,hx]at h
   cases h
   rw[NA (by intro z;rw[Kq,Kq]at z;exact b ‹z.1.1›),Kw,hx]
  .have a:(x==n)=MZ:=‹hx›
   rw[Kw,a]at h
   split<;>(rw[Kw,a];exact c h)
def oY{M:Model}{A:JQ}{E:J3->J4->Prop}{s:J4}{scope:Lq}{globals:k_}{cl:List (Str×k_)}{qual:Str}{env:Env}{Q:Env->J4->Prop} (h:Q { scope:=scope,locals:=s.z,globals:=globals,cells:=Lo (s.z+1) scope.names cl,qual:=qual,func:=MX,code:=env.code,frame:=env.frame,builtins:=env.builtins } { s with heap:=pushCells (s.heap.push { cls:=.type "dict",data:=.dict #[] }) scope.names }) : Jq M A (MP scope globals cl [] qual MX .none (MW env)) Q E s:=by simp only[MP,Option.isSome_some,if_true];refine J0 (wpAny_alloc ?_);refine J0 (wpAny_layCells _ (λname kind cells=>by cases a:kind==NameKind.cell<;>simp[a]) _ _ _ _ ?_);rw[show({ s with heap:=s.heap.push { cls:=.type "dict",data:=.dict #[] } }:J4).heap.objs.size=s.z+1 from Li ..];refine J0 ?_;rw[Ms];exact J5 (J5 h)
def j7(scope:Lq)(C:k_)(env:Env):Env:=
 { scope:=relabel scope env,locals:=C,globals:=env.globals,cells:=Lo (C+1) scope.names (dW scope.names env),qual:=env.qual,func:=MX,code:=env.code,frame:=env.frame,builtins:=env.builtins }
def Nh(X:Cx)(xs:nj)(js:ma)(scope:Lq)(C:k_)(s:J4)(H:Hp)(fp:m_):Cx where
 prog:=X.prog
 w:=X.w
 K:=X.K
 mg:=X.mg
 base:=X.base
 A:=X.A
 N:=cN X xs js
 s₀:=s
 H₀:=H
 env:=j7 scope C X.env
 outer:=X.stack
 stack:=X.stack
 ex:=fp
 fn:=λy=>xs.contains y
 calm:=X.calm
 pn:=[]
 xe:=λ_ _=>False
structure Na(X:Cx)(xs:nj)(js:ma)(scope:Lq):Prop where
 kind:scope.kind=.function
 cell:∀y∈scope.names,y.2=.cell->y.1∈xs
 free':∀y∈scope.names,y.2=.free->y.1∉xs
 names:∀y∈scope.names,y.2=.local->scope.names.lookup y.1=MW .local
 own:∀x∈xs,scope.names.lookup x=MW .local\/scope.names.lookup x=MW .cell
 out:∀y∈scope.names,y.2=.free->X.env.kindOf y.1=MW .cell\/X.env.kindOf y.1=MW .free
 nd:(cN X xs js).Nodup
 js:∀j∈js,scope.names.lookup ((X.N[j]?).getD ("":Str))≠MW .local
section
variable{X:Cx}{xs:nj}{js:ma}{scope:Lq}{NK:l'}{σ:L2.St}{H:Hp}{s:J4}{fp:m_}
theorem Na.cells(c:Na X xs js scope)(ok:X.Ok):∀y∈scope.names,y.2=.free->∃a,X.env.cells.lookup y.1=MW a:=λy b d=>ok.has _ (c.out y b d)
theorem Na.B3(c:Na X xs js scope)(ok:X.Ok):closureFor scope X.env=pure (dW scope.names X.env):=lH (c.cells ok)
theorem Na.kindOf(c:Na X xs js scope)(ok:X.Ok){C:k_}{y:Str}{k:LR}(e:(j7 scope C X.env).kindOf y=MW k):scope.names.lookup y=MW k\/(k=.cell/\scope.names.lookup y=MW .free):=fL ok.kind e
def kY(c:Na X xs js scope)(I:Inv X NK σ H s)(E:∀b∈fp,cP X NK H b)(w:∀b∈fp,b<s.z){h':lj}(O:h'=pushCells (s.heap.push { cls:=.type "dict",data:=.dict #[] }) scope.names)(k:∀b o,s.heap.get? b=MW o->h'.get? b=MW o) :
 Inv (Nh X xs js scope s.z s H fp) [] (cσ (List.replicate xs.length MX) js σ) H { s with heap:=h' }:=by
 let ok:=I.ok
 let S:h'.Ns s.z λ_=>MX:=by rw[O];exact(Heap.Ns.new s.heap (.type "dict")).keeps (pushCells_keeps _ _)
 let f:CellsOk h' (s.z+1) (Lo (s.z+1) scope.names []):=by
  have:=cellsFrom_ok scope.names (s.heap.push { cls:=.type "dict",data:=.dict #[] }) (s.z+1) [] #[λ_ _ x=>(nomatch x),List.Pairwise.nil] (by rw[Li];exact Jo _)
  rw[Li]at this
  rw[O];exact this
 let cl:∀{y:Str}{a:k_},(dW scope.names X.env).lookup y=MW a->X.env.cells.lookup y=MW a:=λe=>ph (c.cells ok) e
 let A:∀{y:Str}{a:k_},X.env.cells.lookup y=MW a->a<s.z:=λe=>by let[v,z]:=I.cell _ _ e;exact z.lt
 let d:∀{y:Str}{a:k_},(j7 scope s.z X.env).cells.lookup y=MW a->((y,a)∈Lo (s.z+1) scope.names []/\s.z<a)\/X.env.cells.lookup y=MW a:=λ{y a} e=>by
  let e:(Lo (s.z+1) scope.names (dW scope.names X.env)).lookup y=MW a:=e
  rw[cz]at e
  rcases p7 e with z|⟨_,z⟩
  .exact .inl #[K1 z,(f.empty _ _ (K1 z)).2]
  .exact .inr (cl z)
 let free:∀{y:Str},(j7 scope s.z X.env).kindOf y=MW .cell\/(j7 scope s.z X.env).kindOf y=MW .free->scope.names.lookup y=MW .cell\/scope.names.lookup y=MW .free:=λ{y} e=>by
  rcases e with e|e
  .rcases c.kindOf ok e with z|⟨_,z⟩
   .exact .inl z
   .exact .inr z
  .rcases c.kindOf ok e with z|⟨z,_⟩
   .exact .inr z
   .cases z
 refine #[#[ok.mod,c.kind,ok.glob,ok.blt,Jo _,λy z a h1 h2=>?_,λy G=>?_,λy a h e=>?_,ok.hd,ok.frames,.inl rfl,λb g=>#[JH (w b g),λy a e=>?_],
  I.bs,K0 ok.bsz I.sz,λb o e g=>?_,λb g=>?_,I.stack,I.gM],8,I.bare,Un.kept k,?_,λy a e=>?_,I.hok.fresh (Jo _),λy a e=>?_,λp T=>absurd (show p∈([]:l')from T) (_),I.hok.kept k,?_]
 .rcases d h1 with⟨m1,l1⟩|P<;>rcases d h2 with⟨m2,l2⟩|Q
  .exact name_of_addr f.apart m1 m2
  .exact absurd (A Q) (Nat.not_lt.mpr (Mm l1))
  .exact absurd (A P) (Nat.not_lt.mpr (Mm l2))
  .exact ok.inj y z a P Q
 .show ∃c,(Lo (s.z+1) scope.names (dW scope.names X.env)).lookup y=MW c
  rw[cz,List.lookup_append]
  rcases free G with z|z
  .obtain⟨a,e⟩:=lE (n:=s.z+1) z
   exact #[a,by rw[e];rfl]
  .obtain⟨a,e⟩:=qo (env:=X.env) (K1 z)
   cases q:(Lo (s.z+1) scope.names []).lookup y with
   |none=>exact #[a,by rw[e];rfl]
   |some F=>exact #[F,rfl]
 .have hx:y∈xs:=by simpa[Nh]using h
  let e:(Lo (s.z+1) scope.names (dW scope.names X.env)).lookup y=MW a:=e
  rw[cz]at e
  rcases p7 e with z|⟨_,z⟩
  .exact Mm (f.empty _ _ (K1 z)).2
  .exact absurd hx (c.free' _ (xt z) rfl)
 .rcases d e with⟨_,l⟩|o
  .exact Nat.ne_of_gt (Nat.lt_trans (w b g) l)
  .exact(E b g).2.2.2.2.1 y a o
 .rcases(E b g).2.2.2.1 with z|z
  .exact ok.noex b o e z
  .exact absurd (JF (JF (Js e) ok.bsz) z) (KS _)
 .intro z
  rcases JU.mp (I.nG b z)with y|y
  .exact(E b g).2.1 y
  .exact(E b g).2.2.1 y
 .refine #[_,S,λi y v h1 h2 U=>?_]
  let h1:(xs++js.map λj=>(X.N[j]?).getD ("":Str))[i]?=MW y:=h1
  let h2:(List.replicate xs.length (MX:Option V)++js.map λj=>(σ[j]?).join)[i]?=MW (MW v):=h2
  by_cases hi:i<xs.length
  .rw[K7 ‹hi›,List.getElem?_replicate,NB hi]at h2
   cases h2
  .have t:y∉xs:=λG=>by
    rw[K4 ()]at h1
    let nd:=c.nd
    unfold cN at nd
    exact(List.nodup_append.mp nd).2.2 y G y (JN h1) rfl
   rw[K4 ()]at h1
   rw[K4 (by simp;omega)]at h2
   rw[List.length_replicate]at h2
   rw[JI]at h1 h2
   cases J:js[i-xs.length]? with
   |none=>rw[J]at h1;cases h1
   |some j=>
    rw[J]at h1 h2
    let e1:(X.N[j]?).getD ("":Str)=y:=Option.some.inj h1
    let e2:(σ[j]?).join=MW v:=Option.some.inj h2
    let e3:σ[j]?=MW (MW v):=by
     cases q:σ[j]? with
     |none=>rw[q]at e2;cases e2
     |some o=>rw[q]at e2;exact congrArg MW e2
    let W:j<X.N.length:=by rw[<-I.len];exact(Jp.mp e3).1
    let e4:X.N[j]?=MW y:=by
     rw[JB W]at e1 ⊢
     exact congrArg MW e1
    let Y:scope.names.lookup y≠MW .local:=by
     have:=c.js j (JN J)
     rw[e1]at this
     exact this
    let R:(j7 scope s.z X.env).kindOf y=MW .cell\/(j7 scope s.z X.env).kindOf y=MW .free:=by
     rcases U with z|z|z
     .rcases c.kindOf (C:=s.z) ok z with q|⟨q,_⟩
      .exact absurd q Y
      .cases q
     .exact .inl z
     .exact .inr z
    let x:(y,Mo)∈scope.names:=by
     rcases free R with z|z
     .exact absurd (c.cell _ (K1 z) rfl) t
     .exact K1 z
    let[a,ha]:=qo (env:=X.env) x
    let K:(j7 scope s.z X.env).cells.lookup y=MW a:=by
     show(Lo (s.z+1) scope.names (dW scope.names X.env)).lookup y=MW a
     rw[cz,List.lookup_append]
     cases q:(Lo (s.z+1) scope.names []).lookup y with
     |none=>rw[ha];rfl
     |some F=>exact absurd (c.cell _ (jy _ _ (K1 q)) rfl) t
    let B:Wg X.env.scope y:=by
     rcases c.out _ x rfl with z|z
     .exact .inr (.inl z)
     .exact .inr (.inr z)
    let[m,_,hl]:=I.loc
    let[u,r,l]:=hl j y v e4 e3 B
    exists u,r
    rcases l with⟨z,_⟩|⟨_,F,L,o,M,hd⟩
    .rcases c.out _ x rfl with q|q
     .have D:X.env.kindOf y=MW .local:=z
      rw[q]at D;cases D
     .have D:X.env.kindOf y=MW .local:=z
      rw[q]at D;cases D
    .refine .inr #[R,F,?_,o,k _ _ M,hd]
     have:=cl ha
     rw[L]at this
     cases this
     exact K
 .rcases d e with⟨m,_⟩|o
  .exact #[_,(f.empty _ _ m).1]
  .obtain⟨v,o,M,hd⟩:=I.cell y a o
   exact #[v,o,k _ _ M,hd]
 .rcases d e with⟨_,l⟩|o
  .exact I.hok.fresh (Mm l)
  .exact I.freeC y a o
 .show(cσ (List.replicate xs.length MX) js σ).length=(cN X xs js).length
  unfold cσ cN
  simp
end
def Rb(X:Cx)(a:m3)(t:TT):Prop:=∀(NK:l')(s:J4)(σ:L2.St)(H:Hp)(Q:Bool->Hp->Prop),Inv X NK σ H s->t σ H Q->
 Jq (Ju X.prog X.w) X.A (forIn a MY λc r=>if r=MY then do let ok <-isTrue c X.env (eval c X.env);pure (Mf ok)else pure (Mf r)) (TP X NK σ Q) X.xe s
theorem Bt{X:Cx}:Rb X [] (λ_ H Q=>Q MY H):=λNK s σ H Q I q=>wpAny_tests_nil #[H,I,q]
theorem A2{X:Cx}{c:l_}{t:TT}(h:PT X c t):Rb X [c] t:=λNK s σ H Q I q=>wpAny_tests_one (h NK s σ H Q I q)
def vX{prog:Jv}{w:JP}{A:JQ}{R:Result->J4->Prop}{s:J4}{d a b:l_}{f:m3}{scope:Lq}{i:Pos}{it g:J3}{env:Env}(J:Nat->J4->Prop)
 (step:∀n s,J n s->Jq (Ju prog w) A (MU it) (λr j=>match r with
  |none=>R (.ok .next) j
  |some v=>Jq (Ju prog w) A (LK a it v) (λ_ l=>Jq (Ju prog w) A (assign a env v) (λ_ o=>
   Jq (Ju prog w) A (forIn f MY λc r=>if r=MY then do let ok <-isTrue c env (eval c env);pure (Mf ok)else pure (Mf r)) (λok k=>
    if ok=MY then Jq (Ju prog w) A (eval d env) (λx p=>Jq (Ju prog w) A (call (.builtin "list.append") [g,x]) (λ_ q=>∃m,m<n/\J m q) OM p) OM k
    else ∃m,m<n/\J m k) OM o) OM l) OM j) OM s)
 (n:Nat) (h:J n s):L5 (Ju prog w) A (.compLoop (.ListComp d [#[a,b,f,0]] scope i) 0 it g env) R s:=by
 let no:∀{E:J3->J4->Prop} e t,OM e t->E e t:=λ_ _ z=>z.elim
 refine codeAny_loop rfl J (λn s y=>?_) n h
 show Jq _ _ (Sem.onRaise (compTurn (.ListComp d [#[a,b,f,0]] scope i) 0 it g env) (λx=>do noteFrame x env;theTreesLotGoes x)) _ _ s
 refine wpAny_noted ?_
 rw[compTurn_list]
 refine J0 (KN (J0 (Jx (step n s y) (λr j h1=>?_) no)))
 cases r with
 |none=>exact J5 h1
 |some v=>
  refine J0 (Jx h1 (λ_ l h2=>J0 (Jx h2 (λ_ o B=>J0 (Jx B (λok k u=>?_) no)) no)) no)
  cases ok with
  |false=>exact J5 #[8,u]
  |true=>exact J0 (J0 (Jx u (λx p C=>J0 (Jx C (λ_ q D=>J5 (J5 #[8,D])) no)) no))
abbrev Own:=V->Hp->L2.St->Prop
structure PJ(n:Nat)(g:TG)(own:Own):Prop where
 len:∀y H os,own y H os->os.length=n
 run:∀y H os0 tail os (Q:L2.St->Hp->Prop),os0.length=n->own y H os->Q (os++tail) H->g y (os0++tail) H Q
def C4(js:ma)(own:Own)(tc:TT)(te:TE)(σ:L2.St)(J:It)(H1:Hp)(Q:VK):Prop:=∀D,H1 D=MX->∃W:Nat->Nat->Hp->Prop,(∃m,W 0 m (upd H1 D (.lst [])))/\∀i m H,W i m H->
 (J.stop i H/\Q (.ref D) H)\/(J.go i H/\∀y c,J.yld i H y c->∃os,own y c os/\tc (cσ os js σ) c λb d=>if b=MY then
  te (cσ os js σ) d λv e=>∃xs,e D=MW (.lst xs)/\xs.length<JJ/\∃a,a<m/\W (i+1) a (upd e D (.lst (xs++[v])))else ∃a,a<m/\W (i+1) a d)
def qU(js:ma)(own:Own)(a:TI)(tc:TT)(te:TE):TE:=λσ H Q=>a σ H λJ H1=>C4 js own tc te σ J H1 Q
section
variable{X:Cx}{xs:nj}{tg:l_}{pos:Pos}{js:ma}{scope:Lq}{elt iter:l_}{ifs:m3}{te:TE}{tc:TT}{g:TG}{own:Own}{wi:TI}{NK:l'}{σ:L2.St}{H:Hp}{s:J4}{fp:m_}{it:k_}{tn:Nat->lj->Prop}{J:It}
def qi(c:Na X xs js scope)(hc:X.calm=MY)(hG:PJ xs.length g own)(hg:∀C s H fp,PG (Nh X xs js scope C s H fp) tg g)(ht:∀C s H fp,Rb (Nh X xs js scope C s H fp) ifs tc)(he:∀C s H fp,PE (Nh X xs js scope C s H fp) elt te)
 {R:J3->k_->Result->J4->Prop} {E:J3->J4->Prop} {Q:VK}
 (I:Inv X NK σ H s) (T:Turn X.prog X.w X.K tg J fp it tn) (st:tn 0 s.heap) (hf:∀b∈fp,cP X NK H b) (wc:C4 js own tc te σ J H Q)
 (hR:∀D C f F,Inv X NK σ f F->cP X NK f C->(∃m,F.heap.Ns C m)->Q (.ref D) f->R (.ref D) C (.ok .next) F) :
 Jq (Ju X.prog X.w) X.A (newList []) (λc0 d0=>Jq (Ju X.prog X.w) X.A (MP scope X.env.globals (dW scope.names X.env) [] X.env.qual MX .none (MW X.env)) (λN e0=>
  L5 (Ju X.prog X.w) X.A (.compStart (.ListComp elt [#[tg,iter,ifs,0]] scope pos) 0 (.ref it) c0 { N with scope:=relabel scope X.env }) (R c0 N.locals) e0) E d0) E s:=by
 let f0:∀b∈fp,b<s.z:=λb a=>let⟨o,e,_⟩:=T.obj 0 _ st b a;Js e
 let hD:H s.z=MX:=I.hok.fresh (Jo _)
 refine Kf (oY ?_)
 generalize hh:s.heap.push { cls:=.type "list",dict:=MX,data:=.seq ([]:List J3).toArray }=h
 generalize g0:pushCells (({ s with heap:=h }:J4).heap.push { cls:=.type "dict",data:=.dict #[] }) scope.names=j
 let k3:∀b o,s.heap.get? b=MW o->h.get? b=MW o:=λb o e=>by rw[<-hh];exact J6 _ e
 let I3:Inv X NK σ (upd H s.z (.lst [])) { s with heap:=h }:=by
  refine I.laid (t':=s.toks) k3 (Jo _) ?_
  exists Kh _,[],0,.nil
  rw[<-hh]
  exact Jt _ rfl
 let k:∀b∈fp,cP X NK (upd H s.z (.lst [])) b:=λb a=>#[by rw[ay (JH (f0 b a))];exact(hf b a).1,(hf b a).2]
 let o0:h.objs.size=s.z+1:=by rw[<-hh,Li]
 let h0:∀b∈fp,b<h.objs.size:=λb a=>by rw[o0];exact KL (f0 b a)
 let k4:∀b o,h.get? b=MW o->j.get? b=MW o:=λb o e=>by rw[<-g0];exact pushCells_keeps _ _ b o (J6 _ e)
 let I4:=kY c I3 k h0 (h':=j) g0.symm k4
 obtain⟨W,⟨m0,w0⟩,i0⟩:=wc _ hD
 let PY:tn 0 j:=T.keep 0 _ _ st λb a o e=>k4 b o (k3 b o e)
 generalize hX:Nh X xs js scope h.objs.size { s with heap:=h } (upd H s.z (.lst [])) fp=X' at I4
 let P:∀{pins':l'}{f:Hp}{G:L2.St}{F:J4},Inv X' [] G f F->(∀b∈fp,f b=MX)->∀b∈fp,cP X' [] f b:=λ{pins' f G F} J' hn b a=>by
  subst hX
  let[a1,a2]:=J'.ok.exf b a
  exact #[hn b a,a1,J'.ok.exfs b a,.inl a,a2,λp hp=>absurd (show p∈([]:l')from hp) (_)]
 let O:L5 (Ju X.prog X.w) X.A (.compLoop (.ListComp elt [#[tg,iter,ifs,0]] scope pos) 0 (.ref it) (.ref s.z) (j7 scope h.objs.size X.env)) (R (.ref s.z) h.objs.size)
  { s with heap:=j }:=by
  refine vX (λn F=>∃i os f,os.length=xs.length/\Inv X' [] (cσ os js σ) f F/\tn i F.heap/\(∀b∈fp,f b=MX)/\W i n f) ?_ m0 #[0,_,_,by simp,I4,PY,λb a=>(k b a).1,w0]
  rintro n s5 ⟨i,os,H5,q0,I5,Ot,j0,w5⟩
  rcases i0 i n H5 w5 with⟨stop,q⟩|⟨go,step⟩
  .subst hX
   refine Jx (T.done (Nh X xs js scope h.objs.size { s with heap:=h } (upd H s.z (.lst [])) fp) rfl rfl rfl hc i [] s5 _ H5 OM I5 (P (pins':=[]) I5 j0) Ot stop) (λr s6 S=>?_) λ_ _ z=>z
   let[hr,I6]:=S
   subst hr
   refine hR _ _ H5 s6 (I3.pD I6.os I6.base I6.hok I6.bare λb a=>#[(k b a).2.2.2.1,(k b a).2.1,(k b a).2.2.2.2.1,(k b a).2.2.2.2.2]) (I3.sS (Jo _) I6.free) (let⟨m,hm,_⟩:=I6.loc;#[m,hm]) q
  .subst hX
   refine Jx (T.item (Nh X xs js scope h.objs.size { s with heap:=h } (upd H s.z (.lst [])) fp) rfl rfl rfl hc i [] s5 _ H5 OM I5 (P (pins':=[]) I5 j0) Ot go) (λr s6 U=>?_) λ_ _ z=>z
   let[u,hr,h6]:=U
   subst hr
   refine Jx h6 (λ_ s7 V=>?_) λ_ _ z=>z
   let[y,H7,I7,r7,y7,Oo,r0]:=V
   let s0:=I7.pinned (P (pins':=[]) I7 r0) (T.obj _ _ Oo)
   let[L,k0,q8]:=step y H7 y7
   let l8:=hG.len _ _ _ k0
   refine Jx (hg _ _ _ _ _ s7 _ H7 y u (λG f=>G=cσ L js σ/\f=H7) s0 r7 (hG.run y H7 os _ L _ q0 k0 #[8,rfl])) (λ_ s8 Y=>?_) λ_ _ z=>z
   let[b1,H8,I8,e8,t0]:=Y
   subst e8 t0
   refine Jx (ht _ _ _ _ _ s8 _ _ _ I8 q8) (λok s9 Z=>?_) λ_ _ z=>z
   let[H9,I9,q9]:=Z
   let back:∀{M:Nat}{l:Hp}{t:J4},Inv (Nh X xs js scope h.objs.size { s with heap:=h } (upd H s.z (.lst [])) fp) ([]++gF fp s7.heap) (cσ L js σ) l t->M<n->W (i+1) M l->
    ∃m,m<n/\∃i os f,os.length=xs.length/\Inv (Nh X xs js scope h.objs.size { s with heap:=h } (upd H s.z (.lst [])) fp) [] (cσ os js σ) f t/\tn i t.heap/\(∀b∈fp,f b=MX)/\W i m f:=λ{M l t} x B u0=>by
    refine #[M,B,i+1,L,l,l8,x.dS,T.keep _ _ _ Oo λb a o e=>(x.pin (b,o) (JL _ (JL _ (bF a e)))).1,λb a=>?_,u0]
    let[o',e,d]:=T.obj _ _ Oo b a
    exact(x.pin (b,o') (JL _ (JL _ (bF a e)))).2.1
   cases ok with
   |false=>
    rw[NA JO]at q9 ⊢
    let[M,B,w9]:=q9
    exact back I9 B w9
   |true=>
    rw[NB rfl]at q9 ⊢
    refine Jx (he _ _ _ _ _ s9 _ _ _ I9 q9) (λv t a0=>?_) λ_ _ z=>z
    let[vv,l,x,v0,ys,l0,n0,x0]:=a0
    refine Jx (mQ (X:=(Nh X xs js scope h.objs.size { s with heap:=h } (upd H s.z (.lst [])) fp)) _ t _ l (.ref s.z) [vv] (.ref s.z) [v] (λ_ f=>∃M,M<n/\W (i+1) M f) x rfl (.cons v0 .nil) #[_,ys,vv,8,8,l0,n0,x0]) (λ_ c1 b0=>?_) λ_ _ z=>z
    let[_,d1,y0,_,M,B,z0]:=b0
    exact back y0 B z0
 exact codeAny_compStart_list O (T.self X.A 0 _ _ _ PY O)
def BN(c:Na X xs js scope)(k:X.calm=MY)(hi:PI X tg iter wi)(l:PJ xs.length g own)(n:∀C s H fp,PG (Nh X xs js scope C s H fp) tg g)(ht:∀C s H fp,Rb (Nh X xs js scope C s H fp) ifs tc)(he:∀C s H fp,PE (Nh X xs js scope C s H fp) elt te)(hs:∀x,K6 iter X.env x=pure x:=by intro _;rfl) : PE X (.ListComp elt [#[tg,iter,ifs,0]] scope pos) (qU js own wi tc te):=by intro NK s σ H Q I h;rw[eval_ListComp];refine wpAny_comprehension_free (use:=MX) rfl hs (c.B3 I.ok) c.kind c.names (Nf (hi NK s σ H _ I h) λv E h1=>Nf h1 λp F a=>?_);let[it,fp,tn,J,G,e,r,T,st,t,w]:=a;subst e;refine qi (R:=λi C=>compPost (Ju X.prog X.w) X.A X.xe MX (EP X NK σ Q) i C) c k l n ht he r T st t w λD C u y z f d q=>?_;let[m,B]:=d;exact #[m,B,λK j=>#[.ref D,u,z.turned (t':=y.toks) (λb o ne e=>j.extBut b o ne e) f.1 f.2.1 f.2.2.2.1 f.2.2.2.2.1 f.2.2.2.2.2,8,q]]
def AN{i:Nat}{y:Str}{l j:Pos}(c:Na X xs js scope)(E:X.calm=MY)(F:X.N.Nodup)(hi:PI X tg iter wi)(G:PJ xs.length g own)(K:∀C s H fp,PG (Nh X xs js scope C s H fp) tg g)(ht:∀C s H fp,Rb (Nh X xs js scope C s H fp) ifs tc)(he:∀C s H fp,PE (Nh X xs js scope C s H fp) elt te)(L:X.N[i]?=MW y)(hl:X.env.scope.names.lookup y=MW .local)
 (p:LW (.ListComp elt [#[tg,iter,ifs,0]] scope pos) (MW (.Name y l)) j.line X.env=pure MY) (hs:∀x,K6 iter X.env x=pure x:=by intro _;rfl) :
 PS X (.Assign [.Name y l] (.ListComp elt [#[tg,iter,ifs,0]] scope pos) j) (FL (qU js own wi tc te) (f9 i)):=by
 intro NK s σ H B I h
 rw[exec_Assign_Name_used _ _ _ _ p]
 refine J0 (KN (J0 ?_))
 show Jq _ X.A (do let _ <-comprehension (.ListComp elt [⟨tg,iter,ifs,0⟩] scope pos) scope X.env _ (newList []) MZ (eval iter X.env) (MW (assign (.Name y l) X.env))) _ _ s
 refine J0 (Jx (wpAny_comprehension_free (use:=MW (assign (.Name y l) X.env)) (Q:=λ_ n=>SP X NK B .next n) rfl hs (c.B3 I.ok) c.kind c.names
  (Nf (hi NK s σ H _ I h) λv s1 h1=>Nf h1 λM s2 z=>?_)) (λ_ n O=>J5 (J5 O)) λ_ _ e=>e)
 let[it,fp,tn,J,H2,e,P,T,st,S,w]:=z
 subst e
 refine qi (R:=λr C=>compPost (Ju X.prog X.w) X.A X.xe (MW (assign (.Name y l) X.env)) (λ_ n=>SP X NK B .next n) r C) c E G K ht he P T st S w λD C U n V k d q=>?_
 let[m,W]:=d
 show Jq _ X.A (assign (.Name y l) X.env (.ref D)) _ _ _
 refine wpAny_assign_Name (mW V F L (.inl hl) (v:=.ref D) rfl (λY Z f=>?_) (.inr hl))
 let[a,sb,ha]:=f
 let t:C≠a:=by
  rcases ha with z|z
  .rw[z];exact k.2.1
  .exact λe=>k.2.2.2.2.1 y a z e.symm
 refine #[m,W.sameBut sb t,λh' u=>?_]
 exact #[_,U,Z.turned (t':=Y.toks) (λb o ne e=>u.extBut b o ne e) k.1 k.2.1 k.2.2.2.1 k.2.2.2.2.1 k.2.2.2.2.2,q]
end
inductive QF where
 |one|many (n:Nat)
def rS(K:J1):QF->Own
 |.one=>λy _ os=>os=[MW y]
 |.many n=>λy H os=>∃a xs,y=.ref a/\Nl K H a xs/\xs.length=n/\os=xs.map MW
theorem yR{K:J1}:PJ 1 (f9 0) (rS K .one):=#[λ_ _ os h=>by rw[h];rfl,λy H b a os Q hl c q=>by
 let[o,8]:=vy hl
 rw[show os=[MW y]from c]at q;exact q]
theorem zB{K:J1}:PJ 2 (FG K 2 (o8 (f9 0) (o8 (f9 1) DR))) (rS K (.many 2)):=#[λ_ _ os z=>by
 let[a,xs,_,_,hl,e]:=z
 rw[e];simpa using hl,λy H c b os Q hl z q=>by
 let[a,xs,e,d,hx,f]:=z
 let[o,g,8]:=vm hl
 let[u,v,8]:=vm hx
 rw[f]at q;exact #[a,_,e,d,hx,u,7,v,7,8,q]]
def yC:QF->D->DS->Prop
 |.one,d,os=>os=[MW d]
 |.many n,d,os=>∃a,d=.tup a/\a.length=n/\os=a.map MW
def cδ(os:DS)(js:ma)(δ:DS):DS:=os++js.map λj=>(δ[j]?).join
def kq{K:J1}{H:Hp}{δ os:DS}{σ us:L2.St}{js:ma}(hs:Slots K H δ σ)(r:Slots K H os us):Slots K H (cδ os js δ) (cσ us js σ):=by
 refine #[by simp[cδ,cσ,r.len],λi e q=>?_];unfold cδ at q;unfold cσ;by_cases hi:i<os.length
 .rw[K7 hi]at q;rw[K7 (by rw[<-r.len];exact hi)];exact r.at' i e q
 .rw[K4 ()]at q;rw[K4 (by rw[<-r.len];omega),<-r.len];rw[JI]at q ⊢;cases a:js[i-os.length]? with
  |none=>rw[a]at q;cases q
  |some j=>
   rw[a]at q
   let e2:(δ[j]?).join=MW e:=Option.some.inj q
   let e3:δ[j]?=MW (MW e):=by
    cases z:δ[j]? with
    |none=>rw[z]at e2;cases e2
    |some o=>rw[z]at e2;exact congrArg MW e2
   let[b,e4,c]:=hs.at' j e e3
   exact #[b,by rw[show(MW j).map (λj=>(σ[j]?).join)=MW ((σ[j]?).join)from rfl,e4];rfl,c]
def jv{K:J1}{H:Hp}{a:ox}{xs:n7}(r:aC K H a xs):Slots K H (a.map MW) (xs.map MW):=by
 refine #[by simp[r.length],λi d e=>?_];rw[JI]at e ⊢;cases q:a[i]? with
 |none=>rw[q]at e;cases e
 |some b=>
  rw[q]at e;cases e
  let[x,e1,e2]:=r.get q
  exact #[x,by rw[e1];rfl,e2]
def qF{K:J1}{H:Hp}{tk:QF}{d:D}{v:V}{os:DS}(r:Rep K H d v)(h:yC tk d os):∃us,rS K tk v H us/\Slots K H os us:=by
 cases tk with
 |one=>
  rw[show os=[MW d]from h]
  exact #[[MW v],8,jv (.cons r .nil)]
 |many n=>
  let[e,8,hl,8]:=h
  rw[Rep]at r
  let[a,xs,8,c,b]:=r
  exact #[_,#[a,xs,8,c,by rw[<-b.length];exact hl,rfl],jv b]
def cT:OL:=λ_ M Q=>Q MY M
def uW(I:RE)(tk:QF)(js:ma)(tc:OL)(te:TD)(δ:DS)(f:MH)(Q:DK):Prop:=I.n<=1000000/\∀p,f p=MX->∃W:Nat->ox->MH->Prop,W 0 [] (av f p (.lst []))/\(∀i a M,i<=I.n->W i a M->I.C M)/\
 (∀i a d M,i<I.n->I.item i=MW d->W i a M->∃os,yC tk d os/\tc (cδ os js δ) M λb g=>if b=MY then te (cδ os js δ) g λe h=>∃c,Sub c h/\c p=MW (.lst a)/\W (i+1) (a++[e]) (av c p (.lst (a++[e])))else ∃c,Sub c g/\W (i+1) a c)/\∀a M,W I.n a M->Q (.ref p) M
def iZ(a:Ou)(tk:QF)(js:ma)(tc:OL)(te:TD):TD:=λδ M Q=>a δ M λI b=>uW I tk js tc te δ b Q
section
variable{X:Cx}{K:J1}
def m8{A:Ou}{tk:QF}{js:ma}{tc:OL}{te:TD}{σ:L2.St}{H:Hp}{Q:VK}(h:lift K (iZ A tk js tc te) σ H Q):qU js (rS K tk) (lU K A) (liftT K tc) (lift K te) σ H Q:=by
 let[δ,M,R,hs,L,q,s]:=h;refine #[δ,M,_,hs,L,q,λI M1 H1 J g1 B t w p x=>?_];let[N,t]:=t;let[W,O,hC,l,done]:=t p (B.fresh x);refine #[λi m j=>m=I.n-i/\i<=I.n/\Nb K H1 j/\∃c M,c.length<=i/\Nc K j M/\W i c M,#[I.n,by simp,Kh _,.new x,[],_,Jo _,B.mB x .nil,O],?_];rintro i m j ⟨rfl,hi,f,c,k,hl,o,w2⟩;by_cases a:i<I.n
 .refine .inr #[w.go i j k a f o (hC _ _ _ hi w2),λv P S=>?_];let[y,T,d,U,rd]:=w.yld i j k v P a f o (hC _ _ _ hi w2) S;let[os,V,Y]:=l i c d k a U w2;let[us,Z,su]:=qF rd V;let C:=kq (js:=js) (hs.mono ((g1.trans f).trans y)) su;refine #[us,Z,cδ os js δ,k,_,C,T,Y,λb M4 H4 z D r=>?_];cases b with
  |false=>
   rw[NA JO]at r ⊢
   let[M5,s5,w5]:=r
   exact #[I.n-(i+1),(),8,a,(f.trans y).trans z,c,M5,(),D.sub s5,w5]
  |true=>
   rw[NB rfl]at r ⊢
   refine #[cδ os js δ,M4,_,C.mono z,D,r,λe M' u H5 g5 r5 E g=>?_]
   let[M6,F,e6,w6]:=g
   let[zs,hx,G]:=(E.sub F) _ _ e6
   refine #[zs,hx,?_,I.n-(i+1),(),8,a,(((f.trans y).trans z).trans g5).trans (.lst hx),c++[e],_,by simp;omega,(E.sub F).yJ hx (G.append (.cons r5 .nil)),w6]
   rw[<-G.length]
   exact Nat.lt_of_le_of_lt hl (JF a (K0 N ⋯))
 .obtain rfl:i=I.n:=()
  exact .inl #[w.stop j k f o (hC _ _ _ hi w2),s _ _ _ _ (g1.trans f) (by rw[Rep]) o (done c k w2)]
variable{xs:nj}{tg:l_}{pos:Pos}{js:ma}{scope:Lq}{elt iter:l_}{ifs:m3}{te:TD}{tc:OL}{g:TG}{tk:QF}{wd:Ou}
namespace Zq
@[scoped irreducible]def _root_.SD.DTs(X:Cx)(ifs:m3)(t:OL):Prop:=Rb X ifs (liftT X.K t)
end Zq
theorem cw:DTs X [] cT:=λNK s σ H Q I a=>by let[δ,M,R,hs,c,q,b]:=a;exact(Bt NK s σ H Q I (b _ _ _ .refl c q))
theorem fy{c:l_}{t:OL}(h:DT X c t):DTs X [c] t:=A2 h
theorem tN(c:Na X xs js scope)(a:X.calm=MY)(hi:DI X tg iter wd)(b:PJ xs.length g (rS X.K tk))(d:∀C s H fp,PG (Nh X xs js scope C s H fp) tg g)(ht:∀C s H fp,DTs (Nh X xs js scope C s H fp) ifs tc)(he:∀C s H fp,DE (Nh X xs js scope C s H fp) elt te) (hs:∀x,K6 iter X.env x=pure x:=by intro _;rfl):DE X (.ListComp elt [#[tg,iter,ifs,0]] scope pos) (iZ wd tk js tc te):=aQ (BN (te:=lift X.K te) (tc:=liftT X.K tc) c a hi b d ht he hs) λ_ _ _ h=>m8 h
theorem Cr(i:Nat){y:Str}{h b:Pos}(j:X.N.Nodup)(c:Na X xs js scope)(k:X.calm=MY)(hi:DI X tg iter wd)(l:PJ xs.length g (rS X.K tk))(m:∀C s H fp,PG (Nh X xs js scope C s H fp) tg g)(ht:∀C s H fp,DTs (Nh X xs js scope C s H fp) ifs tc)(he:∀C s H fp,DE (Nh X xs js scope C s H fp) elt te) (n:X.N[i]?=MW y:=by rfl) (hl:X.env.scope.names.lookup y=MW .local:=by rfl) (f:LW (.ListComp elt [#[tg,iter,ifs,0]] scope pos) (MW (.Name y h)) b.line X.env=pure MY:=by rfl) (hs:∀x,K6 iter X.env x=pure x:=by intro _;rfl) : DSt X (.Assign [.Name y h] (.ListComp elt [#[tg,iter,ifs,0]] scope pos) b) (eU (iZ wd tk js tc te) (aR i)):=b8 (AN (te:=lift X.K te) (tc:=liftT X.K tc) c k j hi l m ht he n hl f hs) λE σ H e=>by let[δ,M,hs,a,B,ok,q]:=e;exact(m8 #[δ,M,_,hs,a,q,λd t v H1 g1 o p r=>ok.nx _ _ _ _ g1 ((hs.mono g1).set o i) p r])
def comp_map{I:RE}{tk:QF}{js:ma}{te:TD}{δ:DS}{b:MH}{Q:DK}(f:Nat->D)(j:I.n<=1000000)(hC:∀p a,b p=MX->I.C (av b p (.lst a))) (h:∀i d M,i<I.n->I.item i=MW d->Sub b M->∃os,yC tk d os/\∀K:DK,(∀c,Sub M c->K (f i) c)->te (cδ os js δ) M K) (l:∀p,b p=MX->Q (.ref p) (av b p (.lst ((JM I.n).map f)))):uW I tk js cT te δ b Q:=by
 refine #[j,λp e=>#[λi a M=>a=(JM i).map f/\M=av b p (.lst a),#[8,rfl],?_,?_,?_]]
 .rintro i a M _ ⟨_,rfl⟩;exact hC p a e
 .rintro i a d M hi hd ⟨rfl,rfl⟩;let[os,m,k]:=h i d _ hi hd (.new e .refl);exists os,m;unfold cT;refine mw (k _ ?_);exact λc o=>#[_,o,aj,by rw[List.range_succ,Kr];rfl,by rw[eG]]
 .rintro a M ⟨rfl,rfl⟩;exact l p e
end
def Ga(X:Cx)(xs:nj)(js:ma)(scope:Lq):Bool:=
 scope.kind==.function&&scope.names.all (λy=>(y.2 != .cell||xs.contains y.1)&&(y.2 != .free||!xs.contains y.1))&&scope.names.all (λy=>y.2 != .local||scope.names.lookup y.1==MW .local)&&xs.all (λx=>scope.names.lookup x==MW .local||scope.names.lookup x==MW .cell) &&
  scope.names.all (λy=>y.2 != .free||(X.env.kindOf y.1==MW .cell||X.env.kindOf y.1==MW .free))&&decide (cN X xs js).Nodup&&js.all (λj=>scope.names.lookup ((X.N[j]?).getD ("":Str)) != MW .local)
def Na.of{X:Cx}{xs:nj}{js:ma}{scope:Lq}(h:Ga X xs js scope=MY):Na X xs js scope:=by
 unfold Ga at h;simp only[Kq]at h;obtain⟨⟨⟨⟨⟨⟨h1,h2⟩,c⟩,d⟩,e⟩,f⟩,g⟩:=h;refine #[‹h1›,λy a i=>?_,λy a b=>?_,λy a hl=>?_,λx hx=>?_,λy a b=>?_,NF f,λj k=>?_]
 .have:=List.all_eq_true.mp h2 y a;rw[i]at this;simpa using this
 .have:=List.all_eq_true.mp h2 y a;rw[b]at this;simpa using this
 .have:=List.all_eq_true.mp c y a;rw[hl]at this;simpa using this
 .have:=List.all_eq_true.mp d x hx;simpa using this
 .have:=List.all_eq_true.mp e y a;rw[b]at this;simpa using this
 .have:=List.all_eq_true.mp g j k;simpa using this
abbrev Rw:=DS->MH->(mu->MH->Prop)->Prop
def uq(K:J1)(t:Rw):TO:=λσ H Q=>∃δ M R,Slots K H δ σ/\Nc K H M/\t δ M R/\∀o b a,Nb K H a->Nc K a b->R o b->Q o a
def Ap:Rw:=λ_ M Q=>Q MX M
def DF(t:TD):Rw:=λδ M Q=>t δ M λx a=>∃i,x=.int i/\Q (MW i) a
def cutD(xs:ox)(lo hi:mu):ox:=(xs.drop (HT.sIx xs.length 0 lo)).take (HT.sIx xs.length xs.length hi-HT.sIx xs.length 0 lo)
def aC.cut{K:J1}{H:Hp}{a:ox}{xs:n7}(h:aC K H a xs)(lo hi:mu):aC K H (cutD a lo hi) (pd xs lo hi):=by unfold cutD pd;rw[h.length];exact(h.drop _).take _
section
variable{X:Cx}{e a:l_}{te:TD}{tl th:Rw}{lo hi:Option l_}{pos p2:Pos}
theorem zk{e:Option l_}{t t':TO}(h:PO X e t)(k:∀σ H Q,t' σ H Q->t σ H Q):PO X e t':=λNK s σ H Q I q=>h NK s σ H Q I (k _ _ _ q)
theorem nR:PO X MX (uq X.K Ap):=zk BK λσ H Q b=>by let[δ,M,R,hs,a,q,c]:=b;exact(c _ _ _ .refl a q)
theorem ou(h:DE X e te):PO X (MW e) (uq X.K (DF te)):=zk (Bw h) λσ H Q b=>by let[δ,M,R,hs,a,q,c]:=b;exact(#[δ,M,_,hs,a,q,λd m v H1 g1 f g j=>by
 let[i,k,l]:=j
 subst k
 rw[Rep]at f
 exact #[i,f,c _ _ _ g1 g l]])
end
section
variable{X:Cx}{x y z:Str}{px py pz pt pos:Pos}{kt:Nat}{js:ma}{scope:Lq}{elt iter:l_}{ifs:m3}{te:TD}{tc:OL}{wd:Ou}{xs:nj}
def jJ(c:Na X xs js scope)(i:Nat)(hx:xs[i]?=MW x){C:k_}{s:J4}{H:Hp}{fp:m_}:PG (Nh X xs js scope C s H fp) (.Name x px) (f9 i):=by
 let hi:i<xs.length:=(Jp.mp hx).1;let a:=JN hx
 let hl:Loc (Nh X xs js scope C s H fp).env.scope x:=by
  rcases c.own x a with z|z
  .exact .inl (eV ⋯ z)
  .exact .inr (eV ⋯ z)
 refine tU (i:=i) c.nd ?_ hl (.inl (by show xs.contains x=MY;simpa using a));show(xs++js.map λj=>(X.N[j]?).getD ("":Str))[i]?=MW x;rw[K7 hi];exact hx
theorem t8(c:Na X [x,y] js scope)(a:X.calm=MY){C:k_}{s:J4}{H:Hp}{fp:m_}:PG (Nh X [x,y] js scope C s H fp) (.Tuple [.Name x px,.Name y py] kt pt) (FG X.K 2 (o8 (f9 0) (o8 (f9 1) DR))):=wR (X:=Nh X [x,y] js scope C s H fp) a (lR (jJ c 0 rfl) (lR (jJ c 1 rfl) tG)) rfl rfl
theorem bU(c:Na X [x] js scope)(a:X.calm=MY)(hi:DI X (.Name x px) iter wd)(ht:∀C s H fp,DTs (Nh X [x] js scope C s H fp) ifs tc)(he:∀C s H fp,DE (Nh X [x] js scope C s H fp) elt te) (hs:∀x,K6 iter X.env x=pure x:=by intro _;rfl):DE X (.ListComp elt [#[.Name x px,iter,ifs,0]] scope pos) (iZ wd .one js tc te):=tN c a hi yR (λ_ _ _ _=>jJ c 0 rfl) ht he hs
theorem lZ(c:Na X [x,y] js scope)(a:X.calm=MY)(hi:DI X (.Tuple [.Name x px,.Name y py] kt pt) iter wd)(ht:∀C s H fp,DTs (Nh X [x,y] js scope C s H fp) ifs tc)(he:∀C s H fp,DE (Nh X [x,y] js scope C s H fp) elt te) (hs:∀x,K6 iter X.env x=pure x:=by intro _;rfl):DE X (.ListComp elt [#[.Tuple [.Name x px,.Name y py] kt pt,iter,ifs,0]] scope pos) (iZ wd (.many 2) js tc te):=tN c a hi zB (λ_ _ _ _=>t8 c a) ht he hs
theorem iR(i:Nat){v:Str}{pv a:Pos}(d:X.N.Nodup)(c:Na X [x] js scope)(e:X.calm=MY)(hi:DI X (.Name x px) iter wd)(ht:∀C s H fp,DTs (Nh X [x] js scope C s H fp) ifs tc)(he:∀C s H fp,DE (Nh X [x] js scope C s H fp) elt te) (f:X.N[i]?=MW v:=by rfl) (hl:X.env.scope.names.lookup v=MW .local:=by rfl) (b:LW (.ListComp elt [#[.Name x px,iter,ifs,0]] scope pos) (MW (.Name v pv)) a.line X.env=pure MY:=by rfl) (hs:∀x,K6 iter X.env x=pure x:=by intro _;rfl) : DSt X (.Assign [.Name v pv] (.ListComp elt [#[.Name x px,iter,ifs,0]] scope pos) a) (eU (iZ wd .one js tc te) (aR i)):=Cr i d c e hi yR (λ_ _ _ _=>jJ c 0 rfl) ht he f hl b hs
end
section
variable{prog:Jv}{w:JP}{A:JQ}{E:J3->J4->Prop}{s:J4}
def xn{N L:String}{op:CmpOp}{a b:J3}{c:Bool}{Q:J3->J4->Prop}(n:(N="max"/\L="max.loop"/\op=.Gt)\/(N="min"/\L="min.loop"/\op=.Lt))(hh:A.handled=MX)
 (K:∀(t:J4)(W:J3->J4->Prop)(E':J3->J4->Prop),(∀x o,s.heap.get? x=MW o->t.heap.get? x=MW o)->W (.bool c) t->Jq (Ju prog w) A.in1 (richCompare op b a) W E' t)
 (h:∀h' tk,(∀x o,s.heap.get? x=MW o->h'.get? x=MW o)->Q (if c=MY then b else a) { s with heap:=h',toks:=tk }) :
 Jq (Ju prog w) A (call (.builtin N) [a,b]) Q E s:=by
 rcases n with⟨rfl,J,rfl⟩|⟨rfl,J,rfl⟩
 let nm:(toString "max"++toString ".loop":String)=L:=by rw[J];decide
 let pl:=F.plain_max_loop
 let z:=F.entry_max_loop
 refine call_function_tree F.kind_max F.plain_max F.entry_max (F.args_max2 _ _) ?_
 rotate_left
 let nm:(toString "min"++toString ".loop":String)=L:=by rw[J];decide
 let pl:=F.plain_min_loop
 let z:=F.entry_min_loop
 refine call_function_tree F.kind_min F.plain_min F.entry_min (F.args_min2 _ _) ?_
 all_goals
  rw[<-J]at pl z
  show Jq _ A.in1 (Builtin.Builtins.bindParams _ ["key","default"] 0 #[[],[]] >>= λ_=>_) _ _ s
  refine J0 (wpAny_of_eq (a:=[MX,MX]) rfl ?_)
  show Jq _ A.in1 (newTuple [a,b] >>= λ_=>_) _ _ s
  refine J0 (Kf ?_)
  generalize e1:s.heap.push { cls:=.type "tuple",dict:=MX,data:=.seq ([a,b]:List J3).toArray }=h1
  let k1:∀x o,s.heap.get? x=MW o->h1.get? x=MW o:=λx o q=>by rw[<-e1];exact J6 _ q
  let X:h1.IsTuple s.z (List.toArray [a,b]):=by rw[<-e1];exact #[_,Jt _ rfl,8,0,rfl]
  let z1:h1.objs.size=s.z+1:=by rw[<-e1,Li]
  refine J0 (wpAny_pyIter_tuple (s:={ s with heap:=h1 }) X ?_)
  refine J0 (Kf ?_)
  dsimp only
  generalize Y:h1.objs.size=I
  generalize e2:h1.push _=h2
  let Z:∀x o,h1.get? x=MW o->h2.get? x=MW o:=λx o q=>by rw[<-e2];exact J6 _ q
  let hI:h2.IsTupleIter I s.z 0:=by rw[<-e2,<-Y];exact #[_,Jt _ rfl,8,rfl]
  let z2:h2.objs.size=I+1:=by rw[<-e2,Li,Y]
  generalize eS:h2.objs.size=S
  generalize e3:h2.push _=j
  let M:∀x o,h2.get? x=MW o->j.get? x=MW o:=λx o q=>by rw[<-e3];exact J6 _ q
  let hS:j.get? S=MW { cls:=.type "list",dict:=MX,data:=.seq #[] 0,slots:=#[] }:=by rw[<-e3,<-eS];exact Jt _ rfl
  let B:S≠I:=()
  let g:∀x o,s.heap.get? x=MW o->x≠I/\x≠S:=λx o q=>#[JH (JF (Js q) ()),JH (JF (Js q) ())]
  let C:j.IsTuple s.z (List.toArray [a,b]):=by
   let[o,q,r]:=X
   exact #[o,M _ _ (Z _ _ q),r]
  let O:j.IsTupleIter I s.z 0:=hI.at λo q=>M _ _ q
  let TI:s.z≠I:=()
  let TS:s.z≠S:=()
  let k:∀x o,s.heap.get? x=MW o->j.get? x=MW o:=λx o q=>M _ _ (Z _ _ (k1 _ _ q))
  rw[nm]
  refine J5 #[plainId_quiet pl _,?_]
  let f:∀(t:J4)(v:J3)(n:Nat),t.heap.IsTupleIter I s.z 2->t.heap.IsTuple s.z (List.toArray [a,b])->t.heap.get? S=MW { cls:=.type "list",dict:=MX,data:=.seq (List.toArray [v,v]) n,slots:=#[] }->
   (∃h' tk,t={ s with heap:=h',toks:=tk }/\∀x o,s.heap.get? x=MW o->h'.get? x=MW o)->v=(if c=MY then b else a)->L5 (Ju prog w) A (.builtin L #[[.ref I,.none,.ref S],[]]) (λr s'=>match r with|.ok (.ret v)=>Q v s'|.ok _=>False|.error e=>E e s') t:=by
   rintro t v n i2 tT lS ⟨h',tk,rfl,kt⟩ ev
   refine codeAny_builtin z ?_
   rw[Around.under_plainId pl _]
   show Jq _ A.in1 (seqItems? (.ref S) >>= λ_=>_) _ _ _
   refine J0 (MQ lS rfl ?_)
   show Jq _ A.in1 (tryCatch (MU (.ref I)) _ >>= λ_=>_) _ _ _
   refine J0 (wpAny_tryCatch (wpAny_pyNext_tuple_end (A:=A.in1) hh i2 tT (_) λu y=>?_))
   let P:u.get? S=MW _:=y _ _ B lS
   show Jq _ A.in1 (updateSeq S (λ_=>#[]) >>= λ_=>_) _ _ _
   refine J0 (wpAny_updateSeq P rfl (J0 (wpAny_letGo (J5 ?_))))
   show Q v _
   rw[ev]
   exact h _ _ λx o q=>(Kn _ _ (g x o q).2.symm).trans (y x o (g x o q).1 (kt x o q))
  refine codeAny_builtin z ?_
  rw[Around.under_plainId pl _]
  show Jq _ A.in1 (seqItems? (.ref S) >>= λ_=>_) _ _ _
  refine J0 (MQ (s:={ s with heap:=j }) hS rfl ?_)
  show Jq _ A.in1 (tryCatch (MU (.ref I)) _ >>= λ_=>_) _ _ _
  refine J0 (wpAny_tryCatch (wpAny_pyNext_tuple_item (s:={ s with heap:=j }) O C (x:=a) (_) λu i4 y=>?_))
  let D:u.get? S=MW _:=(y.2 _ B).trans hS
  let R:u.IsTuple s.z (List.toArray [a,b]):=by
   let[o,q,r]:=C
   exact #[o,(y.2 _ TI).trans q,r]
  show Jq _ A.in1 (updateSeq S (λ_=>(List.toArray [a,a])) >>= λ_=>_) _ _ _
  refine J0 (wpAny_updateSeq D rfl ?_)
  rw[nm]
  refine J5 #[plainId_quiet pl _,?_]
  generalize e5:u.update S _=l
  let T:∀x,x≠S->l.get? x=u.get? x:=λx q=>by rw[<-e5];exact Kn _ _ q.symm
  let i:∃n,l.get? S=MW { cls:=.type "list",dict:=MX,data:=.seq (List.toArray [a,a]) n,slots:=#[] }:=#[_,by rw[<-e5];exact KC _ D rfl]
  let[n5,i]:=i
  let i5:l.IsTupleIter I s.z 1:=i4.at λo q=>(T _ B.symm).trans q
  let G:l.IsTuple s.z (List.toArray [a,b]):=by
   let[o,q,r]:=R
   exact #[o,(T _ TS).trans q,r]
  let m:∀x o,s.heap.get? x=MW o->l.get? x=MW o:=λx o q=>(T _ (g x o q).2).trans ((y.2 _ (g x o q).1).trans (k x o q))
  refine codeAny_builtin z ?_
  rw[Around.under_plainId pl _]
  show Jq _ A.in1 (seqItems? (.ref S) >>= λ_=>_) _ _ _
  refine J0 (MQ (s:={ s with heap:=l }) i rfl ?_)
  show Jq _ A.in1 (tryCatch (MU (.ref I)) _ >>= λ_=>_) _ _ _
  refine J0 (wpAny_tryCatch (wpAny_pyNext_tuple_item (s:={ s with heap:=l }) i5 G (x:=b) (_) λU i6 V=>?_))
  let p:U.get? S=MW _:=(V.2 _ B).trans i
  let H:U.IsTuple s.z (List.toArray [a,b]):=by
   let[o,q,r]:=G
   exact #[o,(V.2 _ TI).trans q,r]
  let d:∀x o,s.heap.get? x=MW o->U.get? x=MW o:=λx o q=>(V.2 _ (g x o q).1).trans (m x o q)
  show Jq _ A.in1 (tryCatch (holding [b,b] (richCompare _ b a >>= λ_=>_)) _ >>= λ_=>_) _ _ _
  refine J0 (wpAny_tryCatch (Kl (J0 (K _ _ _ d ?_))))
  refine J0 (Kl (Le ?_))
  refine J0 (wpAny_letGo (J5 ?_))
  cases c with
  |true=>
   simp only[if_true]at f ⊢
   refine J0 (wpAny_updateSeq p rfl (J0 (wpAny_letGo ?_)))
   rw[nm]
   refine J5 #[plainId_quiet pl _,f _ b _ (i6.at λo q=>(Kn _ _ B).trans q) ?_ (KC _ p rfl) #[_,7,λx o q=>(Kn _ _ (g x o q).2.symm).trans (d x o q)] rfl]
   let[o,q,r]:=H
   exact #[o,(Kn _ _ TS.symm).trans q,r]
  |false=>
   simp only[JD,if_false]at f ⊢
   refine J0 (wpAny_letGo ?_)
   rw[nm]
   exact J5 #[plainId_quiet pl _,f _ a _ i6 H p #[_,7,d] rfl]
end
end SD
namespace HT
open PySem PyProof.Rows
def lexLe:ml->ml->Bool
 |[],[]=>MY
 |[],_::_=>MY
 |_::_,[]=>MZ
 |x::xs,y::ys=>if x=y then lexLe xs ys else decide (x<=y)
def ck:ml->ml->Bool
 |[],[]=>MZ
 |[],_::_=>MZ
 |_::_,[]=>MY
 |x::xs,y::ys=>if x=y then ck xs ys else decide (y<x)
def lD(k:Bool)(ns ms:ml):Bool:=bif k then ck ns ms else lexLe ns ms
def wo(k:Bool)(x y:Int)(xs a:ml):lD k (x::xs) (y::a)=if x=y then lD k xs a else bif k then decide (y<x)else decide (x<=y):=by cases k<;>rfl
def BZ{k:Bool}{ns ms:ml}{a b:Nat}(z:ns=[]\/ms=[])(h:ns.length+b=ms.length+a):lD k ns ms=bif k then decide (a>b)else decide (a<=b):=by
 let e:lD k ns ms=bif k then decide (ns.length>ms.length)else decide (ns.length<=ms.length):=by
  rcases z with rfl|rfl
  .cases k<;>cases ms<;>simp[lD,lexLe,ck]
  .cases k<;>cases ns<;>simp[lD,lexLe,ck]
 rw[e];cases k
 .exact decide_eq_decide.mpr ()
 .exact decide_eq_decide.mpr ()
def Bl(k:Bool)(A:JQ)(s:J4)(a:Int)(t:Tok)(c:Int)(u:Tok)(prog:Jv)(w:JP)(E:J3->J4->Prop)(Q:J3->J4->Prop)(h:Q (.bool (bif k then decide (c<a)else decide (a<=c))) s) : Jq (Ju prog w) A (richCompare (bif k then .Gt else .LtE) (.int a t) (.int c u)) Q E s:=by
 cases k
 .exact(PyProof.Rows.le_int h:Jq (Ju prog w) A (K8 .LtE (.int a t) (.int c u)) Q E s)
 .exact(PyProof.Rows.gt_int h:Jq (Ju prog w) A (K8 .Gt (.int a t) (.int c u)) Q E s)
section
open PySem.SeqAt
open PySem.AutoSeq1 (wpAny_loadPart')
open PySem.MeetsSeq PySem.MeetsSeq2 PySem.MeetsSeq3
theorem xS(k:Bool)(l b:k_)(items i:Array J3)(n n2:Nat)(U J:Option k_)(sl K:Array (Option J3))(ns ms:ml)(hi:L6 items.toList ns)(Q:L6 i.toList ms) :
 Meets ((bif k then LD.«tuple.__gt__» else LD.«tuple.__le__») #[[.ref l,.ref b],[]])
  (λ_ R s=>s.heap.get? l=MW { cls:=.type "tuple",dict:=U,data:=.seq items n,slots:=sl }/\s.heap.get? b=MW { cls:=.type "tuple",dict:=J,data:=.seq i n2,slots:=K }/\
   R (.ok (.ret (.bool (lD k ns ms)))) s):=
 .of_wp λprog w A R s h=>by
  let[H,g,d,I,os]:=s;let[hl,V,h]:=h
  let X:=AutoSeq1.sub_tuple_tuple
  let Y:items.size=ns.length:=by rw[<-hi.length];simp
  let Z:i.size=ms.length:=by rw[<-Q.length];simp
  let L:=wo k
  let M:=λns ms a b=>BZ (k:=k) (ns:=ns) (ms:=ms) (a:=a) (b:=b)
  let S:=λa t c u=>Bl k A.in1 #[H,g,d,I,os] a t c u prog w
  generalize lD k=f at h L M
  cases k
  all_goals
   dsimp only[cond_true,cond_false]at L M S ⊢
   wp_walk using wpAny_loadPart' hl,wpAny_loadPart' V,wpAny_forIn_list _ (λr b N=>b.1=MX/\N=#[H,g,d,I,os]/\∃(vs ws:List J3) (j m:ml),r=vs.zip ws/\
    L6 vs j/\L6 ws m/\j.length+i.size=m.length+items.size/\R (.ok (.ret (.bool (f j m)))) #[H,g,d,I,os]) _
   case turn=>
    rintro⟨y,x⟩ r b N ⟨B,rfl,vs,ws,j,m,p,C,D,o,v⟩
    cases C with
    |nil=>rw[List.zip_nil_left]at p;cases p
    |cons a t F=>
     cases D with
     |nil=>rw[List.zip_nil_right]at p;cases p
     |cons c u G=>
      rw[List.zip_cons_cons]at p
      injection p with O E
      injection O with W hx
      subst W hx
      rw[L]at v
      simp only[JE]at o
      let[e,he,z]:=qA A.in1 #[H,g,d,I,os] a t c u
      refine J0 (he prog w _ _ ?_)
      cases e with
      |true=>
       rw[NB (z.mp rfl)]at v
       wp_walk
       exact #[8,8,_,_,_,_,E,F,G,(),v]
      |false=>
       rw[NA (λq=>absurd (z.mpr q) JO)]at v
       let P:=S a t c u
       wp_walk using P
       exact #[7,‹v›]
   case fin=>
    rintro⟨b1,b2⟩ N ⟨B,rfl,vs,ws,j,m,p,C,D,o,v⟩
    simp only at B
    subst B
    let T:=M j m items.size i.size (by
     cases C with
     |nil=>exact .inl rfl
     |cons a t T=>
      cases D with
      |nil=>exact .inr rfl
      |cons c u hw=>
       rw[List.zip_cons_cons]at p
       cases p) o
    rw[T]at v
    wp_walk
    exact #[7,by simpa[Builtin.Tuple.tupleCompareSizes]using v]
   case h=>
    exact #[8,8,items.toList,i.toList,ns,ms,8,hi,Q,(),h]
end
section
variable{prog:Jv}{w:JP}{A:JQ}{E:J3->J4->Prop}{s:J4}
def ic(k:Bool){l b:k_}{items a:Array J3}{ns ms:ml}{Q:J3->J4->Prop}(hl:IsTup s.heap l items)(r:IsTup s.heap b a)(hi:L6 items.toList ns)(t:L6 a.toList ms)
 (o:A.units<Ky) (h:Q (.bool (lD k ns ms)) s):Jq (Ju prog w) A (K8 (bif k then .Gt else .LtE) (.ref l) (.ref b)) Q E s:=by
 obtain⟨⟨cls,u,data,sl⟩,f,p,n,hd⟩:=id hl
 obtain⟨⟨q,g,i,j⟩,c,d,n2,e⟩:=id r
 simp only at p hd d e
 subst p hd d e
 let m:=xS k l b items a n n2 u g sl j ns ms hi t
 let h:Value.bool (lD k ns ms)≠Value.notImplemented/\Q (.bool (lD k ns ms)) s:=#[(λx=>nomatch x),h]
 cases k
 .exact richCompare_meets_room (op:=.LtE) #[_,f,rfl] #[_,c,rfl] PySem.F.slot_tuple_le PySem.F.entry_tuple_le (PySem.F.args_tuple_le_2 _ _) m #[f,c,h] o
 .exact richCompare_meets_room (op:=.Gt) #[_,f,rfl] #[_,c,rfl] PySem.F.slot_tuple_gt PySem.F.entry_tuple_gt (PySem.F.args_tuple_gt_2 _ _) m #[f,c,h] o
end
end HT
namespace SD
open PySem PySem.Spec PyProof.Rows L2
section
variable{X:Cx}
theorem cG{K:J1}{H:Hp}:∀{ns:ml}{xs:n7},aC K H (ns.map D.int) xs->xs=ns.map V.int
 |[],xs,h=>by rw[L7,aC]at h;exact h
 |n::ns,xs,h=>by
  rw[J9,aC]at h
  let[x,r,8,h1,h2]:=h
  rw[Rep]at h1
  rw[h1,cG h2];rfl
def Dy(d:X.A.units<Ky):OR X (K8 .LtE) (λx y H Q=>∃a b ns ms,x=.ref a/\y=.ref b/\Nl X.K H a (ns.map V.int)/\Nl X.K H b (ms.map V.int)/\Q (.bl (HT.lexLe ns ms)) H):=by intro NK s σ H x y v u Q I e f h;let[a,b,ns,ms,8,8,ha,g,q]:=h;cases e;cases f;let[i,j,k,_]:=I.tuple ha;let[c,l,m,_]:=I.tuple g;exact HT.ic MZ k m (intsAre_of j) (intsAre_of l) d #[.bl (HT.lexLe ns ms),H,I,8,q]
def FD(d:X.A.units<Ky):OR X (K8 .Gt) (λx y H Q=>∃a b ns ms,x=.ref a/\y=.ref b/\Nl X.K H a (ns.map V.int)/\Nl X.K H b (ms.map V.int)/\Q (.bl (HT.ck ns ms)) H):=by intro NK s σ H x y v u Q I e f h;let[a,b,ns,ms,8,8,ha,g,q]:=h;cases e;cases f;let[i,j,k,_]:=I.tuple ha;let[c,l,m,_]:=I.tuple g;exact HT.ic MY k m (intsAre_of j) (intsAre_of l) d #[.bl (HT.ck ns ms),H,I,8,q]
def qg(f:Int->Int->Bool)(g:ml->ml->Bool):OU:=λx y M Q=>match x,y with
 |.int i,.int j=>True/\Q (.bl (f i j)) M
 |.tup a,.tup b=>∃ns ms,a=LG D.int ns/\b=LG D.int ms/\Q (.bl (g ns ms)) M
 |_,_=>False
def yc{op:CmpOp}{f:Int->Int->Bool}{g:ml->ml->Bool}(h1:O4 X (K8 op) (QJ (λ_ _=>True) λi j=>.bl (f i j))) (h2:OR X (K8 op) (λx y H Q=>∃a b ns ms,x=.ref a/\y=.ref b/\Nl X.K H a (ns.map V.int)/\Nl X.K H b (ms.map V.int)/\Q (.bl (g ns ms)) H)):O4 X (K8 op) (qg f g):=by
 refine jF (h1.or h2) λv u H Q c=>?_;let[x,y,M,R,e,h,a,q,d]:=c;unfold qg at q;split at q
 .exact .inl #[_,_,M,R,e,h,a,q,d]
 .obtain⟨ns,ms,rfl,rfl,q⟩:=q;rw[Rep]at e;let[p,xs,8,hx,l]:=e;obtain⟨m,o,rfl,k,n⟩:∃a xs,u=V.ref a/\Nl X.K H a xs/\aC X.K H (LG D.int ms) xs:=by rw[Rep]at h;exact h
  rw[cG l]at hx;rw[cG n]at k;exact .inr #[p,m,ns,ms,8,8,hx,k,d _ _ _ _ .refl (by rw[Rep]) a q]
 .exact q.elim
theorem cY(a:X.A.units+64<Ky):O4 X (K8 .Lt) (qg (λi j=>decide (i<j)) HT.lexLt):=yc He (D9 ())
theorem n8(a:X.A.units+64<Ky):O4 X (K8 .LtE) (qg (λi j=>decide (i<=j)) HT.lexLe):=yc Hh (Dy ())
theorem dI(a:X.A.units+64<Ky):O4 X (K8 .Gt) (qg (λi j=>decide (j<i)) HT.ck):=yc Hj (FD ())
def vh(d:X.calm=MY)(E:X.A.units+64<Ky):bo X (.builtin "max") (λxs H Q=>∃p q ns ms,xs=[.ref p,.ref q]/\Nl X.K H p (ns.map V.int)/\Nl X.K H q (ms.map V.int)/\Q (if HT.ck ms ns=MY then .ref q else .ref p) H):=by
 intro NK s σ H xs us Q I r f;let[p,q,ns,ms,e,g,h,k]:=f;subst e;let[u,v,8,i,j]:=vals2 r;cases i;cases j;let[l,m,n,_]:=I.tuple g;let[b,o,w,_]:=I.tuple h;refine xn (.inl #[8,8,rfl]) (c:=HT.ck ms ns) (I.ok.hd d) (λt F G a x=>?_) λJ L a=>#[_,H,I.kept a,?_,k]
 .obtain⟨y,z,b1⟩:=n;let[B,C,D]:=w;exact HT.ic MY (A:=X.A.in1) (s:=t) #[B,a _ _ C,D] #[y,a _ _ z,b1] (intsAre_of o) (intsAre_of m) (by show X.A.units+1<Ky;omega) x
 .cases HT.ck ms ns<;>rfl
def u9(d:X.calm=MY)(E:X.A.units+64<Ky):bo X (.builtin "min") (λxs H Q=>∃p q ns ms,xs=[.ref p,.ref q]/\Nl X.K H p (ns.map V.int)/\Nl X.K H q (ms.map V.int)/\Q (if HT.lexLt ms ns=MY then .ref q else .ref p) H):=by
 intro NK s σ H xs us Q I r f;let[p,q,ns,ms,e,g,h,k]:=f;subst e;let[u,v,8,i,j]:=vals2 r;cases i;cases j;let[l,m,n,_]:=I.tuple g;let[b,o,w,_]:=I.tuple h;refine xn (.inr #[8,8,rfl]) (c:=HT.lexLt ms ns) (I.ok.hd d) (λt F G a x=>?_) λJ L a=>#[_,H,I.kept a,?_,k]
 .obtain⟨y,z,b1⟩:=n;let[B,C,D]:=w;exact HT.l3 (A:=X.A.in1) (s:=t) #[B,a _ _ C,D] #[y,a _ _ z,b1] (intsAre_of o) (intsAre_of m) (by show X.A.units+1<Ky;omega) x
 .cases HT.lexLt ms ns<;>rfl
def zI:RC:=λc M Q=>match c with
 |[.int i,.int j]=>Q (.int (max i j)) M
 |[.tup a,.tup b]=>∃ns ms,a=LG D.int ns/\b=LG D.int ms/\Q (.tup (LG D.int (if HT.ck ms ns=MY then ms else ns))) M
 |_=>False
def CS:RC:=λc M Q=>match c with
 |[.int i,.int j]=>Q (.int (min i j)) M
 |[.tup a,.tup b]=>∃ns ms,a=LG D.int ns/\b=LG D.int ms/\Q (.tup (LG D.int (if HT.lexLt ms ns=MY then ms else ns))) M
 |_=>False
theorem ue(i:X.calm=MY)(r:X.A.units+64<Ky):cK X (.builtin "max") zI:=bN (bo.or (Fc i) (vh i r)) λvs H Q s=>by
 let[b,M,R,j,a,q,c]:=s;rcases b with _|⟨d,b⟩
 .exact JK q
 cases d<;>rcases b with _|⟨e,b⟩<;>try exact JK q
 all_goals (cases e<;>rcases b with _|⟨f,b⟩<;>try exact JK q)
 .exact .inl #[_,M,R,j,a,q,c]
 .obtain⟨ns,ms,rfl,rfl,q⟩:=q;let[v,u,8,k,l]:=dQ j;rw[Rep]at k;let[p,xs,8,hx,m]:=k;obtain⟨t,w,rfl,n,o⟩:∃a xs,u=V.ref a/\Nl X.K H a xs/\aC X.K H (LG D.int ms) xs:=by rw[Rep]at l;exact l
  let g:=hx;let h:=n;rw[cG m]at g;rw[cG o]at h;refine .inr #[p,t,ns,ms,8,g,h,c _ _ _ _ .refl ?_ a q];by_cases z:HT.ck ms ns=MY
  .rw[NB z,NB z,Rep];exact #[_,7,n,o]
  .rw[NA z,NA z,Rep];exact #[_,7,hx,m]
theorem oJ(i:X.calm=MY)(r:X.A.units+64<Ky):cK X (.builtin "min") CS:=bN (bo.or (El i) (u9 i r)) λvs H Q s=>by
 let[b,M,R,j,a,q,c]:=s;rcases b with _|⟨d,b⟩
 .exact JK q
 cases d<;>rcases b with _|⟨e,b⟩<;>try exact JK q
 all_goals (cases e<;>rcases b with _|⟨f,b⟩<;>try exact JK q)
 .exact .inl #[_,M,R,j,a,q,c]
 .obtain⟨ns,ms,rfl,rfl,q⟩:=q;let[v,u,8,k,l]:=dQ j;rw[Rep]at k;let[p,xs,8,hx,m]:=k;obtain⟨t,w,rfl,n,o⟩:∃a xs,u=V.ref a/\Nl X.K H a xs/\aC X.K H (LG D.int ms) xs:=by rw[Rep]at l;exact l
  let g:=hx;let h:=n;rw[cG m]at g;rw[cG o]at h;refine .inr #[p,t,ns,ms,8,g,h,c _ _ _ _ .refl ?_ a q];by_cases z:HT.lexLt ms ns=MY
  .rw[NB z,NB z,Rep];exact #[_,7,n,o]
  .rw[NA z,NA z,Rep];exact #[_,7,hx,m]
end
end SD
namespace Ma
open SD
def Bj{p z:Int}(h:0<p):0<p*z↔0<z:=by
 constructor
 .intro q;by_cases a:0<z
  .exact a
  .have:p*z<=0:=Int.mul_nonpos_of_nonneg_of_nonpos () ();omega
 .exact λq=>LU h q
def wz{a b c d:Int}(f:0<b)(hd:0<d):Rat.divInt a b<Rat.divInt c d↔a*d<c*b:=by
 let e:=Rat.divInt_sub_divInt c a (d₁:=d) (d₂:=b) () ();let h1:Rat.divInt a b<Rat.divInt c d↔0<Rat.divInt c d-Rat.divInt a b:=by constructor<;>intro z<;>grind
 rw[h1,e,k7 (LU hd f)];omega
def ut(t b X m x:Int):Rat:=Rat.divInt (x*t+X*m) (b*m)
def tJ{t b X m n x y:Int}(ht:0<t)(a:0<b)(c:0<m)(d:0<n):ut t b X m x<ut t b X n y↔n*x<m*y:=by
 unfold ut;rw[wz (LU a c) (LU a d)];let e:(y*t+X*n)*(b*m)-(x*t+X*m)*(b*n)=(b*t)*(m*y-n*x):=by grind
 have:=Bj (z:=m*y-n*x) (LU a ht);omega
def pJ{t b X m n x y:Int}(ht:0<t)(d:0<b)(f:0<m)(g:0<n):ut t b X m x=ut t b X n y↔n*x=m*y:=by
 let h1:=tJ (X:=X) (x:=x) (y:=y) ht d f g;let h2:=tJ (X:=X) (x:=y) (y:=x) ht d g f;constructor
 .intro e;let a:¬ut t b X m x<ut t b X n y:=by rw[e];exact Rat.lt_irrefl
  let c:¬ut t b X n y<ut t b X m x:=by rw[e];exact Rat.lt_irrefl
  rw[h1]at a;rw[h2]at c;omega
 .intro e;let a:¬ut t b X m x<ut t b X n y:=by rw[h1];omega
  let c:¬ut t b X n y<ut t b X m x:=by rw[h2];omega
  grind
def Al{t b X x:Int}:Rat.divInt (x*t+X) b=ut t b X 1 x:=by unfold ut;rw[Int.mul_one,Int.mul_one]
def HN{t b X Y m n x y u v:Int}(ht:0<t)(a:0<b)(c:0<m)(d:0<n) : ah (ut t b X m x) (ut t b Y m y) (ut t b X n u) (ut t b Y n v)↔HT.lexLt [n*x,n*y] [m*u,m*v]=MY:=by
 unfold ah;rw[tJ ht a c d,pJ ht a c d,tJ ht a c d];simp only[HT.lexLt];by_cases h:n*x=m*u
 .rw[NB h];by_cases h2:n*y=m*v
  .rw[NB h2];simp;omega
  .rw[NA h2];simp;omega
 .rw[NA h];simp;omega
def vE(a b c d:Int):HT.lexLe [a,b] [c,d]=!HT.lexLt [c,d] [a,b]:=by
 simp only[HT.lexLe,HT.lexLt];by_cases h:a=c
 .subst h;rw[NB rfl,NB rfl];by_cases h2:b=d
  .subst h2;rw[NB rfl,NB rfl];rfl
  .rw[NA h2,NA (λe=>h2 e.symm)];rw[<-decide_not,NG];omega
 .rw[NA h,NA (λe=>h e.symm),<-decide_not,NG];omega
def v9(a b c d:Int):HT.ck [a,b] [c,d]=HT.lexLt [c,d] [a,b]:=by
 simp only[HT.ck,HT.lexLt];by_cases h:a=c
 .subst h;rw[NB rfl,NB rfl];by_cases h2:b=d
  .subst h2;simp
  .rw[NA h2,NA (λe=>h2 e.symm)]
 .rw[NA h,NA (λe=>h e.symm)]
def mT{a b c d:Int}:HT.lexLt [a,b] [c,d]=MY↔a<c\/(a=c/\b<d):=by
 simp only[HT.lexLt];by_cases h:a=c
 .subst h;rw[NB rfl];by_cases h2:b=d
  .subst h2;rw[NB rfl];simp
  .rw[NA h2];simp
 .rw[NA h];simp;omega
end Ma
open Ma renaming wll->NX,ut->NY,Bq->NZ,ah->N0,pos_int->N1,cr->N2,sgn->N3,pJ->N4,spt->N5,fr->N6,den_pos->N7
namespace SD
open PySem PySem.Spec PyProof.Rows L2
theorem aw{M:MH}{a p:PySem.Addr}{o:MO}(h:M a=MW o)(b:M p=MX):a≠p:=λe=>by subst e;rw[h]at b;cases b
def XM(t b x y:Int):D:=.tup [.int t,.int b,.int x,.int y]
structure PB(t b x y:Int):Prop where
 t0:0<t
 t1:t<=10^24
 b0:0<b
 b1:b<=10^26
 x0:-(10^30)<=x
 x1:x<=10^30
 y0:-(10^30)<=y
 y1:y<=10^30
def uw(w:Int×Int×Int×Int):D:=.tup [.tup [.int w.1,.int w.2.1],.tup [.int w.2.2.1,.int w.2.2.2]]
def Nm(t b x y:Int)(w:Int×Int×Int×Int):D:=NX (NY t b x 1 w.1) (NY t b y 1 w.2.1) (NY t b x 1 w.2.2.1) (NY t b y 1 w.2.2.2)
def ZL(n:Int)(w:Int×Int×Int×Int):Prop:=(-n<=w.1/\w.1<=n)/\(-n<=w.2.1/\w.2.1<=n)/\(-n<=w.2.2.1/\w.2.2.1<=n)/\(-n<=w.2.2.2/\w.2.2.2<=n)
def range_getD(l:ox):(JM l.length).map (λi=>(l[i]?).getD .non)=l:=by refine List.ext_getElem (_) λi h1 h2=>?_;simp[h2]
def getD_map{b:Type}{f:b->D}{l:List b}{i:Nat}{a:b}(h:l[i]?=MW a):((l.map f)[i]?).getD .non=f a:=by rw[JI,h];rfl
def Dl{t b x m p:Int}(ht:0<t/\t<=10^24)(a:0<b/\b<=10^26)(hx:-(10^30)<=x/\x<=10^30)(c:0<m/\m<=10^6)(g:-(10^6)<=p/\p<=10^6):NZ 200 (NY t b x m p):=by
 let d:Bd 80 t:=by show t.natAbs<2^80;omega
 let bm:Bd 64 m:=by show m.natAbs<2^64;omega
 let e:Bd 64 p:=by show p.natAbs<2^64;omega
 let f:Bd 90 b:=by show b.natAbs<2^90;omega
 let bx:Bd 100 x:=by show x.natAbs<2^100;omega
 refine Ma.Bq.divInt (by have:=LU a.1 c.1;omega) ?_ ((f.mul bm).mono ⋯);exact(((e.mul d).mono (by decide:64+80<=164)).add (bx.mul bm)).mono ⋯
theorem PB.bx{t b x y m p:Int}(S:PB t b x y)(a:0<m/\m<=10^6)(c:-(10^6)<=p/\p<=10^6):NZ 200 (NY t b x m p):=Dl #[S.t0,S.t1] #[S.b0,S.b1] #[S.x0,S.x1] a c
theorem PB.by'{t b x y m p:Int}(S:PB t b x y)(a:0<m/\m<=10^6)(c:-(10^6)<=p/\p<=10^6):NZ 200 (NY t b y m p):=Dl #[S.t0,S.t1] #[S.b0,S.b1] #[S.y0,S.y1] a c
def oF(a b c d:Int):KA (.tuple [.int a,.int b]) (.tuple [.int c,.int d])=decide (a=c/\b=d):=by simp only[KA,KU,oE,Bool.and_true,Bool.decide_and]
section
variable{X:Cx}
def yw{i j:Int}{its:List J3}(h:Vals [.int i,.int j] its):∃t u,its=[.int i t,.int j u]:=by obtain⟨u,v,rfl,⟨t,rfl⟩,⟨a,rfl⟩⟩:=vals2 h;exact #[_,7]
def va(c:X.calm=MY):bo X (.builtin "max") (λxs H Q=>∃p i j,xs=[.ref p]/\Ni X.K H p [.int i,.int j]/\Q (.int (max i j)) H):=by
 intro NK s σ H xs us Q I r d;let[p,i,j,e,f,k]:=d;subst e;let[u,8,g]:=vals1 r;cases g;let[h,l,m,_]:=I.list f;let[t,u,8]:=yw l;refine max_intList (xs:=(List.toArray [(i,t),(j,u)])) (I.ok.hd c) (by simpa[intItems]using m.isList) (_) λv q w n o=>#[.int (max i j),H,I.kept o,?_,k];let a:(intItems (List.toArray [(i,t),(j,u)]))[argBest (λx y=>decide (numAt (List.toArray [(i,t),(j,u)]) x>numAt (List.toArray [(i,t),(j,u)]) y)) 1]?=MW v:=n;by_cases b:j>i
 .have e:argBest (λx y=>decide (numAt (List.toArray [(i,t),(j,u)]) x>numAt (List.toArray [(i,t),(j,u)]) y)) 1=1:=by simp[argBest,numAt,b]
  rw[e]at a;let z:KZ j u=v:=by simpa[intItems]using a
  rw[<-z,show max i j=j from by omega];exact #[_,rfl]
 .have e:argBest (λx y=>decide (numAt (List.toArray [(i,t),(j,u)]) x>numAt (List.toArray [(i,t),(j,u)]) y)) 1=0:=by simp[argBest,numAt,b]
  rw[e]at a;let z:KZ i t=v:=by simpa[intItems]using a
  rw[<-z,show max i j=i from by omega];exact #[_,rfl]
def CJ:RC:=λa M Q=>match a with
 |[.ref l]=>∃i j,M l=MW (.lst [.int i,.int j])/\Q (.int (max i j)) M
 |a=>zI a M Q
def xO{K:J1}{H:Hp}{M:MH}{l:k_}{i j:Int}(a:Nc K H M)(e:M l=MW (.lst [.int i,.int j])):Ni K H l [.int i,.int j]:=by let[xs,hx,b]:=a _ _ e;rw[cG (ns:=[i,j]) b]at hx;exact Ni.of hx
theorem CA(c:X.calm=MY)(f:X.A.units+64<Ky):cK X (.builtin "max") CJ:=bN (bo.or (ue c f) (va c)) λvs H Q g=>by
 let[h,M,R,d,a,q,b]:=g;unfold CJ at q;split at q
 .obtain⟨i,j,e,q⟩:=q;let[v,8,r]:=bR d;rw[Rep]at r;subst r;exact .inr #[_,i,j,8,xO a e,b _ _ _ _ .refl (by rw[Rep]) a q]
 .exact .inl #[_,M,R,d,a,q,b]
end
open PySem PySem.Spec PyProof.Rows L2 Ma
instance(a b c d:Rat):Decidable (N0 a b c d):=inferInstanceAs (Decidable (_\/_))
def R7(a b c d:Int):Int:=a*d-b*c
def Eb{t b X m x:Int}(a:0<b)(c:0<m):NY t b X m x=((t:Rat)/b)*((x:Rat)/m)+(X:Rat)/b:=by
 unfold NY;rw[Rat.divInt_eq_div];let h1:(b:Rat)≠0:=by have:=N1 a;grind
 let h2:(m:Rat)≠0:=by have:=N1 c;grind
 rw[Rat.intCast_add,Rat.intCast_mul,Rat.intCast_mul,Rat.intCast_mul];grind
def gO{t b X x:Int}(a:0<b):NY t b X 1 x=((t:Rat)/b)*(x:Rat)+(X:Rat)/b:=by rw[Eb a ⋯];have:((1:Int):Rat)=1:=rfl;rw[this];grind
def DD(k x y p q r s e f:Rat):N2 (k*p+x) (k*q+y) (k*r+x) (k*s+y) (k*e+x) (k*f+y)=k*k*((r-p)*(f-q)-(s-q)*(e-p)):=by unfold N2;grind
def GI{t b X Y p q r s e f:Int}(a:0<b):N2 (NY t b X 1 p) (NY t b Y 1 q) (NY t b X 1 r) (NY t b Y 1 s) (NY t b X 1 e) (NY t b Y 1 f)=((t:Rat)/b)*((t:Rat)/b)*((R7 (r-p) (s-q) (e-p) (f-q):Int):Rat):=by rw[gO a,gO a,gO a,gO a,gO a,gO a,DD];unfold R7;rw[Rat.intCast_sub,Rat.intCast_mul,Rat.intCast_mul,Rat.intCast_sub,Rat.intCast_sub,Rat.intCast_sub,Rat.intCast_sub]
def sgn_mul{k:Rat}(a:0<k)(z:Int):N3 (k*(z:Rat))=KG z:=by
 unfold N3;by_cases h1:0<z
 .rw[NB (Rat.mul_pos a (N1 h1)),Lk h1]
 .by_cases h2:z<0
  .have b:0<k*((-z:Int):Rat):=Rat.mul_pos a (N1 ());rw[Rat.intCast_neg]at b;rw[NA (by grind),NB (by grind),Lj h2]
  .obtain rfl:z=0:=()
   have:((0:Int):Rat)=0:=rfl;rw[this];simp
def G6{t b X Y p q e f:Int}(ht:0<t)(a:0<b):N0 (NY t b X 1 p) (NY t b Y 1 q) (NY t b X 1 e) (NY t b Y 1 f)↔(p<e\/(p=e/\q<f)):=by rw[Ma.HN ht a ⋯ ⋯,Ma.mT];omega
end SD
namespace HT
open PySem PyProof.Rows
end HT
namespace SD
open PySem PySem.Spec PyProof.Rows L2
section
variable{X:Cx}
def Gi(g:Bool->Bool):OU:=λx y M Q=>∃p ps,Pd M x p/\(Pd M y (.list ps)\/Pd M y (.tuple ps))/\SeqAt.shaped p=MY/\KW ps=MY/\Q (.bl (g (ps.any λq=>KA q p))) M
theorem rh{p:MN}{n:Nat}(h:SeqAt.shaped p=MY):min n p.depth<=63+1:=K0 (Nat.min_le_right _ _) (SeqAt.depth_of_shaped h)
def lh(r:X.A.units+66<Ky):O4 X (K8 .NotIn) (Gi λb=>!b):=by
 intro NK s σ H v u t w Q I m g h;obtain⟨x,y,M,R,o,i,a,⟨p,ps,q,c,e,j,k⟩,d⟩:=h;let[z,l]:=df I a q o m;let B:=rh (n:=My ps) e;rcases c with c|c
 .obtain⟨bs,f⟩:=df I a c i g;exact SeqAt.notIn_list_reads f l j (SeqAt.canLay_of_shaped e) () #[.bl _,H,I,8,d _ _ _ _ .refl (by rw[Rep]) a k]
 .obtain⟨bs,f⟩:=df I a c i g;exact SeqAt.notIn_tuple_reads f l j (SeqAt.canLay_of_shaped e) () #[.bl _,H,I,8,d _ _ _ _ .refl (by rw[Rep]) a k]
def G8(to:TD)(t:Ny):TD:=λδ M Q=>to δ M λx a=>∃l c,x=.ref l/\a l=MW (.lst c)/\t δ a λe b=>∃xs d,e=[d]/\b l=MW (.lst xs)/\xs.length<1000000/\Q .non (av b l (.lst (xs++[d])))
variable{o e:l_}{to:TD}{t:Ny}{apos NO:Pos}
theorem gf(y:DE X o to)(ha:DA X [e] t)
 (b:LB o "append" X.env (eval o X.env)=eval o X.env:=by rfl)
 (i:((Lh NO (Jz [e] X.env)).all (λx=>!x.1)&&(backToKw NO (keywordEach [] X.env)).all (λx=>x.1.isSome)
  && decide ([e].length+([]:List Keyword).length+(if([]:List Keyword).isEmpty then 0 else 1)<30))=MY:=by rfl)
 (c:(apos.endLine==NO.line)=MY:=by rfl) (hs:Jz [e] X.env=(MZ,eval e X.env)::Jz [] X.env:=by rfl) (a:(Lh NO (Jz [] X.env)).any (·.1)=MZ:=by rfl) :
 DE X (.Call (.Attribute o "append" apos) [e] [] NO) (G8 to t):=
 aQ (Df PySem.F.plainAttrs_list PySem.F.slot_list_append PySem.F.type_list_append mQ y ha b i c hs a) λσ H Q z=>by
  let[δ,M,R,j,A,q,m]:=z
  refine #[δ,M,_,j,A,q,λx B v H1 g1 p r f=>?_]
  let[l,K,ex,hl,C]:=f
  subst ex
  rw[Rep]at p
  subst p
  let[vs,n,_]:=r _ _ hl
  refine #[.inl #[8,vs,Ni.of n],δ,B,_,j.mono g1,r,C,λL N us O D E s g=>?_]
  let[xs,d,G,hx,P,I]:=g
  subst G
  let[u,8,J]:=bR E
  let[ws,h,k]:=s _ _ hx
  let w:=k.length
  exists l,ws,u,8,8,h,JF () (show 1000000<=JJ from Ng rfl)
  exact m _ _ _ _ (g1.trans (D.trans (.lst h))) (by rw[Rep]) (s.yJ h (k.append (.cons J .nil))) I
end
def md{k:Nat}{A:JQ}(r:Nd k A):A.units+66<Ky:=by have:=r.un;omega
abbrev Wl:=Int×Int×Int×Int
abbrev _root_.n_:=List Wl
def la(x y:Int):Int:=100*x+y
def l1(w:Wl):Int:=la w.1 w.2.1
def l2(w:Wl):Int:=la w.2.2.1 w.2.2.2
def sd(w:Wl)(x y:Int):Int:=R7 (w.2.2.1-w.1) (w.2.2.2-w.2.1) (x-w.1) (y-w.2.1)
def Og(w v:Wl):Int:=sd w v.1 v.2.1
def O2(w v:Wl):Int:=sd w v.2.2.1 v.2.2.2
structure OB(w:Wl):Prop where
 a:0<=w.1/\w.1<=20
 b:0<=w.2.1/\w.2.1<=20
 c:0<=w.2.2.1/\w.2.2.1<=20
 d:0<=w.2.2.2/\w.2.2.2<=20
 lt:l1 w<l2 w
def bJ(w:Wl)(l s:Int):Prop:=l=l1 w\/l=l2 w\/l<l1 w\/l2 w<l\/s≠0
structure Oc(U V:Wl):Prop where
 ne:¬(l1 U=l1 V/\l2 U=l2 V)
 e1:bJ U (l1 V) (Og U V)
 e2:bJ U (l2 V) (O2 U V)
 e3:bJ V (l1 U) (Og V U)
 e4:bJ V (l2 U) (O2 V U)
 pr:0<=KG (Og U V)*KG (O2 U V)\/0<=KG (Og V U)*KG (O2 V U)
theorem Oc.swap{U V:Wl}(h:Oc U V):Oc V U:=#[λz=>h.ne #[z.1.symm,z.2.symm],h.e3,h.e4,h.e1,h.e2,h.pr.symm]
def Nu(U V:Wl):Bool:=
 if max (l1 U) (l1 V)<min (l2 U) (l2 V)then
  if l1 U=l1 V then(if l2 U<l2 V then decide (0<O2 V U)else decide (O2 U V<0))
  else if l1 V<l1 U then decide (0<Og V U)else decide (Og U V<0)
 else MZ
theorem Zi(z:Int):KG z=1↔0<z:=Int.sign_eq_one_iff_pos
def Zh(z:Int):-KG z=1↔z<0:=by
 rcases LX z 0 with h|h|h
 .rw[Lj h];omega
 .subst h;simp
 .rw[Lk h];omega
def rF{x y u v:Int}(h1:0<=y/\y<=20)(h2:0<=v/\v<=20)(h:la x y=la u v):x=u/\y=v:=by unfold la at h;omega
def zT{U V:Wl}(hU:OB U)(a:OB V)(h:l2 U=l2 V):O2 U V=0:=by let[e1,e2]:=rF hU.d a.d h;unfold O2 sd R7;rw[e1,e2];grind
def bJ.nz{w:Wl}{l s:Int}(h:bJ w l s)(h1:l1 w<l)(h2:l<l2 w):s≠0:=by
 unfold bJ at h;rcases h with h|h|h|h|h
 .omega
 .omega
 .omega
 .omega
 .exact h
def Ef{a b c d:Int}:max a c<min b d↔a<b/\a<d/\c<b/\c<d:=by rw[Int.max_lt,Int.lt_min,Int.lt_min,and_assoc]
section
variable{U V:Wl}(ap:max (l1 U) (l1 V)<min (l2 U) (l2 V))
include ap
def Dh(z:l1 U<l1 V):Nu U V=decide (Og U V<0):=by unfold Nu;rw[NB ap,NA (Int.ne_of_lt z),NA (Int.not_lt.mpr (Int.le_of_lt z))]
def Dm(z:l1 V<l1 U):Nu U V=decide (0<Og V U):=by unfold Nu;rw[NB ap,NA (λe=>Int.ne_of_lt z e.symm),NB z]
def Dt(z:l1 U=l1 V)(y:l2 U<l2 V):Nu U V=decide (0<O2 V U):=by unfold Nu;rw[NB ap,NB z,NB y]
def C3(z:l1 U=l1 V)(y:¬l2 U<l2 V):Nu U V=decide (O2 U V<0):=by unfold Nu;rw[NB ap,NB z,NA y]
end
def zl{a:Int}(h:a≠0):decide (0<a)=!decide (a<0):=by rw[<-decide_not,NG];omega
def yF{a:Int}(h:a≠0):decide (a<0)=!decide (0<a):=by rw[<-decide_not,NG];omega
def FX{U V:Wl}(hU:OB U)(d:OB V)(F:Oc U V)(b:max (l1 U) (l1 V)<min (l2 U) (l2 V)):Nu V U=!Nu U V:=by
 let c:=b;rw[Int.max_comm,Int.min_comm]at c;let o:=Ef.mp b;rcases LX (l1 U) (l1 V)with h|h|h
 .rw[Dm c h,Dh b h,zl (F.e1.nz h o.2.2.1)]
 .rcases LX (l2 U) (l2 V)with a|a|a
  .rw[C3 c h.symm (Int.not_lt.mpr (Int.le_of_lt a)),Dt b h a,yF (F.e4.nz o.2.2.1 a)]
  .exact absurd #[h,a] F.ne
  .rw[Dt c h.symm a,C3 b h (Int.not_lt.mpr (Int.le_of_lt a)),zl (F.e2.nz o.2.1 a)]
 .rw[Dh c h,Dm b h,yF (F.e3.nz h o.2.1)]
def zH{a b c d:Int}(e:0<=b/\b<=20)(hd:0<=d/\d<=20):HT.lexLt [a,b] [c,d]=decide (la a b<la c d):=by let h:=Ma.mT (a:=a) (b:=b) (c:=c) (d:=d);rw[Mh,h,NH];unfold la;omega
def C8{a b c d:Int}(e:0<=b/\b<=20)(hd:0<=d/\d<=20):HT.lexLe [a,b] [c,d]=decide (la a b<=la c d):=by rw[Ma.vE,zH hd e,<-decide_not,NG];omega
def GN{a b c d:Int}(e:0<=b/\b<=20)(hd:0<=d/\d<=20):HT.ck [a,b] [c,d]=decide (la c d<la a b):=by rw[Ma.v9,zH hd e]
def zY{x y u v:Int}(h1:0<=y/\y<=20)(h2:0<=v/\v<=20):(x=u/\y=v)↔la x y=la u v:=by unfold la;omega
def nD{I:RE}{tk:QF}{js:ma}{tc:OL}{te:TD}{δ:DS}{b:MH}{Q:DK}(f:Nat->oy)(j:I.n<=1000000)(hC:∀p a,b p=MX->I.C (av b p (.lst a))) (h:∀i d M,i<I.n->I.item i=MW d->Sub b M->∃os,yC tk d os/\(∀K:Bool->MH->Prop,K (f i).isSome M->tc (cδ os js δ) M K)/\∀e,f i=MW e->∀K:DK,(∀c,Sub M c->K e c)->te (cδ os js δ) M K) (k:∀p,b p=MX->Q (.ref p) (av b p (.lst ((JM I.n).filterMap f)))):uW I tk js tc te δ b Q:=by
 refine #[j,λp g=>#[λi a M=>a=(JM i).filterMap f/\M=av b p (.lst a),#[8,rfl],?_,?_,?_]]
 .rintro i a M _ ⟨_,rfl⟩;exact hC p a g
 .rintro i a d M hi hd ⟨rfl,rfl⟩;let[os,l,m,o]:=h i d _ hi hd (.new g .refl);refine #[os,l,m _ ?_];cases e:f i with
  |none=>
   refine jE rfl #[_,.refl,?_,?_]
   .rw[List.range_succ,List.filterMap_append];simp[e]
   .rfl
  |some v=>
   refine zw rfl (o v e _ λc q=>#[_,q,aj,?_,by rw[eG]])
   rw[List.range_succ,List.filterMap_append];simp[e]
 .rintro a M ⟨rfl,rfl⟩;exact k p g
def Au{A:Wl}{x y:Int}(c:OB A)(e:0<=y/\y<=20)(h:(!(decide (A.1=x/\A.2.1=y)||decide (A.2.2.1=x/\A.2.2.2=y))&&(decide (l1 A<=la x y)&&decide (la x y<=l2 A)&&decide (sd A x y=0)))=MZ):bJ A (la x y) (sd A x y):=by
 unfold bJ;by_cases h1:A.1=x/\A.2.1=y
 .exact .inl ((zY c.b e).mp h1).symm
 .by_cases h2:A.2.2.1=x/\A.2.2.2=y
  .exact .inr (.inl ((zY c.d e).mp h2).symm)
  .rw[NC h1,NC h2,Bool.or_false,Bool.not_false,Bool.true_and,<-Bool.decide_and,<-Bool.decide_and,decide_eq_false_iff_not]at h;by_cases f:sd A x y=0
   .rcases Int.lt_or_le (la x y) (l1 A)with z|z
    .exact .inr (.inr (.inl z))
    .rcases Int.lt_or_le (l2 A) (la x y)with a|a
     .exact .inr (.inr (.inr (.inl a)))
     .exact absurd #[#[z,a],f] h
   .exact .inr (.inr (.inr (.inr f)))
def C5(z:Int):Bd 64 (KG z):=by
 rcases LX z 0 with h|h|h
 .rw[Lj h];decide
 .subst h;decide
 .rw[Lk h];decide
def PF(ws:n_):Prop:=∀(i j:Nat)(U V:Wl),i≠j->ws[i]?=MW U->ws[j]?=MW V->Oc U V
theorem FW:PF []:=λi j U V _ h=>by simp at h
def wC{ws:n_}{U:Wl}(h:PF ws)(hU:∀(j:Nat)(w:Wl),ws[j]?=MW w->Oc U w):PF (ws++[U]):=by
 intro i j A B c d f
 let get:∀{k:Nat}{C:Wl},(ws++[U])[k]?=MW C->ws[k]?=MW C\/(k=ws.length/\C=U):=λ{k C} e=>by
  rcases ME k ws.length with z|z|z
  .rw[K7 z]at e;exact .inl e
  .subst z;rw[K4 (Jo _)]at e;simp at e;exact .inr #[8,e.symm]
  .rw[List.getElem?_eq_none (by simp;omega)]at e;cases e
 rcases get d with a|⟨a,rfl⟩<;>rcases get f with b|⟨b,rfl⟩
 .exact h i j A B c a b
 .exact(hU _ _ a).swap
 .exact hU _ _ b
 .omega
def wy{p q e f:Int}(c:0<=p/\p<=20)(a:0<=q/\q<=20)(he:0<=e/\e<=20)(b:0<=f/\f<=20)(ne:¬(p=e/\q=f)) :
 ∃w:Wl,(if HT.lexLt [e,f] [p,q]=MY then[e,f]else[p,q])=[w.1,w.2.1]/\(if HT.ck [e,f] [p,q]=MY then[e,f]else[p,q])=[w.2.2.1,w.2.2.2]/\OB w:=by
 rw[zH b a,GN b a]
 let g:la p q≠la e f:=λz=>ne ((zY a b).mpr z)
 by_cases h:la e f<la p q
 .exact #[(e,f,p,q),by rw[NB (ND h)],by rw[NA (by simp;omega)],#[he,b,c,a,h]]
 .have d:la p q<la e f:=()
  exact #[(p,q,e,f),by rw[NA ‹h›],by rw[NB (ND d)],#[c,a,he,b,d]]
def nL{t b X Y p q e f:Int}(ht:0<t)(a:0<b)(c:0<=q/\q<=20)(d:0<=f/\f<=20):N0 (NY t b X 1 p) (NY t b Y 1 q) (NY t b X 1 e) (NY t b Y 1 f)↔la p q<la e f:=by rw[G6 ht a];unfold la;omega
def p4{t b X Y p q e f:Int}(ht:0<t)(a:0<b)(c:0<=q/\q<=20)(d:0<=f/\f<=20):(NY t b X 1 p=NY t b X 1 e/\NY t b Y 1 q=NY t b Y 1 f)↔la p q=la e f:=by rw[N4 ht a ⋯ ⋯,N4 ht a ⋯ ⋯];unfold la;omega
def xD{t b X Y:Int}(ht:0<t)(a:0<b)(w:Wl)(x y:Int):N3 (N2 (NY t b X 1 w.1) (NY t b Y 1 w.2.1) (NY t b X 1 w.2.2.1) (NY t b Y 1 w.2.2.2) (NY t b X 1 x) (NY t b Y 1 y))=KG (sd w x y):=by
 let k:(0:Rat)<(t:Rat)/b:=by rw[Rat.div_def];exact Rat.mul_pos (N1 ht) (Rat.inv_pos.mpr (N1 a))
 rw[GI a,sgn_mul (Rat.mul_pos k k)];rfl
def Ih(z:Int):KG z=-1↔z<0:=by rw[<-Zh];omega
def qG{K:J1}{r g:OU}{i tb tc:TD}{σ:L2.St}{H:Hp}{Q:VK}(h:lift K (uj r g i tb tc) σ H Q):zA (jK K r) (jK K g) (lift K i) (lift K tb) (lift K tc) σ H Q:=by
 let[δ,M,R,hs,o,q,b]:=h;refine #[δ,M,_,hs,o,q,λx p v H1 g1 s t A=>#[δ,p,_,hs.mono g1,t,A,λy B u N c j C D=>#[x,y,B,_,s.mono c,j,C,D,λz E w O d l m a=>?_]]];let[k,e,f]:=a;subst e;rw[Rep]at l;exists k,l;cases k with
 |true=>
  rw[NB rfl]at f ⊢
  exact #[δ,E,_,hs.mono ((g1.trans c).trans d),m,f,λF G P S n I J L=>#[y,F,G,R,j.mono (d.trans n),I,J,L,b.go (((g1.trans c).trans d).trans n)]]
 |false=>
  rw[NA JO]at f ⊢
  exact b _ _ _ _ ((g1.trans c).trans d) (by rw[Rep]) m f
theorem zV{X:Cx}{a b c:l_}{g tb tc:TD}{e:Pos}{op d:CmpOp}{r i:OU}(j:O4 X (K8 op) r)(f:O4 X (K8 d) i)(ha:DE X a g)(k:DE X b tb)(l:DE X c tc) (m:lastMarks [op,d] [b,c]=MZ:=by with_unfolding_all rfl):DT X (.Compare a [op,d] [b,c] e) (tBD (uj r i g tb tc)):=ji (Aa j f ha k l m) λ_ _ _ h=>jA (λ_ _ _ h=>qG h) h
section
variable{X:Cx}
def bT{a:Type}(xs:List a)(j:Nat)(y:a):List a:=xs.take j++y::xs.drop j
def B4:V->n7->Hp->VK->Prop:=λx vs H Q=>∃l xs y,∃(k:Int) (j:Nat),x=.ref l/\vs=[.int k,y]/\k=(j:Int)/\H l=MW (.lst xs)/\j<=xs.length/\xs.length<1000000/\Q .non (upd H l (.lst (bT xs j y)))
def A5(its:List J3)(k:Int)(j:Nat)(u:J3)(a:k=(j:Int))(b:j<=its.length) :
 (its.toArray.extract 0 (if k<0 then(k+((its.toArray.size:Nat):Int)).toNat else min k.toNat its.toArray.size)).push u++its.toArray.extract (if k<0 then(k+((its.toArray.size:Nat):Int)).toNat else min k.toNat its.toArray.size)=(bT its j u).toArray:=by
 let e:(if k<0 then(k+((its.toArray.size:Nat):Int)).toNat else min k.toNat its.toArray.size)=j:=by
  rw[NA (),Jw];omega
 rw[e]
 apply Array.toList_inj.mp
 simp[bT]
 exact L8 (_)
def vL:Yy X "list.insert" B4:=by
 intro NK s σ H x vs v us Q I f g h;let[l,xs,y,k,j,ex,i,m,d,u,w,q]:=h;subst ex i;cases f;let[A,b,8,o,p]:=g.two;let[t,8]:=o;let[z,a,n,r,hl,e]:=I.pP d;let fits:Builtin.List.listFitsIndex k=MY:=by unfold Builtin.List.listFitsIndex;simp;omega
 let c:a.toArray.size<=JJ:=by rw[Jw,<-hl];exact z
 refine call_meets PySem.F.slot_list_insert #[_,e,rfl] PySem.F.entry_list_insert (PySem.F.args_list_insert_3 _ _ _) (PySem.AutoSeq1.list_insert_list_int_val_1 l a.toArray n k t b (by rw[fits];decide) c) #[e,?_];refine #[.non,_,I.ET (its':=bT a j b) d e (A5 a k j b m ()) ((Vals.take j r).append (.cons p (Vals.drop j r))) ?_,8,q];show(xs.take j++y::xs.drop j).length<=JJ;simp only[Ki,La,JE,List.length_drop];have:1000000<=JJ:=Ng rfl;omega
def Hu(to:TD)(t:Ny):TD:=λδ M Q=>to δ M λx a=>∃l c,x=.ref l/\a l=MW (.lst c)/\t δ a λe b=>∃xs d,∃j:Nat,e=[.int (j:Int),d]/\b l=MW (.lst xs)/\j<=xs.length/\xs.length<1000000/\Q .non (av b l (.lst (bT xs j d)))
variable{o e1 e2:l_}{to:TD}{t:Ny}{apos NO:Pos}
theorem jV(z:DE X o to)(ha:DA X [e1,e2] t)
 (b:LB o "insert" X.env (eval o X.env)=eval o X.env:=by rfl)
 (i:((Lh NO (Jz [e1,e2] X.env)).all (λx=>!x.1)&&(backToKw NO (keywordEach [] X.env)).all (λx=>x.1.isSome)
  && decide ([e1,e2].length+([]:List Keyword).length+(if([]:List Keyword).isEmpty then 0 else 1)<30))=MY:=by rfl)
 (c:(apos.endLine==NO.line)=MY:=by rfl) (hs:Jz [e1,e2] X.env=(MZ,eval e1 X.env)::Jz [e2] X.env:=by rfl) (a:(Lh NO (Jz [e2] X.env)).any (·.1)=MZ:=by rfl) :
 DE X (.Call (.Attribute o "insert" apos) [e1,e2] [] NO) (Hu to t):=
 aQ (Df PySem.F.plainAttrs_list PySem.F.slot_list_insert PySem.F.type_list_insert vL z ha b i c hs a) λσ H Q A=>by
  let[δ,M,R,k,B,q,n]:=A
  refine #[δ,M,_,k,B,q,λx C v H1 g1 s u e=>?_]
  let[l,L,ex,hl,D]:=e
  subst ex
  rw[Rep]at s
  subst s
  let[vs,p,_]:=u _ _ hl
  refine #[.inl #[8,vs,Ni.of p],δ,C,_,k.mono g1,u,D,λN O us P E G w f=>?_]
  let[xs,d,j,I,hx,S,T,J]:=f
  subst I
  let[U,K,8,m,r]:=dQ G
  rw[Rep]at m
  subst m
  let[ws,g,h]:=w _ _ hx
  let y:=h.length
  exact #[l,ws,K,_,j,8,8,8,g,(),(),n _ _ _ _ (g1.trans (E.trans (.lst g))) (by rw[Rep]) (w.yJ g ((h.take j).append (.cons r (h.drop j)))) J]
def xQ:RC:=λa M Q=>match a with
 |[.ref l]=>∃xs,M l=MW (.lst xs)/\∀p,M p=MX->Q (.ref p) (av M p (.lst xs))
 |[.tup xs]=>∀p,M p=MX->Q (.ref p) (av M p (.lst xs))
 |_=>False
theorem BU:cK X (.type "list") xQ:=bN nW λvs H Q g=>by
 let[h,M,R,f,a,q,c]:=g;unfold xQ at q;split at q
 .obtain⟨i,e,q⟩:=q;let[v,8,r]:=bR f;rw[Rep]at r;subst r;let[xs,hx,d]:=a _ _ e;exact #[_,xs,8,.inl (Ni.of hx),λz b=>c _ _ _ _ (.new b) (by rw[Rep]) (a.mB b d) (q z (a.fresh b))]
 .obtain⟨v,rfl,r⟩:=bR f;rw[Rep]at r;let[p,xs,8,hx,d]:=r;exact #[_,xs,8,.inr hx,λz b=>c _ _ _ _ (.new b) (by rw[Rep]) (a.mB b d) (q z (a.fresh b))]
 .exact q.elim
end
def xJ{U:Wl}(hU:OB U):Nu U U=MZ:=by
 unfold Nu;split
 .rw[NB rfl,NA (),zT hU hU rfl];rfl
 .rfl
def qC{a b:Type}(f:a->b)(xs:List a)(j:Nat)(y:a):bT (xs.map f) j (f y)=(bT xs j y).map f:=by unfold bT;simp[List.map_take,List.map_drop]
def jc{a:Type}(xs:List a)(j:Nat)(y:a):(bT xs j y).Perm (y::xs):=by
 unfold bT;let h:(xs.take j++y::xs.drop j).Perm (y::(xs.take j++xs.drop j)):=List.perm_middle
 rwa [Mv]at h
def zZ{b c:Type}(g:b->Option c):∀l:List b,(JM l.length).filterMap (λi=>(l[i]?).bind g)=l.filterMap g:=by
 intro l
 induction l with
 |nil=>rfl
 |cons a l d=>
  rw[JE,List.range_succ_eq_map,Ll,Ll,List.filterMap_map]
  let e:((λi=>((a::l)[i]?).bind g)∘Nat.succ)=λi=>(l[i]?).bind g:=by funext i;simp
  rw[e,d]
  simp
theorem jh{b:Type}(p:b->Bool)(f:b->D):∀l:List b,l.filterMap (λk=>if p k=MY then MW (f k)else MX)=(l.filter p).map f
 |[]=>rfl
 |a::l=>by
  rw[Ll,List.filter_cons]
  cases h:p a
  .simp[jh p f l]
  .simp[jh p f l]
def OI(ws:n_)(k:Int):Wl:=(ws[k.toNat]?).getD (0,0,0,0)
def c8{ws:n_}{k:Int}(h0:0<=k)(h1:k<ws.length):ws[k.toNat]?=MW (OI ws k)/\atI (ws.map uw) k=MW (uw (OI ws k))/\OI ws k∈ws:=by
 obtain⟨j,rfl⟩:∃j:Nat,k=(j:Int):=#[k.toNat,()];let a:j<ws.length:=()
 let e:OI ws (j:Int)=ws[j]:=by unfold OI;simp[a]
 refine #[by rw[e];simp[a],?_,by rw[e];exact Lc a];rw[e];exact c7 (by simp[a])
section
variable{X:Cx}{NK:l'}{σ:L2.St}{H:Hp}{s:J4}
def rJ{h':lj}{t':Nat}{e it:k_}(I:Inv X NK σ H s)(k:∀b o,b≠e->b≠it->s.heap.get? b=MW o->h'.get? b=MW o)(g:cP X NK H e)(fi:cP X NK H it):Inv X NK σ H { s with heap:=h',toks:=t' }:=by
 let[h,e1,_,e3,e4,i]:=g;let[j,f,_,l,p,t]:=fi;let ne:∀b u,H b=MW u->b≠e/\b≠it:=λb u q=>#[λz=>(by rw[z,h]at q;cases q),λz=>(by rw[z,j]at q;cases q)];let d:∀{b:k_},b∉[e,it]->b≠e/\b≠it:=λ{b} a=>#[λz=>a (by simp[z]),λz=>a (by simp[z])];refine I.step (g':=s.gens) (d':=s.drawn) (ch:=[e,it]) (λb w=>?_) (λb o _ _ a q _=>k b o (d a).1 (d a).2 q) (λb o _ _ a q _=>#[o.slots,k b o (d a).1 (d a).2 q]) (λ_ _ _ _ n=>n) (λb o a q=>#[o,k b o (d a).1 (d a).2 q]) (λ_ _ q=>q) (λ_ _ _ q=>q) (λb ps q=>#[#[],by rw[q];simp]) (λm x=>?_) (λb u q=>?_) I.bare
 .rcases(show b=e\/b=it by simpa using w)with rfl|rfl
  .exact #[e3,e1,e4,i]
  .exact #[l,f,p,t]
 .obtain⟨o,es,ep,A,r⟩:=x;exact #[o,es,ep,k _ o (Ne.symm e1) (Ne.symm f) A,r]
 .refine(I.hok b u q).dg (λc v a z=>?_) (λ_ z=>z) λ_ _ z=>z;rcases a with y|y
  .subst y;exact k _ v (ne _ u q).1 (ne _ u q).2 z
  .exact k c v (ne c _ y).1 (ne c _ y).2 z
end
theorem pF(c:Nat){prog:Jv}{w:JP}{A:JQ}{it:k_}{fp:m_}{n:Nat}{P:Nat->J3->Prop}{St:Nat->lj->Prop}(D:Draws prog w A it fp n P St):Draws prog w A it fp (n+c) (λj x=>∃i,j=i+c/\P i x) (λj h=>∃i,j=i+c/\St i h) where
 live:=λj h a=>by
  let[i,_,st]:=a
  exact D.live i h st
 frame:=λj h b a k=>by
  let[i,e,st]:=a
  exact #[i,e,D.frame i h b st k]
 item:=λj s Q E m a f=>by
  let[i,e,st]:=a
  exact D.item i s Q E () st λx b g p d l=>f x b g #[i,e,p] #[i+1,(),d] l
 done:=λs Q E a hE=>by
  let[i,e,st]:=a
  obtain rfl:i=n:=()
  exact D.done s Q E st hE
theorem sI{prog:Jv}{w:JP}{A:JQ}(b:A.handled=MX)(it l:k_)(c:l≠it)(items:Array J3){i:Nat}(hx:items[i]?=MX):Draws prog w A it [it,l] i (λ_ _=>False) (λj h=>j=i/\h.IsListIter it l i/\h.IsList l items) where
 live:=λ_ _ st=>by
  let[o,d,_]:=st.2.1
  exact #[o,d]
 frame:=λ_ _ _ st a=>#[st.1,st.2.1.at λo e=>a it (_) o e,st.2.2.at λo e=>a l (_) o e]
 item:=λj s Q E f st _=>absurd st.1 ()
 done:=λs Q E st hE=>wpAny_nextOf_list_end b st.2.1 st.2.2 hx hE
def Yz(K:J1)(c:Nat)(a:k_):It:=
 #[λi H=>∃xs x,Ni K H a xs/\xs[i]?=MW x,λi H x b=>∃T y,x=.ref T/\H T=MX/\b=upd H T (.tup [.int ((i+c:Nat):Int),y])/\∀xs,Ni K H a xs->xs[i]?=MW y,λi H=>∃xs,Ni K H a xs/\xs.length<=i]
def vg(c:Nat){P:Jv}{w:JP}{K:J1}{D:m3}{kt}{pt:Pos}(a e it:k_)(r:e≠it):Turn P w K (.Tuple D kt pt) (Yz K c a) [e,it] e (λi h=>(∃g,IsEnum h e it ((i+c:Nat):Int) g)/\h.IsListIter it a i) where
 mem:=by simp
 obj:=λi h st b F=>by
  rcases(show b=e\/b=it by simpa using F)with rfl|rfl
  .obtain⟨⟨g,q⟩,_⟩:=st
   exact #[_,q,λv z=>by
    let z':Data.fields _=Data.cell v:=z
    cases z']
  .obtain⟨o,q,_,d⟩:=st.2
   exact #[o,q,λv z=>by rw[d]at z;cases z]
 keep:=λi h h' st k=>by
  obtain⟨⟨g,q⟩,st⟩:=st
  exact #[#[g,k e (_) _ q],st.at λo z=>k it (_) o z]
 item:=by
  intro X N O Q R i NK s σ H E I L st S
  subst N O Q
  let[xs,x,M,hx]:=S
  let[m,T,p,hz]:=I.list M
  let[u,Z,ru]:=T.get hx
  obtain⟨⟨g,he⟩,j⟩:=st
  let le:e<s.z:=Js he
  let li:it<s.z:=by let[o,q,_]:=j;exact Js q
  let t:a≠it:=λz=>by
   subst z
   let[o1,U,V,_]:=j
   let[o2,y1,y,_]:=p.isList
   rw[U]at y1;cases y1
   rw[V]at y;exact absurd (MS.inj y) ⋯
  let W:e≠a:=λz=>by
   subst z
   let[o2,y1,y,_]:=p.isList
   rw[show s.heap.get? e=_ from he]at y1;cases y1
   exact absurd (MS.inj y) ⋯
  let B:X.A.in1.handled=MX:=I.ok.hd R
  let a0:i<m.length:=(Jp.mp Z).1
  refine wpAny_pyNext_enum_itemD (i:=i+c) (pF c (Draws.list B it a t m.toArray)) he #[i,8,j,p.isList] (by simp;omega) r (by simp[r,W]) λx0 h1 C l ho G hT b0 hk=>?_
  let[i0,c0,l]:=l
  obtain rfl:i=i0:=()
  let[i1,d0,J]:=G
  obtain rfl:i1=i+1:=()
  obtain rfl:u=x0:=by
   let l:m[i]?=MW x0:=‹l›
   rw[Z]at l;cases l;rfl
  refine #[7,wpAny_letOwnedTupleGo_enum (s:={ s with heap:=h1,toks:=C+1 }) ho λh2 Y n=>?_]
  let n:LN e h1 h2:=n
  let fr:=I.fresh
  let I1:Inv X NK σ (upd H s.z (.tup [.int ((i+c:Nat):Int),x])) { s with heap:=s.heap.push { cls:=.type "tuple",data:=.seq (List.toArray [.int ((i+c:Nat):Int) C,u]) },toks:=s.toks }:=
   I.laid (λb v q=>J6 _ q) (Jo _) #[Ng rfl,[.int ((i+c:Nat):Int) C,u],.cons #[_,rfl] (.cons ru .nil),#[_,Jt _ rfl,8,7],#[_,Jt _ rfl,rfl]]
  let fk:∀{b:k_},b<s.z->cP X NK H b->cP X NK (upd H s.z (.tup [.int ((i+c:Nat):Int),x])) b:=λ{b} lt f=>#[by rw[ay (JH lt)];exact f.1,f.2]
  let fe:=fk le (L e (_))
  let fi:=fk li (L it (_))
  let I2:Inv X NK σ (upd H s.z (.tup [.int ((i+c:Nat):Int),x])) { s with heap:=h2,toks:=C+1 }:=by
   refine rJ (s:={ s with heap:=s.heap.push { cls:=.type "tuple",data:=.seq (List.toArray [.int ((i+c:Nat):Int) C,u]) },toks:=s.toks }) I1 (λb o ne ni q=>?_) fe fi
   let q:(s.heap.push { cls:=.type "tuple",data:=.seq (List.toArray [.int ((i+c:Nat):Int) C,u]) }).get? b=MW o:=q
   refine(n.2 b ne).trans ?_
   rcases Heap.get?_push_cases q with⟨rfl,rfl⟩|q
   .exact hT
   .exact hk b o ne ni q
  refine #[.ref s.z,_,I2,8,#[_,x,8,fr,8,λys hy=>by rw[I.iP hy M];exact hx],#[#[u,?_],J.1.at λo z=>(n.2 it r.symm).trans z],λb F=>?_]
  .rw[show((i+1+c:Nat):Int)=((i+c:Nat):Int)+1 by omega];exact Y
  .rcases(show b=e\/b=it by simpa using F)with rfl|rfl
   .exact fe.1
   .exact fi.1
 done:=by
  intro X N O Q R i NK s σ H E I L st S
  subst N O Q
  let[xs,M,hx]:=S
  let[m,T,p,hz]:=I.list M
  obtain⟨⟨g,he⟩,j⟩:=st
  let[f0,f1,f2,f3,f4,f5]:=L it (_)
  let hl:=T.length
  let t:a≠it:=λz=>by
   subst z
   let[o1,U,V,_]:=j
   let[o2,y1,y,_]:=p.isList
   rw[U]at y1;cases y1
   rw[V]at y;exact absurd (MS.inj y) ⋯
  let B:X.A.in1.handled=MX:=I.ok.hd R
  exact wpAny_pyNext_enum_endD (sI B it a t m.toArray (i:=i) (by simp;omega)) he #[8,j,p.isList] λh' eb=>#[8,I.turned (t':=s.toks) (λb o F q=>eb b o F q) f0 f1 f3 f4 f5]
 self:=λ_ _ _ _ _ st h=>let⟨⟨_,he⟩,_⟩:=st;wpAny_pyIter_enum he h
def nI:Kk "enumerate"=MW (.type "enumerate"):=by decide +kernel
section
variable{X:Cx}{elts:m3}{kt:Nat}{pt:Pos}
def Gk(K:J1)(b:TA):TI:=λσ H R=>b σ H λvs H1=>∃a xs,vs=[.ref a]/\H1 a=MW (.lst xs)/\R (Yz K 0 a) H1
def BV{a:l_}{k:TA}{p f:Pos}(m:Gl X "enumerate")(o:X.mg "enumerate"=MX)(ha:PA X [a] k)(hs:Jz [a] X.env=[(MZ,eval a X.env)]:=by rfl):PI X (.Tuple elts kt pt) (.Call (.Name "enumerate" p) [a] [] f) (Gk X.K k):=by
 intro NK s σ H R I h;refine Call_ (f6 I m o nI (LA (Nf (ha f NK s σ H _ I h) λus c d=>?_) hs rfl));let[vs,H1,i,t,v]:=d;let[l,xs,w,x,q]:=v;subst w;let[u,8,y]:=t.one;cases y;let[z,A,n,r,hl,e]:=i.pP x;refine call_enumerate_1 e λE he j B C=>wpAny_pyIter_enum he ?_
 let fp:∀b∈[c.z+1,c.z],cP X NK H1 b:=λb D=>by
  let g:c.z<=b:=by
   rcases(show b=c.z+1\/b=c.z by simpa using D)with rfl|rfl
   .exact MC _
   .exact Jo _
  exact i.sS g (i.hok.fresh g)
 exact #[_,[c.z+1,c.z],_,_,H1,8,i.kept (t':=c.toks) C,vg 0 l _ _ (Nat.succ_ne_self _),#[#[_,he],j],fp,q]
def AK(c:Nat){K:J1}{H1:Hp}{l:k_}{es:ox}:Wo K H1 #[es.length,λi=>(es[i]?).map λd=>.tup [.int ((i+c:Nat):Int),d],λM=>M l=MW (.lst es)] (Yz K c l):=by
 refine #[λn e o b f=>?_,λi n e hi o b f=>?_,?_]
 .obtain⟨a,g,h⟩:=b _ _ (show e l=MW (.lst es)from f);exact #[a,Ni.of g,by rw[<-h.length];exact Jo _]
 .obtain⟨a,g,h⟩:=b _ _ (show e l=MW (.lst es)from f);let j:i<a.length:=by rw[<-h.length];exact hi
  exact #[a,a[i],Ni.of g,by simp[j]]
 .rintro i n e v p hi o b f ⟨T,y,rfl,k,rfl,g⟩;let hi:i<es.length:=hi;let[a,m,h]:=b _ _ (show e l=MW (.lst es)from f);let[x,e1,e2]:=h.get (show es[i]?=MW es[i] by simp[hi]);have:=g a (Ni.of m);rw[e1]at this;cases this;exact #[.new k,b.new k,.tup [.int ((i+c:Nat):Int),es[i]],by simp[hi],by rw[Rep];exact #[T,7,Nl.of az,.cons (by rw[Rep]) (.cons (e2.mono (.new k)) .nil)]]
def HL(b:Ny):Ou:=λδ M R=>b δ M λc a=>∃l es,c=[.ref l]/\a l=MW (.lst es)/\R #[es.length,λi=>(es[i]?).map λd=>.tup [.int (i:Int),d],λM=>M l=MW (.lst es)] a
theorem Cb{a:l_}{d:Ny}{p b:Pos}(g:Gl X "enumerate")(h:X.mg "enumerate"=MX)(ha:DA X [a] d)(hs:Jz [a] X.env=[(MZ,eval a X.env)]:=by rfl):DI X (.Tuple elts kt pt) (.Call (.Name "enumerate" p) [a] [] b) (HL d):=
 nN (BV g h ha hs) λσ H R i=>by
  let[δ,M,s,hs,j,q,c]:=i
  exact #[δ,M,_,hs,j,q,λt k vs H1 g1 m f n=>by
   let[l,es,e,hl,o]:=n
   subst e
   let[v,8,r]:=bR m
   rw[Rep]at r;subst r
   let[xs,hx,u]:=f _ _ hl
   exact #[l,xs,8,hx,c _ k H1 _ g1 f o (AK 0)]]
end
section
variable{X:Cx}
def pb{x:Str}{i:Int}{a:Pos}(c:Gl X x)(b:∃t,X.mg x=MW (.int i t))(hd:(x==("__debug__":Str))=MZ:=by decide):DE X (.Name x a) (Rf (.int i)):=by let[t,b]:=b;exact dc (uG (v:=.int i) c b #[t,rfl] hd) λ_=>by rw[Rep]
theorem Hb{K:J1}{mg:Str->Option J3}{h:lj}{x:Str}{i:Int}{t:Tok}(X:K.In h)(G:h.Ns JR mg)(a:Kb K JR x=MW (MW (.int i t))):∃t,mg x=MW (.int i t):=#[t,PySem.W.mg_of X G a]
variable{o:l_}{to:TD}{apos NO:Pos}
end
end SD
namespace HT
open PySem PyProof.Rows
end HT
namespace SD
open PySem PySem.Spec PyProof.Rows L2
section
variable{X:Cx}
variable{o e1:l_}{to:TD}{t:Ny}{apos NO:Pos}
def Hl(te:TD):OL:=λδ M Q=>te δ M λx a=>∃l xs,x=.ref l/\a l=MW (.lst xs)/\Q (!xs.isEmpty) a
theorem Fl{e:l_}{te:TD}(he:DE X e te)(hw:∀whole,isTrue e X.env whole=(do let v <-whole;ML e.pos;holding [v] (truthy v)):=by intro _;rfl):DT X e (Hl te):=
 ji (xH he hw) λσ H Q ⟨δ,M,R,hs,f,q,a⟩=>#[δ,M,_,hs,f,q,λx j v H1 g1 c d ⟨l,xs,ex,hl,g⟩=>by
  subst ex
  rw[Rep]at c;subst c
  let[b,h,i]:=d _ _ hl
  exists _,.inl #[b,Ni.of h,rfl]
  let e:b.isEmpty=xs.isEmpty:=by
   have:=i.length
   cases xs<;>cases b<;>simp at this ⊢
  rw[e]
  exact a _ _ _ g1 d g]
end
open PySem PySem.W PySem.Spec PySem.Calls PyProof.Rows Builtin Builtin.ObjectAttr Builtin.Getset_descriptor
section
variable{prog:Jv}{w:JP}{A:JQ}{E:J3->J4->Prop}{h:lj}{g:Array GenState}{d:Drawn}{t:Nat}{os:OsState}{K:Frag}{a C:k_}{o:Obj}
structure PL(K:Frag)(C:k_):Prop where
 ga:findIn K (.ref C) "__getattribute__"=MW (MW (.builtin "BaseException.__getattribute__"))
 gt:findIn K (.ref C) "__getattr__"=MW MX
 cl:findIn K (.ref C) "__class__"=MW (MW (.builtin "object.__class__"))
 sub:subIn K (.ref C) (.type "BaseException")=MW MY
 mro:mroIn K C (.type "object")=MW MY
theorem dF{M:Model}(hx:h.get? a=MW o)(b:o.cls=.ref C):Looks M h (typeOf (.ref a)) (.ref C):=b▸(Looks.ld hx).andThen .now
def mh{R:Result->J4->Prop}{b:J3}(X:K.In h)(Z:PL K C)(hx:h.get? a=MW o)(c:o.cls=.ref C)(e:R (.ok (.ret (.ref C))) #[h,g,d,t,os]) :
 L5 (Ju prog w) A (.call (.builtin "getset_descriptor.__get__") #[[.builtin "object.__class__",.ref a,b],[]]) R #[h,g,d,t,os]:=by
 let f:=dF (M:=Ju prog w) hx c
 let i:=looks_mroIn (M:=Ju prog w) X Z.mro
 refine MF KF.slot_gs.plain KF.entry_gs (KF.slot_gs.check _ _ _ _ _ _ _ _ KF.type_class (KF.args_gs _ _ b) ?_)
 unfold LD.«getset_descriptor.__get__» descrGet;rw[dga_obj];refine J0 (J5 ?_);unfold descrGetter descrCheckInstance;unfold descrNameAndClass isInstance
 simp only[KF.owner_class]
 repeat lk
 refine And.intro (Code.quiet_builtin _ (by decide +kernel)) (codeAny_builtin KF.entry_class ?_);unfold LD.«object.__class__» shownTypeOf;(repeat lk)
 exact e
def vD{tk:Tok}{Q:PySem.Fin->J4->Prop}(X:K.In h)(Z:PL K C)(hx:h.get? a=MW o)(e:o.cls=.ref C)(k:Q (.done (.ret (.ref C))) #[h,g,d,t,os]) :
 Jq (Ju prog w) A (LD.«object.__getattribute__» #[[.ref a,.str "__class__" tk],[]]) Q E #[h,g,d,t,os]:=by
 let f:=dF (M:=Ju prog w) (a:=a) hx e
 let i:=looks_findIn (M:=Ju prog w) X Z.cl
 let j:(#[h,g,d,t,os]:J4).TypeIs (.builtin "object.__class__") "getset_descriptor":=KF.type_class
 let l:=KF.type_class
 let b:=F.slot_gs_get.lookup;let c:=F.slot_gs_set.lookup
 repeat (any_goals (first|assumption|with_reducible refine Looks.at f ?_|with_reducible refine Looks.at i ?_|wp_step))
 refine mh X Z hx e ?_
 repeat (any_goals (first|wp_step|assumption))
def mG{M:Model}{b:J3}{Q:Unit->J4->Prop}(X:K.In h)(Z:PL K C)(hx:h.get? a=MW o)(e:o.cls=.ref C)(l:Q ⟨⟩ #[h,g,d,t,os]):Jq M A (checkBuiltinCall "BaseException.__getattribute__" #[[.ref a,b],[]]) Q E #[h,g,d,t,os]:=by
 let f:builtinKind "BaseException.__getattribute__"=MW .slot:=by decide +kernel
 let sp:splitId "BaseException.__getattribute__"=MW ("BaseException","__getattribute__"):=by decide +kernel
 let c:=F.args_bexc_ga (.ref a) b;let i:=dF (M:=M) hx e;let j:=looks_subIn (M:=M) X Z.sub;let k:Looks M h (isInstance (.ref a) (.type "BaseException")) MY:=i.andThen j;simp only[checkBuiltinCall,f,sp];refine J0 (k.at ?_)
 repeat (first|assumption|wp_step)
theorem Am{tk:Tok}{R:Result->J4->Prop}(sl:Slot "ValueError" "__getattribute__" "BaseException.__getattribute__")(X:K.In h)(Z:PL K C)(hx:h.get? a=MW o)(b:o.cls=.ref C)(c:R (.ok (.ret (.ref C))) #[h,g,d,t,os]) : L5 (Ju prog w) A (.call (.builtin "BaseException.__getattribute__") #[[.ref a,.str "__class__" tk],[]]) R #[h,g,d,t,os]:=MF sl.plain F.entry_bexc_ga (mG X Z hx b (vD X Z hx b c))
def vz{Q:Option J3->J4->Prop}(sl:Slot "ValueError" "__getattribute__" "BaseException.__getattribute__")(X:K.In h)(Z:PL K C)(hx:h.get? a=MW o)(c:o.cls=.ref C)(k:Q (MW (.ref C)) #[h,g,d,t+1,os]):Jq (Ju prog w) A (getAttr? (.ref a) "__class__") Q E #[h,g,d,t,os]:=by
 let e:=dF (M:=Ju prog w) hx c;let f:=looks_findIn (M:=Ju prog w) X Z.ga;let L2:=looks_findIn (M:=Ju prog w) X Z.gt;let l:=sl.bind (.ref a);let i:(MZ&&onTheHeap (LO "BaseException.__getattribute__"))=MZ:=rfl;let b:(LO "BaseException.__getattribute__"==LO "object.__getattribute__")=MZ:=by decide +kernel
 let j:(onTheHeap (JV C)&&LO "BaseException.__getattribute__"==LO "object.__getattribute__")=MZ:=by rw[b];rfl
 unfold getAttr? getAttrBy?
 repeat (any_goals (first|assumption|with_reducible refine Looks.at e ?_|with_reducible refine Looks.at f ?_|with_reducible refine Looks.at L2 ?_|wp_step))
 refine Am sl X Z hx c ?_
 repeat (any_goals (first|wp_step|assumption))
theorem tK(sl:Slot "ValueError" "__getattribute__" "BaseException.__getattribute__")(Z:PL K C)(b:(clsIn K C).isSome=MY):KitX K (.ref a) (.ref C) (λh=>∃o,h.get? a=MW o/\o.cls=.ref C) where
 ty:=λM h X ⟨o,hx,f⟩=>dF hx f
 it:=λM h X _=>by
  unfold clsIn at b
  split at b
  .rename_i c' d' cd' sl' ho
   intro m p r u k q
   unfold isType loadHead
   refine J0 ?_;exact wpAny_loadPart (k _ _ (X _ _ ho)) (J5 q)
  .cases b
 ne:=λh i v j n sl X ht=>by
  unfold clsIn at b
  split at b
  .rename_i c' d' cd' sl' ho
   refine Bool.eq_false_iff.mpr λq=>?_;let e:C=i:=JV.inj (beq_iff_eq.mp q)
   subst e
   have:=X _ _ ho
   rw[ht]at this
   cases this
  .cases b
 ca:=λ{prog w A E Q s} X c l=>by
  let[o,hx,f]:=c
  let[x,g,d,t,os]:=s
  exact vz sl X Z hx f l
end
def jS(h:lj):m_->lj
 |[]=>h
 |a::l=>(jS h l).hide a
theorem eQ{h:lj}{b:k_}:∀{l:m_},b∉l->(jS h l).get? b=h.get? b
 |[],_=>rfl
 |a::l,n=>by
  unfold jS
  rw[Heap.hide_ne _ (λe=>n (by rw[e];exact JW))]
  exact eQ λz=>n (JC _ z)
theorem gE{h:lj}{b:k_}:∀{l:m_},b∈l->(jS h l).get? b=MX
 |a::l,m=>by
  unfold jS
  by_cases e:b=a
  .subst e;exact Heap.hide_self _ _
  .rw[Heap.hide_ne _ e]
   exact gE ((JU.mp m).resolve_left e)
def rC{h:lj}{b:k_}{o:Obj}{l:m_}(e:(jS h l).get? b=MW o):b∉l/\h.get? b=MW o:=by
 by_cases m:b∈l
 .rw[gE m]at e;cases e
 .rw[eQ m]at e;exact #[m,e]
def iT{env:Env}{l:List Env}{L:k_}(h:env.frame=MW L):OG (env::l)=L::OG l:=by unfold OG;rw[Ll,h]
theorem qu{h base a:lj}:∀{l:List Env},h.FunFrames base l->(∀b∈OG l,a.get? b=MX)->h.FunFrames a l
 |[],_,_=>trivial
 |env::r,⟨hk,⟨L,o,hf,hn,ho,hd⟩,hr⟩,n=>#[hk,#[L,o,hf,n L (by rw[iT hf];exact JW),ho,hd],qu hr λb c=>n b (by rw[iT hf];exact JC _ c)]
theorem ko{h base:lj}:∀{l:List Env}{b:k_},h.FunFrames base l->b∈OG l->∃o,h.get? b=MW o/\∀vs:Array J3,o.data≠.fields vs
 |[],_,_,m=>by unfold OG at m;simp at m
 |env::r,b,⟨hk,⟨L,o,hf,hn,ho,hd⟩,hr⟩,m=>by
  rw[iT hf]at m
  rcases JU.mp m with e|m
  .exact #[o,by rw[e];exact ho,hd]
  .exact ko hr m
def Bk{P:Jv}{w:JP}{H:Hp}{h:lj}{a:k_}{o:HO}(x:bB P w H h a o):∃u,h.get? a=MW u:=by
 cases o with
 |lst xs=>let[_,_,_,_,e]:=x;exact #[_,e]
 |tup xs=>obtain⟨_,_,_,⟨_,e,_⟩,_⟩:=x;exact #[_,e]
 |dK kvs=>let[_,_,_,_,o,_,_,e,_]:=x;exact #[_,e]
 |dT kvs=>let[_,_,_,_,o,_,_,e,_]:=x;exact #[_,e]
 |set S n=>let[o,_,_,_,e,_]:=x;exact #[_,e]
 |ins C b fs=>let[_,_,_,e,_]:=x;exact #[_,e]
 |own y=>let[_,e]:=x;exact #[_,e]
 |xd fs=>obtain⟨_,⟨_,_,_,e,_⟩,_⟩:=x;exact #[_,e]
 |rng lo hi=>let[_,_,_,e]:=x;exact #[_,e]
 |frz ob u=>let[e,_]:=x;exact #[_,e]
 |tbl ps=>exact #[_,(show h.get? a=MW _ from x)]
 |met f y=>exact #[_,(show h.get? a=MW _ from x)]
 |ext c=>let[_,e,_]:=x;exact e
structure QN(P:Jv)(w:JP)(outer:List Env)(H H':Hp)(s s':J4)(a C:k_):Prop where
 os:s'.os=s.os
 bare:AllBare s'.gens
 bs:∃(b:lj) (a0:J3),b.FlyingW outer a (.ref C) a0 s'.heap/\O8 P w H' b/\
  (∀x o,s.heap.get? x=MW o->H x=MX->x∉OG outer->b.get? x=MW o)/\(∀x o,s.heap.get? x=MW o->x∉OG outer->∃o',b.get? x=MW o')
 slot:∀x o,s.heap.get? x=MW o->H x=MX->x∈OG outer->∃sl,s'.heap.get? x=MW { o with slots:=sl }
 free:∀x o,s.heap.get? x=MW o->H x=MX->H' x=MX
 tups:∀b xs,H b=MW (.tup xs)->H' b=MW (.tup xs)
 frzs:∀b o u,H b=MW (.frz o u)->H' b=MW (.frz o u)
 tbls:∀b ps,H b=MW (.tbl ps)->∃more,H' b=MW (.tbl (ps++more))
section
variable{P:Jv}{w:JP}{outer:List Env}{H H':Hp}{s s':J4}{a C:k_}
def QN.un(F:QN P w outer H H' s s' a C)(f:∀x∈OG outer,H x=MX):Un (OG outer) [] H H' s.heap s'.heap:=by
 let[b,a0,c,hok,kp,g]:=F.bs;refine #[λx o e n h _=>c.1 x o (kp x o e n h),λx o e n m _=>F.slot x o e n m,λx o e n _=>F.free x o e n,λx o e _=>?_,F.tups,F.frzs,F.tbls];by_cases m:x∈OG outer
 .obtain⟨sl,q⟩:=F.slot x o e (f x m) m;exact #[_,q]
 .obtain⟨d,q⟩:=g x o e m;exact #[d,c.1 x d q]
def QN.hok(F:QN P w outer H H' s s' a C):O8 P w H' s'.heap:=by let[b,a0,c,hok,_,_]:=F.bs;exact hok.kept c.1
def QN.new(F:QN P w outer H H' s s' a C):H' a=MX:=by
 let[b,a0,c,hok,_,_]:=F.bs;cases e:H' a with
 |none=>rfl
 |some o=>
  let[u,q]:=Bk (hok a o e)
  rw[c.2.1]at q;cases q
def QN.apart(F:QN P w outer H H' s s' a C){x:k_}{o:Obj}(e:s.heap.get? x=MW o)(n:H x=MX):x≠a:=by
 rintro rfl;let[b,a0,c,hok,kp,_]:=F.bs;by_cases m:x∈OG outer
 .obtain⟨g,f,d⟩:=ko c.2.2.1 m;let[h,vs,T,i,j,h1,_,h2,_]:=c.2.2.2;rw[h1]at f;cases f;exact d vs h2
 .have:=kp x o e n m;rw[c.2.1]at this;cases this
end
def BC{K:J1}{fs ex:m_}{H b:Hp}{h h':lj}(u:Un fs ex H b h h'):Nb K H b:=by
 refine #[λa xs q=>?_,λa xs q=>?_]
 .rcases q with(q|⟨o,q⟩)|q
  .exact .inl (.inl (u.tups _ _ q))
  .exact .inl (.inr #[o,u.frzs _ _ _ q])
  .exact .inr q
 .rcases q with⟨o,q⟩|q
  .exact .inl #[o,u.frzs _ _ _ q]
  .exact .inr q
def Wv(P:Jv)(w:JP):QO:=λouter H s E e c=>∃a C b,e=.ref a/\QN P w outer H b s c a C/\E (.ref C) MX b
section
variable{P:Jv}{w:JP}{K:J1}{mg:Str->Option J3}{base:lj}{N:nj}{qual:Str}{scope:Lq}{f:k_}{cd:J3}{A:JQ}{outer:List Env}{s:J4}{H:Hp}{E:XK}
def AM{NK:l'}{σ:L2.St}{H1:Hp}{a:J4}(I:Inv (bg (Wv P w) P w K mg base N qual scope f cd A outer s H E) NK σ H1 a){x:k_}{o:Obj}(e:s.heap.get? x=MW o)(n:x∉OG outer):x∉OG (bg (Wv P w) P w K mg base N qual scope f cd A outer s H E).stack:=by
 show x∉OG ((bg (Wv P w) P w K mg base N qual scope f cd A outer s H E).env::outer);rw[iT (L:=(bg (Wv P w) P w K mg base N qual scope f cd A outer s H E).env.locals) rfl];intro m;rcases JU.mp m with z|z
 .have h1:s.z<=(bg (Wv P w) P w K mg base N qual scope f cd A outer s H E).env.locals:=I.ok.above;let h2:=Js e;rw[z]at h2;exact absurd (JF h2 h1) (KS _)
 .exact n z
end
abbrev PX:List J3:=[MS "ValueError",MS "Exception",MS "BaseException",MS "object"]
structure ClsE(K:J1)(x:Str)(C:k_):Prop where
 nm:Kb K JR x=MW (MW (.ref C))
 ex:MJ K C PX "ValueError.__new__"=MY
section
variable{P:Jv}{w:JP}{K:J1}{mg:Str->Option J3}{base:lj}{N:nj}{qual:Str}{scope:Lq}{f:k_}{cd:J3}{A:JQ}{outer:List Env}{s:J4}{H:Hp}{E:XK}
end
abbrev hold(X:Cx)(a:k_):Cx:={ X with A:=X.A.mark (MW (.ref a)),calm:=MZ }
section
variable{X:Cx}{NK:l'}{σ:L2.St}{H:Hp}{s:J4}{a:k_}
theorem qx(I:Inv X NK σ H s):Inv (hold X a) NK σ H s:=#[#[I.ok.mod,I.ok.kind,I.ok.glob,I.ok.blt,I.ok.above,I.ok.inj,I.ok.has,I.ok.cab,(λz=>Bool.noConfusion z),I.ok.frames,I.ok.stk,I.ok.exf,I.ok.bs,I.ok.bsz,I.ok.noex,I.ok.exfs,I.ok.fB,I.ok.frf],I.os,I.bare,I.base,I.loc,I.cell,I.free,I.freeC,I.pin,I.hok,I.len]
theorem fD(ok:X.Ok)(I:Inv (hold X a) NK σ H s):Inv X NK σ H s:=#[ok,I.os,I.bare,I.base,I.loc,I.cell,I.free,I.freeC,I.pin,I.hok,I.len]
def gN{M:Model}{A:JQ}{E:J3->J4->Prop}{j:Nat}{n:Str}{t:Pos}{Q:Unit->J4->Prop}(I:Inv X NK σ H s)(F:X.N.Nodup)(x:X.N[j]?=MW n)(G:X.env.scope.names.lookup n=MW .local)
 (h:∀B,Inv X NK (σ.set j MX) H B->Q .unit B):Jq M A (do bindName X.env n Lg;unbindBehindTheSuite X.env n t) Q E s:=by
 let[m,C,hl]:=id I.loc
 let g:(X.env.scope.kind==.class||(X.env.scope.kind==.module&&X.env.locals != X.env.globals))=MZ:=by rw[I.ok.kind];rfl
 let l:j<σ.length:=by rw[I.len];exact(Jp.mp x).1
 let cne:=I.cne
 let[U,_,_,J,_]:=id C
 refine wpAny_nameGoes_keeps G C g λK v u hs=>?_
 refine h { s with heap:=K,toks:=s.toks+1 } #[I.ok,I.os,I.bare,#[λb o e n w hx=>?_,λb o e n w hx=>?_,I.base.free,λb o e hx=>?_,I.base.tups,I.base.frzs,I.base.tbls],#[_,u,λi y L e1 e2 e3=>?_],λy c e=>?_,I.free,I.freeC,λp O=>?_,λb ob e=>?_,‹I.len›]
 .exact(hs.2 b (JH (JF (Js e) I.ok.above))).trans (I.base.keep b o e n w hx)
 .obtain⟨sl,e1⟩:=I.base.slot b o e n w hx
  exact #[sl,(hs.2 b (JH (JF (Js e) I.ok.above))).trans e1]
 .obtain⟨P,e1⟩:=I.base.there b o e hx
  exact #[P,(hs.2 b (JH (JF (Js e) I.ok.above))).trans e1]
 .by_cases f:i=j
  .subst f
   rw[List.getElem?_set_self l]at e2
   cases e2
  .rw[List.getElem?_set_ne (Ne.symm f)]at e2
   let[R,S,q]:=hl i y L e1 e2 e3
   exists R,S
   rcases q with⟨k,e⟩|⟨k,c,e,z⟩
   .refine .inl #[k,?_]
    have:y≠n:=λe=>f (kO F e1 (e▸x))
    simp[this,e]
   .exact .inr #[k,c,e,z.sameBut hs (cne y c e)]
 .obtain⟨D,z⟩:=I.cell y c e
  exact #[D,z.sameBut hs (cne y c e)]
 .obtain⟨e,n,ne,T,d⟩:=I.pin p O
  exact #[(hs.2 p.1 ne).trans e,n,ne,T,d]
 .refine(I.hok b ob e).dg (λc D r q=>(hs.2 c ?_).trans q) (λ_ q=>q) λ_ _ q=>q
  rintro rfl
  rcases r with rfl|r
  .rw[I.free]at e;cases e
  .rw[I.free]at r;cases r
end
def pQ{M:Model}{A:JQ}{E:J3->J4->Prop}{K:J1}{s:J4}{a C S:k_}{o:Obj}{Q:Bool->J4->Prop}(X:K.In s.heap)(f:s.heap.get? a=MW o)(g:o.cls=.ref C) (d:MJ K S PX "ValueError.__new__"=MY) (h:Kc K (.ref S) (.type "BaseException")=MW MY) {b:Bool} (hs:Kc K (.ref C) (.ref S)=MW b) (q:Q b s):Jq M A (excMatches (.ref a) (.ref S)) Q E s:=by
 unfold MJ at d;split at d
 .rename_i dct cd sl hl;let e:s.heap.get? S=MW _:=X _ _ hl
  let i:MV M s.heap (isInstance (.ref S) (.type "tuple")) MZ:=by
   let t0:MV M s.heap (typeOf (.ref S)) (.type "type"):=(PySem.W.Looks.ld e).andThen .now
   exact t0.andThen (PySem.W.looks_subIn X (show Option.map _ (fastBuiltinMro "type")=_ by decide +kernel))
  let j:MV M s.heap (isType (.ref S)) MY:=by intro n p r t k q;unfold isType loadHead;refine J0 ?_;exact wpAny_loadPart (k _ _ e) (J5 q)
  let L2:=PySem.W.looks_subIn (M:=M) X h;let l:MV M s.heap (typeOf (.ref a)) (.ref C):=g▸(PySem.W.Looks.ld f).andThen .now;let m:=PySem.W.looks_subIn (M:=M) X hs;let c:∀(b:k_)(o:Obj),s.heap.get? b=MW o->s.heap.get? b=MW o:=λ_ _ z=>z;unfold excMatches isExcClass;refine J0 (i _ _ _ _ c ?_);simp only[JD,if_false,Mg,Ms,Lb,MK,KD];refine J0 (j _ _ _ _ c ?_);simp only[if_true];refine J0 (L2 _ _ _ _ c ?_);simp only[KD,JD,if_false,Lb,MK];refine J0 (l _ _ _ _ c ?_);refine J0 (m _ _ _ _ c ?_);cases b
  .simp only[JD,if_false,Lb,MK];exact J5 q
  .simp only[if_true,Lb,MK];exact J5 q
 .cases d
abbrev TR:=L2.St->Hp->(Hp->XK)->Prop
def gone(j:Nat)(D:Ends):Ends:={ nx:=λσ H=>D.nx (σ.set j MX) H,rt:=D.rt,bk:=λσ H=>D.bk (σ.set j MX) H,ct:=λσ H=>D.ct (σ.set j MX) H }
def Slots.gone{K:J1}{H:Hp}{δ:DS}{σ:L2.St}(h:Slots K H δ σ)(j:Nat):Slots K H (δ.set j MX) (σ.set j MX):=by
 refine #[by simp[h.len],λi d q=>?_];rw[List.getElem?_set]at q;by_cases a:j=i
 .rw[NB a]at q;split at q<;>cases q
 .rw[NA a]at q;let[b,e1,e2]:=h.at' i d q;exact #[b,by rw[List.getElem?_set,NA a];exact e1,e2]
def Dj(j:Nat)(B:EndsD):EndsD:={ nx:=λδ M=>B.nx (δ.set j MX) M,rt:=B.rt,bk:=λδ M=>B.bk (δ.set j MX) M,ct:=λδ M=>B.ct (δ.set j MX) M }
structure ErrK(K:J1)(C:k_):Prop where
 c:PL K C
 s:(PySem.W.clsIn K C).isSome=MY
def IK:D->Option J3
 |.ty n=>MW (.type n)
 |.ref d=>MW (.ref d)
 |_=>MX
def fU(s:lb)(i:Nat):lb:=match s with
 |.ClassDef _ _ _ b _ _ _ _ _ _ _=>b.getD i (.Pass #[0,0,0,0])
 |_=>.Pass #[0,0,0,0]
def cl(K:J1)(x:Str):k_:=match Kb K JR x with
 |some (MW (.ref C))=>C
 |_=>0
section
variable{K:J1}{x y:Str}{C D:k_}{b:Bool}
def cR(a:Kb K JR x=MW (MW (.ref C))):cl K x=C:=by unfold cl;rw[a]
def jN{h:lj}{mg:Str->Option J3}(X:K.In h)(G:h.Ns JR mg)(a:Kb K JR x=MW (MW (.ref C))):mg x=MW (.ref (cl K x)):=by rw[cR a];exact PySem.W.mg_of X G a
def IQ(a:Kb K JR x=MW (MW (.ref C)))(b:MJ K C PX "ValueError.__new__"=MY):ClsE K x (cl K x):=by rw[cR a];exact #[a,b]
def tm{n:String}(a:Kb K JR x=MW (MW (.ref C)))(h:Kc K (.ref C) (.type n)=MW b):Kc K (.ref (cl K x)) (.type n)=MW b:=by rw[cR a];exact h
def Ed(a:Kb K JR x=MW (MW (.ref C)))(c:Kb K JR y=MW (MW (.ref D)))(h:Kc K (.ref C) (.ref D)=MW b):Kc K (.ref (cl K x)) (.ref (cl K y))=MW b:=by rw[cR a,cR c];exact h
def BE{n:String}(a:Kb K JR x=MW (MW (.ref C)))(h:Kc K (.ref C) (.type n)=MW b)(c:PySem.W.kitMeta n=MY):JY K (.ref (cl K x)) (.type n)=MW b:=by rw[cR a];unfold JY PySem.W.kitCls;rw[NA (by intro z;cases (beq_iff_eq.mp z))];show(if PySem.W.kitMeta n=MY then _ else _)=_;rw[NB c];exact h
def jo{c:Option k_}{cd:ClassData}{sl:Array (Option J3)}(a:Kb K JR x=MW (MW (.ref C)))(d:Kb K JR y=MW (MW (.ref D)))(h:Kc K (.ref C) (.ref D)=MW b)(l:K.lookup D=MW #[.type "type",c,.cls cd,sl])(ne:(C==D)=MZ):JY K (.ref (cl K x)) (.ref (cl K y))=MW b:=by
 rw[cR a,cR d]
 let n:(JV C==JV D)=MZ:=by
  refine Bool.eq_false_iff.mpr λq=>?_
  let e:C=D:=JV.inj (beq_iff_eq.mp q)
  subst e
  simp at ne
 unfold JY PySem.W.kitCls;rw[n];unfold PySem.W.clsIn PySem.W.typeIn;simp only[l];exact h
def BG:JY K (.ref C) (.ref C)=MW MY:=by unfold JY;rw[NB (beq_self_eq_true _)]
def G9{c:Option k_}{cd:ClassData}{sl:Array (Option J3)}(a:Kb K JR x=MW (MW (.ref C)))(h1:Ko K (.ref C) "__getattribute__"=MW (MW (.builtin "BaseException.__getattribute__")))(h2:Ko K (.ref C) "__getattr__"=MW MX)(d:Ko K (.ref C) "__class__"=MW (MW (.builtin "object.__class__"))) (e:Kc K (.ref C) (.type "BaseException")=MW MY) (f:PySem.W.mroIn K C (.type "object")=MW MY) (g:K.lookup C=MW #[.type "type",c,.cls cd,sl]):ErrK K (cl K x):=by rw[cR a];exists #[h1,h2,d,e,f];unfold PySem.W.clsIn;simp only[g,Option.isSome]
end
def mx:Kk "ValueError"=MW (.type "ValueError"):=by decide +kernel
section
variable{X:Cx}{NK:l'}{σ:L2.St}{H:Hp}{s:J4}{a:k_}
def lV{o:HO}(I:Inv X NK σ H s)(g:H a=MX)(h0:∀o,X.s₀.heap.get? a=MW o->X.H₀ a≠MX)(h:a≠X.env.locals)(i:∀x c,X.env.cells.lookup x=MW c->c≠a)(j:∀p∈X.pn++NK,p.1≠a)(f:bB X.prog X.w (upd H a o) s.heap a o):Inv X NK σ (upd H a o) s:=by
 let ne:∀{b:k_}{o:HO},H b=MW o->b≠a:=λ{b o} e z=>by rw[z,g]at e;cases e
 refine #[I.ok,I.os,I.bare,#[I.base.keep,I.base.slot,λb o e n hx=>?_,I.base.there,λb xs e=>?_,λb o u e=>?_,λb ps e=>?_],I.loc,I.cell,?_,λx c e=>?_,λp d=>?_,λb o e=>?_,I.len]
 .by_cases z:b=a
  .subst z;exact absurd n (h0 o e)
  .rw[ay z];exact I.base.free b o e n hx
 .have:=I.base.tups b xs e;rw[ay (ne this)];exact this
 .have:=I.base.frzs b o u e;rw[ay (ne this)];exact this
 .obtain⟨more,this⟩:=I.base.tbls b ps e;exact #[more,by rw[ay (ne this)];exact this]
 .rw[ay h.symm];exact I.free
 .rw[ay (i x c e)];exact I.freeC x c e
 .obtain⟨e,n,r⟩:=I.pin p d;exact #[e,by rw[ay (j p d)];exact n,r]
 .by_cases z:b=a
  .subst z;rw[az]at e;cases e;exact f
  .rw[ay z]at e;exact(I.hok b o e).dg (λ_ _ _ q=>q) (λc q=>by rw[ay (ne q)];exact q) λc xs q=>by rw[ay (ne q)];exact q
end
section
variable{X:Cx}{pos:Pos}
variable{x:Str}{e1 e2:l_}{kt:Nat}{tp np:Pos}{t:Ny}
def Gg(t:TA):TE:=λσ H Q=>t σ H λvs H1=>∃n:Nat,vs=[.int (n:Int)]/\∀p,H1 p=MX->Q (.ref p) (upd H1 p (.rng 0 (n:Int)))
def Eu{a:l_}{d:TA}{p:Pos}(i:Gl X "range")(j:X.mg "range"=MX)(ha:PA X [a] d)(hs:Jz [a] X.env=[(MZ,eval a X.env)]:=by rfl):PE X (.Call (.Name "range" p) [a] [] pos) (Gg d):=by intro NK s σ H Q I h;refine Lx (f6 I i j boot_range (LA (Nf (ha pos NK s σ H _ I h) λus f c=>?_) hs rfl));let[vs,H1,g,k,n,l,q]:=c;subst l;let[u,8,t,8]:=vals1 k;refine call_range_1 ?_;let m:=g.hok.fresh (Jo f.z);exact #[.ref _,_,g.laid (a:=f.z) (o:=.rng 0 (n:Int)) (λb u e=>J6 _ e) (Jo _) #[_,_,_,Jt _ rfl],8,q _ m]
def rN:∀(n:Nat)(l:List J3),l.length=n->(∀(j:Nat)(v:J3),l[j]?=MW v->∃t,v=KZ (j:Int) t)->Vals ((JM n).map λi:Nat=>V.int (i:Int)) l:=by
 intro n l hl h
 let key:∀(m:Nat)(l:List J3),(∀(j:Nat)(v:J3),l[j]?=MW v->∃t,v=KZ ((m+j:Nat):Int) t)->Vals ((List.range' m l.length).map λi:Nat=>V.int (i:Int)) l:=by
  intro m l
  induction l generalizing m with
  |nil=>intro _;exact .nil
  |cons a l b=>
   intro h
   rw[JE,List.range'_succ,J9]
   refine .cons (h 0 a rfl) (b (m+1) λj v e=>?_)
   let[t,q]:=h (j+1) v ‹e›
   exact #[t,by rw[q];congr 1;omega]
 have:=key 0 l (λj v e=>‹h j v e›);rw[hl,<-List.range_eq_range']at this;exact this
def sX(g:X.calm=MY):bo X (.type "list") (λxs H Q=>∃a,∃n:Nat,xs=[.ref a]/\H a=MW (.rng 0 (n:Int))/\n<=1000000/\∀p,H p=MX->Q (.ref p) (upd H p (.lst ((JM n).map λi:Nat=>V.int (i:Int))))):=by
 intro NK s σ H xs us Q I r h;let[a,n,ex,ha,B,q]:=h;subst ex;let[u,8,k]:=vals1 r;cases (show u=JV a from k);let[t,u,v,e]:=I.hok a _ ha;let l:Builtin.Range.rangeSize 0 (n:Int) 1=(n:Int):=by rw[rangeSize_one];split<;>omega
 refine call_list_range (I.ok.hd g) e (small_one () () () ()) l () λC m c w kp y b=>?_;let[d,f]:=b;let z:=I.hok.fresh (Jo s.z);let A:Vals ((JM n).map λi:Nat=>V.int (i:Int)) c.toList:=rN n c.toList ‹d› λj v e=>by let[t,q]:=f j v ‹e›;exact #[t,by rw[q];congr 1;omega]
 refine #[.ref _,_,I.laid (a:=s.z) (o:=.lst ((JM n).map λi:Nat=>V.int (i:Int))) (t':=m) kp (Jo _) #[?_,c.toList,w,A,‹y›],8,q _ z];let sz:1000000<=JJ:=Ng rfl;simp;omega
def Ge(t:Ny):TD:=λδ M Q=>t δ M λb a=>∃n:Nat,b=[.int (n:Int)]/\n<=1000000/\∀p,a p=MX->Q (.ref p) (av a p (.lst ((JM n).map λi:Nat=>D.int (i:Int))))
def sj{K:J1}{H:Hp}(n:Nat):aC K H ((JM n).map λi:Nat=>D.int (i:Int)) ((JM n).map λi:Nat=>V.int (i:Int)):=by have:=cA (K:=K) (H:=H) ((JM n).map λi:Nat=>(i:Int));rw[Lr,Lr]at this;exact this
theorem yn{e:l_}{f g lp:Pos}(r:X.calm=MY)(s:X.mg "list"=MX)(h:X.mg "range"=MX)(ha:DA X [e] t)(i:Gl X "list":=by rfl)(j:Gl X "range":=by rfl)(hs:Jz [e] X.env=[(MZ,eval e X.env)]:=by rfl)
 (c:Jz [.Call (.Name "range" f) [e] [] g] X.env=(MZ,eval (.Call (.Name "range" f) [e] [] g) X.env)::Jz [] X.env:=by rfl) (d:(Lh pos (Jz [] X.env)).any (·.1)=MZ:=by rfl) :
 DE X (.Call (.Name "list" lp) [.Call (.Name "range" f) [e] [] g] [] pos) (Ge t):=
 aQ (nv (sX r) i s uC (iS (Eu j h ha hs) oA c) ⋯ ⋯ c d) λσ H Q ⟨δ,M,R,hs,u,q,k⟩=>by
  refine #[δ,M,_,hs,u,q,λC D vs H1 g1 w m a=>?_]
  let[n,y,z,A]:=a
  subst y
  let[v,8,o]:=bR w
  rw[Rep]at o;subst o
  refine #[n,8,λp l=>#[p,n,8,az,z,λB b=>?_]]
  exact k _ _ _ _ ((g1.trans (.new l)).trans (.new b)) (by rw[Rep]) ((m.new l).mB b (sj n)) (A B ((m.new l).fresh b))
end
abbrev Nv:=Int×Int×Int×Int
section
variable{P:Jv}{w:JP}
def sQ(P:Jv)(w:JP)(h:lj)(n d:Int)(a:k_):Prop:=IsTupleKey (LC P w) h [n,d] a
def fX(P:Jv)(w:JP)(h:lj)(k:Nv)(a:k_):Prop:=∃o b c m,h.get? a=MW o/\o.cls=.type "tuple"/\o.data=.seq (List.toArray [.ref b,.ref c]) m/\sQ P w h k.1 k.2.1 b/\sQ P w h k.2.2.1 k.2.2.2 c
def fX.inj{h:lj}{a:k_}{x y:Nv}(p:fX P w h x a)(q:fX P w h y a):x=y:=by
 let[o,b,c,m,h1,h2,i,j,k]:=p;let[t,l,n,u,g1,v,d,r,s]:=q;rw[h1]at g1;cases g1;rw[i]at d;injection d with e _;let e1:b=l/\c=n:=‹e›
 let[8,8]:=e1;let f:=IsTupleKey.inj j r;let g:=IsTupleKey.inj k s;let[x1,x2,z,A]:=x;let[y1,B,C,D]:=y;simp at f g;let[8,8]:=f;let[8,8]:=g;rfl
def fX.keeps{h h':lj}{k:Nv}{a d:k_}{o:Obj}{es:Array KH}{ep:Nat}(p:fX P w h k a)(hd:h.get? d=MW o)(he:o.data=.dict es ep)(e:LN d h h'):fX P w h' k a:=by
 let[g,b,c,m,h1,h2,f,i,j]:=p;let ne:a≠d:=λz=>by rw[z,hd]at h1;cases h1;rw[he]at f;cases f
 exact #[g,b,c,m,(e.2 a ne).trans h1,h2,f,IsTupleKey.keeps i hd he e,IsTupleKey.keeps j hd he e]
def yb(P:Jv)(w:JP)(k:Nv):Int:=reduceHash (Builtin.Tuple.tupleHashOf [tupleKeyHash (LC P w) [k.1,k.2.1],tupleKeyHash (LC P w) [k.2.2.1,k.2.2.2]])
def fX.hash{A:JQ}{E:J3->J4->Prop}{s:J4}{k:Nv}{a:k_}{Q:Int->J4->Prop}(i:A.units+4<Ky)(p:fX P w s.heap k a)(q:Q (yb P w k) { s with toks:=s.toks+7 }):Jq (Ju P w) A (pyHash (.ref a)) Q E s:=by
 let[o,b,c,m,h1,h2,e,f,h]:=p;let[j,g,d,l,os]:=s;show Jq _ _ (pyHashByItsType (.ref a)) _ _ _;refine PySem.W.pyHash_slot (T:="tuple") #[o,h1,h2] F.slot_tuple_hash F.entry_tuple_hash (F.args_tuple_hash_1 _) rfl (.inr ()) ?_;unfold LD.«tuple.__hash__»;simp only[<-Ly]
 iterate 4 wp_step
 refine J5 ?_;refine J0 (wpAny_tupleItemsOf h1 e ?_);refine J0 ?_;simp only[Mg,Ms,Lb,MK];refine J0 (wpAny_pyHash_tuple (knd:=LC P w) (by show A.units+1<Ky;omega) f ?_);refine J0 (wpAny_pyHash_tuple (knd:=LC P w) (by show A.units+1<Ky;omega) h ?_);refine J5 ?_;unfold retInt
 wp_walk
 exact #[_,7,q]
def fZ{n:Int}{v:J3}(h:(LC P w).is n v=MY):∃t,v=.int n t:=by
 let h:Value.isInt n v=MY:=h;cases v with
 |int i t=>
  have:(i==n)=MY:=h
  exact #[t,by rw[eq_of_beq this]]
 |_=>cases h
def Bf(n d:Int):MN:=.tuple [.int n,.int d]
def qq(k:Nv):MN:=.tuple [Bf k.1 k.2.1,Bf k.2.2.1 k.2.2.2]
def sQ.reads{h:lj}{n d:Int}{a:k_}(p:sQ P w h n d a):∃e,Reads h (.ref a) (Bf n d) e:=by
 let[o,b,m,h1,h2,f,c]:=p;generalize hl:b.toList=l at c;cases c with
 |cons hx r=>
  cases r with
  |cons g r=>
   cases r
   let[t1,8]:=fZ hx
   let[i,8]:=fZ g
   exact #[_,.tuple h1 h2 f (by rw[hl];exact .cons (.int _ _) (.cons (.int _ _) .nil))]
def fX.reads{h:lj}{k:Nv}{a:k_}(p:fX P w h k a):∃d,Reads h (.ref a) (qq k) d:=by let[o,b,c,m,h1,h2,e,f,g]:=p;let[d,i]:=f.reads;let[bs,j]:=g.reads;exact #[_,.tuple h1 h2 e (.cons i (.cons j .nil))]
def yk(x y:Nv):(qq x).eqv (qq y)=decide (x=y):=by let[x1,x2,a,b]:=x;let[y1,c,d,e]:=y;simp only[qq,Bf,KA,KU,Bool.and_true];rw[Mh];simp[and_assoc]
def fX.eq{A:JQ}{E:J3->J4->Prop}{s:J4}{x y:Nv}{a b:k_}{Q:Bool->J4->Prop}(g:A.units+4<Ky)(p:fX P w s.heap x a)(c:fX P w s.heap y b)(q:Q (decide (x=y)) s):Jq (Ju P w) A (eqBool (.ref a) (.ref b)) Q E s:=by let[d,e]:=p.reads;let[bs,f]:=c.reads;let hd:min (qq x).depth (qq y).depth<=3:=K0 (Nat.min_le_left _ _) (Ng rfl);have:=SeqAt.eqAt_reads (qq x) (qq y) A s (.ref a) (.ref b) d bs e f rfl rfl ();rw[yk]at this;exact this P w E Q q
def sQ.quiet{A:JQ}{E:J3->J4->Prop}{s:J4}{n d:Int}{a:k_}{Q:Bool->J4->Prop}(i:Nat)(p:sQ P w s.heap n d a)(q:Q MY s):Jq (Ju P w) A (eqIsQuiet (i+1) (.ref a)) Q E s:=by
 let[o,b,m,h1,h2,e,c]:=p;rw[eqIsQuiet.eq_2];refine J0 (wpAny_specialOf #[o,h1,h2] F.slot_tuple_eq.lookup ?_);refine J0 (Mp #[o,h1,h2] isSubtype_tuple_tuple ?_);simp only[KD,JD,if_false];refine J0 (MQ h1 e ?_);simp only[Option.getD_some,<-Ly];generalize hl:b.toList=l at c;cases c with
 |cons hx r=>
  cases r with
  |cons f r=>
   cases r
   let[t1,8]:=fZ hx
   let[g,8]:=fZ f
   refine J0 ?_
   simp only[Mg,Ms,Lb,MK,eqIsQuiet_byValue i (show carriedByValue (.int n t1)=MY from rfl),eqIsQuiet_byValue i (show carriedByValue (.int d g)=MY from rfl),KD,JD,if_false]
   refine J5 ?_
   exact J5 q
def fX.quiet{A:JQ}{E:J3->J4->Prop}{s:J4}{k:Nv}{a:k_}{Q:Bool->J4->Prop}(p:fX P w s.heap k a)(q:Q MY s):Jq (Ju P w) A (eqIsQuiet 8 (.ref a)) Q E s:=by let[o,b,c,m,h1,h2,d,e,f]:=p;rw[eqIsQuiet.eq_2];refine J0 (wpAny_specialOf #[o,h1,h2] F.slot_tuple_eq.lookup ?_);refine J0 (Mp #[o,h1,h2] isSubtype_tuple_tuple ?_);simp only[KD,JD,if_false];refine J0 (MQ h1 d ?_);simp only[Option.getD_some,<-Ly];refine J0 ?_;simp only[Mg,Ms,Lb,MK];refine J0 (e.quiet 6 ?_);simp only[KD,JD,if_false,Lb];refine J0 (f.quiet 6 ?_);simp only[KD,JD,if_false,Lb];refine J5 ?_;exact J5 q
def eJ(P:Jv)(w:JP):HeapKind P w Nv where
 is:=fX P w
 hash:=yb P w
 draws:=λ_=>7
 room:=λA=>A.units+4<Ky
 inj:=λp q=>p.inj q
 keeps:=λp hd he b=>p.keeps hd he b
 pyHash:=λa p q=>p.hash a q
 eqBool:=λa p c q=>p.eq a c q
 quiet:=λp q=>p.quiet q
end
section
variable{X:Cx}{NK:l'}{σ:L2.St}{H:Hp}{s:J4}{a b:k_}{k:Nv}
def dz(K:J1)(H:Hp)(b:k_)(k:Nv):Prop:=∃f g,Nl K H b [.ref f,.ref g]/\Nl K H f [.int k.1,.int k.2.1]/\Nl K H g [.int k.2.2.1,.int k.2.2.2]
def C2{n d:Int}{f:k_}(I:L2.Inv X NK σ H s)(h:Nl X.K H f [.int n,.int d]):sQ X.prog X.w s.heap n d f:=by
 let[c,r,ht,_]:=I.tuple h;cases r with
 |cons e r=>cases r with
  |cons g r=>
   cases r
   let[t1,8]:=e
   let[j,8]:=g
   let[o,h1,h2,m,i]:=ht
   exact #[o,_,m,h1,h2,i,.cons (by show((n==n)=MY);simp) (.cons (by show((d==d)=MY);simp) .nil)]
def tV(I:L2.Inv X NK σ H s)(h:dz X.K H b k):fX X.prog X.w s.heap k b:=by
 let[f,g,h1,h2,c]:=h;let[d,r,ht,_]:=I.tuple h1;cases r with
 |cons e r=>cases r with
  |cons i r=>
   cases r
   cases e
   cases i
   let[o,j,l,m,n]:=ht
   exact #[o,f,g,m,j,l,n,C2 I h2,C2 I c]
abbrev O3:=Nv×k_×V
def cj(P:Jv)(w:JP)(a:k_)(xs:List O3):lj->Prop:=λh=>(a==LL)=MZ/\xs.length<=JJ/\(xs.map (·.1)).Nodup/\∃c:List (Nv×k_×J3),
 Ml (λ(p:O3) (q:Nv×k_×J3)=>p.1=q.1/\p.2.1=q.2.1/\RelV p.2.2 q.2.2) xs c/\∃o es ep,h.get? a=MW o/\o.ExactDict/\o.data=.dict es ep/\es.toList=c.map (entryOfKey (eJ P w))
def gU(xs:List O3)(k:Nv)(b:k_)(v:V):List O3:=if(xs.any λx=>decide (x.1=k))=MY then xs.map (λx=>if x.1=k then(x.1,x.2.1,v)else x)else xs++[(k,b,v)]
abbrev RI:=λ(p:O3) (q:Nv×k_×J3)=>p.1=q.1/\p.2.1=q.2.1/\RelV p.2.2 q.2.2
def l7{xs:List O3}{c:List (Nv×k_×J3)}(r:Ml RI xs c):c.map (·.1)=xs.map (·.1):=by
 induction r with
 |nil=>rfl
 |cons h t d=>rw[J9,J9,d,h.1]
def Bm{xs:List O3}{d:List (Nv×k_×J3)}(r:Ml RI xs d)(k:Nv):(xs.any λx=>decide (x.1=k))=(atKey d k).isSome:=by
 induction r with
 |nil=>rfl
 |@cons p q ps qs h t ih=>
  rw[LP]
  by_cases e:p.1=k
  .have c:q.1=k:=h.1.symm.trans e;simp[atKey,JS,e,c]
  .have c:¬q.1=k:=λz=>e (h.1.trans z);rw[NC e,Bool.false_or,ih];simp[atKey,JS,c]
def kH{xs:List O3}{c:List (Nv×k_×J3)}(r:Ml RI xs c)(k:Nv)(b:k_){v:V}{u:J3}(d:RelV v u):Ml RI (gU xs k b v) (storedH c k b u):=by
 unfold gU storedH;rw[Bm r k];by_cases e:(atKey c k).isSome=MY
 .rw[NB e,NB e];clear e
  induction r with
  |nil=>exact .nil
  |@cons p q ps qs h t ih=>
   rw[J9,J9]
   refine .cons ?_ ih
   unfold putAt
   by_cases e:p.1=k
   .rw[NB e,NB (h.1.symm.trans e)];exact #[h.1,h.2.1,d]
   .rw[NA e,NA (λz=>e (h.1.trans z))];exact h
 .rw[NA e,NA e];exact Paired.snoc r #[8,8,d]
def oP{xs:List O3}{c:List (Nv×k_×J3)}(r:Ml RI xs c):xs.length=c.length:=by
 induction r with
 |nil=>rfl
 |cons h t d=>rw[JE,JE,d]
def Cn{xs:List O3}{c:List (Nv×k_×J3)}(r:Ml RI xs c){q:Nv×k_×J3}(h:q∈c):∃p∈xs,p.1=q.1/\p.2.1=q.2.1:=by
 induction r with
 |nil=>cases h
 |cons d t f=>
  rcases JU.mp h with z|z
  .subst z;exact #[_,by simp,d.1,d.2.1]
  .obtain⟨p,g,e⟩:=f z;exact #[p,by simp[g],e]
def pq(xs:List O3)(k:Nv)(b:k_)(v:V):(gU xs k b v).length<=xs.length+1:=by
 unfold gU;split
 .rw[J7];omega
 .simp
def sU{xs:List O3}(I:L2.Inv X NK σ H s)(e:H a=MW (.ext (cj X.prog X.w a xs)))(d:∀x∈xs,dz X.K H x.2.1 x.1):(a==LL)=MZ/\xs.length<=JJ/\∃c,Ml RI xs c/\s.heap.DictOfH (eJ X.prog X.w) a c:=by obtain⟨⟨h1,h2,f,c,r,o,es,ep,g,h,i,j⟩,_⟩:=I.hok a _ e;refine #[h1,h2,c,r,o,es,ep,g,h,i,j,λx hx=>?_,by rw[l7 r];exact f];let[p,l,e1,e2]:=Cn r hx;rw[<-e1,<-e2];exact tV I (d p l)
def nJ{P:Jv}{w:JP}{xs:List O3}(h1 h2:lj)(h:cj P w a xs h1)(k:∀o,h1.get? a=MW o->h2.get? a=MW o):cj P w a xs h2:=by let[c,d,e,f,r,o,es,ep,g,q]:=h;exact #[c,d,e,f,r,o,es,ep,k o g,q]
def BS{A:JQ}{E:J3->J4->Prop}{Q:Unit->J4->Prop}{xs:List O3}{v:V}{u:J3}(z:A.units+8<Ky)(I:L2.Inv X NK σ H s)(e:H a=MW (.ext (cj X.prog X.w a xs)))(i:∀x∈xs,dz X.K H x.2.1 x.1)(j:dz X.K H b k)(f:RelV v u)(hl:xs.length<JJ)
 (h:∀g,L2.Inv X NK σ (upd H a (.ext (cj X.prog X.w a (gU xs k b v)))) g->Q .unit g):Jq (Ju X.prog X.w) A (setItem (.ref a) (.ref b) u) Q E s:=by
 let[hd,l,B,r,m]:=sU I e i
 refine wpAny_setItem_heap (knd:=eJ X.prog X.w) (hsz:=by rw[<-oP r];exact l) (show A.in1.units+4<Ky by show A.units+1+4<Ky;omega) (tV I j) m λC c hs=>h _ ?_
 let[q,es,ep,d,n,o,p,_,t]:=c
 refine ki I (by rw[e];exact Lm) hs #[q,d] #[#[hd,?_,?_,_,kH r k b f,q,es,ep,d,n,o,p],#[q,d],λh1 h2 x y=>nJ h1 h2 x y]
 .have:=pq xs k b v;omega
 .rw[<-l7 (kH r k b f)];exact t
theorem tY(I:L2.Inv X NK σ H s):L2.Inv X NK σ (upd H s.z (.ext (cj X.prog X.w s.z []))) { s with heap:=s.heap.push { cls:=.type "dict",data:=.dict #[] } }:=
 I.laid (a:=s.z) (t':=s.toks) (λ_ _ q=>J6 _ q) (Jo _)
  #[#[beq_eq_false_iff_ne.mpr (Ne.symm (JH I.big)),Kh _,List.nodup_nil,[],.nil,_,#[],0,Jt _ rfl,#[8,8,rfl],8,rfl],#[_,Jt _ rfl],λh1 h2 x y=>nJ h1 h2 x y]
def lQ(xs:List O3)(k:Nv):Option V:=(xs.find? λx=>decide (x.1=k)).map (·.2.2)
def Bc{xs:List O3}{d:List (Nv×k_×J3)}(r:Ml RI xs d){v:V}(h:lQ xs k=MW v):∃p:k_×J3,atKey d k=MW p/\RelV v p.2:=by
 induction r with
 |nil=>cases h
 |@cons p q ps qs h' t ih=>
  by_cases e:p.1=k
  .have c:q.1=k:=h'.1.symm.trans e;simp[lQ,JS,e]at h;subst h;exact #[q.2,by simp[atKey,JS,c],h'.2.2]
  .have c:¬q.1=k:=λz=>e (h'.1.trans z);let h2:lQ ps k=MW v:=by simpa[lQ,JS,e]using h
   let[f,g,i]:=ih h2;exact #[f,by simpa[atKey,JS,c]using g,i]
def Cf{A:JQ}{E:J3->J4->Prop}{Q:J3->J4->Prop}{xs:List O3}{v:V}(j:A.units+8<Ky)(I:L2.Inv X NK σ H s)(e:H a=MW (.ext (cj X.prog X.w a xs)))(d:∀x∈xs,dz X.K H x.2.1 x.1)(f:dz X.K H b k)(g:lQ xs k=MW v) (h:∀u c,L2.Inv X NK σ H c->RelV v u->Q u c):Jq (Ju X.prog X.w) A (getItem (.ref a) (.ref b)) Q E s:=by let[hd,l,m,r,i]:=sU I e d;let[p,h1,h2]:=Bc r g;exact wpAny_getItem_heap (knd:=eJ X.prog X.w) (show A.in1.units+4<Ky by show A.units+1+4<Ky;omega) (tV I f) i h1 (h _ _ (I.tok _) h2)
end
section
variable{X:Cx}
def Fe(X:Cx):TE:=λ_ H Q=>∀p,H p=MX->Q (.ref p) (upd H p (.ext (cj X.prog X.w p [])))
theorem zW{a:Pos}:PE X (.Dict [] [] a) (Fe X):=λNK s σ H Q I h=>wpAny_Dict_empty #[.ref s.z,_,tY I,8,h _ (I.hok.fresh (Jo _))]
structure Wu(X:Cx)(H:Hp)(a b:k_)(xs:List O3)(k:Nv):Prop where
 d:H a=MW (.ext (cj X.prog X.w a xs))
 ks:∀x∈xs,dz X.K H x.2.1 x.1
 key:dz X.K H b k
def DN(X:Cx)(d ty:TE):TE:=λσ H Q=>d σ H λx H1=>ty σ H1 λy c=>∃a b xs k v,x=.ref a/\y=.ref b/\Wu X c a b xs k/\lQ xs k=MW v/\Q v c
def DX{NK:l'}{σ:L2.St}{H:Hp}{s:J4}{a:k_}{xs:List O3}(I:L2.Inv X NK σ H s)(e:H a=MW (.ext (cj X.prog X.w a xs))):s.TypeIs (.ref a) "dict"/\∀b,JV a=.ref b->∃o,s.heap.get? b=MW o/\o.dict=MX:=by obtain⟨⟨_,_,_,_,_,o,_,_,c,d,_⟩,_⟩:=I.hok a _ e;exact #[#[o,c,d.1],λb z=>by cases z;exact #[o,c,d.2.1]]
def yI{o i:l_}{f ty:TE}{e:Pos}(j:X.A.units+8<Ky)(l:PE X o f)(hi:PE X i ty)(hs:Ci i):PE X (.Subscript o i e) (DN X f ty):=by intro NK s σ H Q I h;refine Subscript_ (Nf (l NK s σ H _ I h) λv m ⟨x,H1,n,p,r⟩=>Nf (hi NK m σ H1 _ n r) λu J c=>?_);let[y,t,g,w,a,b,xs,k,z,ex,B,D,C,q]:=c;subst ex B;cases p;cases w;exact tail_any (DX g D.d).1 PySem.F.slot_dict_getitem.lookup (Cf j g D.d D.ks D.key C λK L E G=>#[z,t,E,G,q]) (hs _ _)
def Ew(X:Cx)(d ty e:TE):TS:=λD σ H=>e σ H λv H1=>d σ H1 λx f=>ty σ f λy c=>∃a b xs k,x=.ref a/\y=.ref b/\Wu X c a b xs k/\xs.length<JJ/\D.nx σ (upd c a (.ext (cj X.prog X.w a (gU xs k b v))))
def zJ{o i c:l_}{j ty l:TE}{g e:Pos}(m:X.A.units+8<Ky)(n:PE X o j)(hi:PE X i ty)(p:PE X c l)(hs:LW c (MW (.Subscript o i e)) g.line X.env=pure MZ) : PS X (.Assign [.Subscript o i e] c g) (Ew X j ty l):=by intro NK s σ H D I h;refine wpAny_Assign_Subscript (Nf (p NK s σ H _ I h) λr q ⟨v,H1,t,w,z⟩=>Nf (n NK q σ H1 _ t z) λu B ⟨x,C,E,F,G⟩=>Nf (hi NK B σ C _ E G) λO P f=>?_) hs;let[y,Q,J,K,a,b,xs,k,ex,L,A,hl,M]:=f;subst ex L;cases F;cases K;exact BS m J A.d A.ks A.key w hl λR N=>#[σ,_,N,M]
end
def Qr(k:Nv):D:=.tup [.tup [.int k.1,.int k.2.1],.tup [.int k.2.2.1,.int k.2.2.2]]
section
variable{K:J1}{H H':Hp}{M:MH}{a b:k_}{k:Nv}
def uM{v:V}(r:Rep K H (Qr k) v):∃b,v=.ref b/\dz K H b k:=by unfold Qr at r;rw[Rep]at r;let[b,xs,8,hx,l]:=r;let[q,s,8,c,d]:=dQ l;rw[Rep]at c d;let[f,fs,8,m,n]:=c;let[g,t,8,o,p]:=d;let[w1,w2,8,e,h]:=dQ n;let[u,w,8,i,j]:=dQ p;rw[Rep]at e h i j;subst e h i j;exact #[b,8,f,g,hx,m,o]
def yW(h:dz K H b k):Rep K H (Qr k) (.ref b):=by
 let[f,g,hx,d,e]:=h;unfold Qr;rw[Rep];exists b,7,hx;let c:∀(m n:Int),aC K H [D.int m,D.int n] [V.int m,V.int n]:=λm n=>cA [m,n];rw[aC];exists _,7,?_
 .rw[Rep];exact #[f,7,d,c _ _]
 .rw[aC];exists _,7,?_
  .rw[Rep];exact #[g,7,e,c _ _]
  .rw[aC]
def dz.mono(g:Nb K H H')(h:dz K H b k):dz K H' b k:=by let[c,e,r]:=uM ((yW h).mono g);cases e;exact r
abbrev Oz:=List (Nv×D)
def R5(kvs:Oz):J1->Hp->k_->Prop:=λK H a=>∃xs:List O3,(∀P w,H a=MW (.ext (cj P w a xs)))/\xs.map (·.1)=kvs.map (·.1)/\(∀x∈xs,dz K H x.2.1 x.1)/\aC K H (kvs.map (·.2)) (xs.map (·.2.2))
def zh{kvs:Oz}(h:R5 kvs K H a)(g:Nb K H H')(e:H' a=H a):R5 kvs K H' a:=by let[xs,h1,h2,c,d]:=h;exact #[xs,λP w=>e.trans (h1 P w),h2,λx hx=>(c x hx).mono g,d.mono g]
def Pc(kvs:Oz):MO:=.gen (R5 kvs)
theorem Nc.dsp{kvs:Oz}(h:Nc K H M)(e:M a=MW (Pc kvs)):R5 kvs K H a:=(h a _ e).1
theorem R5.xZ{kvs:Oz}(h:R5 kvs K H a)(ne:H a≠MX):iI K H a (Pc kvs):=#[h,ne,λH' g e=>zh h g e]
theorem Nc.CH{p:k_}(P:Jv)(w:JP)(h:Nc K H M)(c:H p=MX):Nc K (upd H p (.ext (cj P w p []))) (av M p (Pc [])):=λa u e=>by
 by_cases ne:a=p
 .subst ne;rw[aj]at e;cases e;exact R5.xZ #[[],(λP w=>az),8,(λx hx=>by simp at hx),(by simp[aC])] (by rw[az];simp)
 .rw[ak ne]at e;exact(h a u e).dg (.new c) (ay ne)
def ka(kvs:Oz)(k:Nv):oy:=(kvs.find? λx=>decide (x.1=k)).map (·.2)
def putD(kvs:Oz)(k:Nv)(d:D):Oz:=if(kvs.any λx=>decide (x.1=k))=MY then kvs.map (λx=>if x.1=k then(x.1,d)else x)else kvs++[(k,d)]
theorem rb(k:Nv):∀{kvs:Oz}{xs:List O3},xs.map (·.1)=kvs.map (·.1)->aC K H (kvs.map (·.2)) (xs.map (·.2.2))->(∀d,ka kvs k=MW d->∃v,lQ xs k=MW v/\Rep K H d v)/\(ka kvs k=MX->lQ xs k=MX)/\((xs.any λx=>decide (x.1=k))=kvs.any λx=>decide (x.1=k))
 |[],[],_,_=>#[(λd h=>by simp[ka]at h),(λ_=>rfl),rfl]
 |[],x::xs,h,_=>by cases h
 |y::kvs,[],h,_=>by cases h
 |y::kvs,x::xs,h,r=>by
  rw[J9,J9]at h
  injection h with h1 h2
  rw[J9,J9,aC]at r
  let[v,vs,e,g,i]:=r
  injection e with e1 e2
  subst e1 e2
  let[j,l,m]:=rb k h2 i
  by_cases e:y.1=k
  .have c:x.1=k:=h1.trans e
   refine #[λd hd=>?_,λf=>?_,?_]
   .simp[ka,JS,e]at hd
    subst hd
    exact #[x.2.2,by simp[lQ,JS,c],g]
   .simp[ka,JS,e]at f
   .simp[e,c]
  .have c:¬x.1=k:=λz=>e (h1.symm.trans z)
   refine #[λd hd=>?_,λf=>?_,?_]
   .obtain⟨v,n,o⟩:=j d (by simpa[ka,JS,e]using hd)
    exact #[v,by simpa[lQ,JS,c]using n,o]
   .have:=l (by simpa[ka,JS,e]using f)
    simpa[lQ,JS,c]using this
   .rw[LP,LP,m,NC e,NC c]
theorem uE(k:Nv){d:D}{v:V}(r:Rep K H d v):∀{kvs:Oz}{xs:List O3},xs.map (·.1)=kvs.map (·.1)->aC K H (kvs.map (·.2)) (xs.map (·.2.2))->
 (xs.map λx=>if x.1=k then(x.1,x.2.1,v)else x).map (·.1)=(kvs.map λx=>if x.1=k then(x.1,d)else x).map (·.1)/\aC K H ((kvs.map λx=>if x.1=k then(x.1,d)else x).map (·.2)) ((xs.map λx=>if x.1=k then(x.1,x.2.1,v)else x).map (·.2.2))
 |[],[],_,h=>#[8,h]
 |[],x::xs,h,_=>by cases h
 |y::kvs,[],h,_=>by cases h
 |y::kvs,x::xs,h,q=>by
  rw[J9,J9]at h
  injection h with h1 h2
  rw[J9,J9,aC]at q
  let[l,vs,e,i,j]:=q
  injection e with e1 e2
  subst e1 e2
  let[f,g]:=uE k r h2 j
  by_cases e:y.1=k
  .have c:x.1=k:=h1.trans e
   simp only[J9,NB e,NB c]
   exact #[by rw[f];exact congrArg (·::_) h1,by rw[aC];exact #[_,7,r,g]]
  .have c:¬x.1=k:=λz=>e (h1.symm.trans z)
   simp only[J9,NA e,NA c]
   exact #[by rw[f];exact congrArg (·::_) h1,by rw[aC];exact #[_,7,i,g]]
def Ej{kvs:Oz}{xs:List O3}{d:D}{v:V}(h1:xs.map (·.1)=kvs.map (·.1))(h2:aC K H (kvs.map (·.2)) (xs.map (·.2.2)))(c:∀x∈xs,dz K H x.2.1 x.1)(f:dz K H b k)(r:Rep K H d v) : (gU xs k b v).map (·.1)=(putD kvs k d).map (·.1)/\aC K H ((putD kvs k d).map (·.2)) ((gU xs k b v).map (·.2.2))/\∀x∈gU xs k b v,dz K H x.2.1 x.1:=by
 unfold gU putD;rw[(rb k h1 h2).2.2];by_cases e:(kvs.any λx=>decide (x.1=k))=MY
 .rw[NB e,NB e];let[g,h]:=uE k r h1 h2;refine #[g,h,λx hx=>?_];let[y,i,8]:=JZ.mp hx;have:=c y i;by_cases e:y.1=k
  .rw[NB e];exact this
  .rw[NA e];exact this
 .rw[NA e,NA e];refine #[by rw[Kr,Kr,h1];rfl,?_,λx hx=>?_]
  .rw[Kr,Kr];exact h2.append (by rw[J9,J9,L7,L7,aC];exact #[_,7,r,by rw[aC]])
  .rcases K5.mp hx with z|z
   .exact c x z
   .have:x=(k,b,v):=‹z›
    subst this;exact f
theorem Nb.ext{c:lj->Prop}{o:HO}(h:H a=MW (.ext c)):Nb K H (upd H a o):=.put (λxs e=>by rw[h]at e;cases e) (λu xs e=>by rw[h]at e;cases e)
theorem Nc.CN{kvs:Oz}{xs:List O3}{d:D}{v:V}(P:Jv)(w:JP)(h:Nc K H M)(hx:∀P w,H a=MW (.ext (cj P w a xs)))(h1:xs.map (·.1)=kvs.map (·.1))(h2:aC K H (kvs.map (·.2)) (xs.map (·.2.2)))(f:∀x∈xs,dz K H x.2.1 x.1)(i:dz K H b k)(r:Rep K H d v) :
 Nc K (upd H a (.ext (cj P w a (gU xs k b v)))) (av M a (Pc (putD kvs k d))):=λc u e=>by
 let g:Nb K H (upd H a (.ext (cj P w a (gU xs k b v)))):=.ext (hx P w)
 by_cases ne:c=a
 .subst ne
  rw[aj]at e;cases e
  let[j,l,m]:=Ej h1 h2 f i r
  exact R5.xZ #[_,λP w=>az,j,λx hx=>(m x hx).mono g,l.mono g] (by rw[az];simp)
 .rw[ak ne]at e
  exact(h c u e).dg g (ay ne)
end
section
variable{X:Cx}
def Ck:TD:=λ_ M Q=>∀p,M p=MX->Q (.ref p) (av M p (Pc []))
theorem yp{b:Pos}:DE X (.Dict [] [] b) Ck:=aQ zW λσ H Q a=>by let[δ,M,R,hs,e,q,c]:=a;exact(λp d=>c _ _ _ _ (.new d) (by rw[Rep]) (e.CH _ _ d) (q p (e.fresh d)))
def BL(b ty:TD):TD:=λδ M Q=>b δ M λx c=>ty δ c λy a=>∃l kvs k d,x=.ref l/\y=Qr k/\a l=MW (Pc kvs)/\ka kvs k=MW d/\Q d a
theorem qy{o i:l_}{g ty:TD}{e:Pos}(J:X.A.units+66<Ky)(m:DE X o g)(hi:DE X i ty)(hs:Ci i):DE X (.Subscript o i e) (BL g ty):=
 aQ (yI () m hi hs) λσ H Q a=>by let[δ,M,R,hs,n,q,f]:=a;exact(#[δ,M,_,hs,n,q,λx p v H1 g1 h r s=>#[δ,p,_,hs.mono g1,r,s,λy K u L t w j c=>by
  let[l,kvs,k,d,ex,z,hl,B,C]:=c
  subst ex z
  rw[Rep]at h;subst h
  let[b,8,sp]:=uM w
  let[xs,h1,h2,D,E]:=j.dsp hl
  let[F,G,I]:=(rb k h2 E).1 d B
  exact #[l,b,xs,k,F,8,8,#[h1 _ _,D,sp],G,f _ _ _ _ (g1.trans t) I j C]]])
def AJ(b ty c:TD):OH:=λB δ M=>c δ M λd e=>b δ e λx f=>ty δ f λy a=>∃l kvs k,x=.ref l/\y=Qr k/\a l=MW (Pc kvs)/\kvs.length<1000000/\B.nx δ (av a l (Pc (putD kvs k d)))
theorem yu{o i a:l_}{h ty j:TD}{e c:Pos}(T:X.A.units+66<Ky)(z:DE X o h)(hi:DE X i ty)(C:DE X a j)(hs:LW a (MW (.Subscript o i c)) e.line X.env=pure MZ:=by rfl):DSt X (.Assign [.Subscript o i c] a e) (AJ h ty j):=
 b8 (zJ () z hi C hs) λD σ H ⟨δ,M,hs,E,B,ok,q⟩=>#[δ,M,_,hs,E,q,λd F v H1 g1 G I J=>#[δ,F,_,hs.mono g1,I,J,λx L u U f m N O=>#[δ,L,_,(hs.mono g1).mono f,N,O,λy V W n g P p ⟨l,kvs,k,ex,Q,hl,Y,R⟩=>by
  subst ex Q
  rw[Rep]at m;subst m
  let[b,8,sp]:=uM P
  let[xs,h1,h2,r,S]:=p.dsp hl
  let s:xs.length=kvs.length:=by have:=congrArg List.length h2;simpa using this
  let sz:1000000<=JJ:=Ng rfl
  exists l,b,xs,k,8,8,#[h1 _ _,r,sp],()
  let t:Nb X.K n (upd n l (.ext (cj X.prog X.w l (gU xs k b v)))):=.ext (h1 X.prog X.w)
  exact ok.nx _ _ _ _ (((g1.trans f).trans g).trans t) (hs.mono (((g1.trans f).trans g).trans t)) (p.CN _ _ h1 h2 S r sp (G.mono (f.trans g))) R]]]
end
def sk{K:J1}{H:Hp}{d:D}{v:V}(o:Option V)(r:Rep K H d v):Slots K H [MW d,MX] [MW v,o]:=by
 refine #[8,λi e h=>?_]
 match i,h with
 |0,h=>cases h;exact #[v,8,r]
 |1,h=>cases h
theorem rk{K:J1}{H:Hp}{d e:D}{v u:V}(r:Rep K H d v)(q:Rep K H e u):Slots K H [MW d,MW e] [MW v,MW u]:=jv (.cons r (.cons q .nil))
abbrev Vc:=Int×Int
section
variable{α β:Type}{n:Nat}{k:nq}
def Pu(n:Nat)(k:nq){α:Type}:PySem.W.KasT α->(α->Prop)->Prop
 |.ret a,Q=>Q a
 |.ask i j f,Q=>i<n/\j<n/\Pu n k (f (decide (k i<k j))) Q
theorem eM{f:α->PySem.W.KasT β}{Q:β->Prop}:∀(t:PySem.W.KasT α),Pu n k t (λa=>Pu n k (f a) Q)->Pu n k (t.bind f) Q
 |.ret _,h=>h
 |.ask i j g,h=>#[h.1,h.2.1,eM _ h.2.2]
theorem cI{Q R:α->Prop}(b:∀a,Q a->R a):∀(t:PySem.W.KasT α),Pu n k t Q->Pu n k t R
 |.ret _,h=>b _ h
 |.ask i j g,h=>#[h.1,h.2.1,cI b _ h.2.2]
theorem ug{b:Nat->Nat->(Bool->J4->Prop)->J4->Prop}{s:J4}(c:∀i j (C:Bool->J4->Prop),i<n->j<n->C (decide (k i<k j)) s->b i j C s){Q:α->J4->Prop}:∀(t:PySem.W.KasT α),Pu n k t (λa=>Q a s)->t.kasWp b Q s
 |.ret _,h=>h
 |.ask i j g,h=>c i j _ h.1 h.2.1 (ug c _ h.2.2)
structure OT(n:Nat)(p:Array Nat):Prop where
 perm:p.Perm (JM n).toArray
def OT.size{p:Array Nat}(h:OT n p):p.size=n:=by have:=h.perm.size_eq;simpa using this
def OT.lt{p:Array Nat}(h:OT n p){i:Nat}(hi:i<n):p.getD i 0<n:=by
 let a:i<p.size:=by rw[h.size];exact hi
 have:p[i]∈(JM n).toArray:=h.perm.mem_iff.mp (Array.getElem_mem a);simpa[Array.getD,a]using this
def OT.inj{p:Array Nat}(h:OT n p){i j:Nat}(hi:i<n)(f:j<n)(e:p.getD i 0=p.getD j 0):i=j:=by
 let a:i<p.size:=by rw[h.size];exact hi
 let b:j<p.size:=by rw[h.size];exact f
 let nd:p.toList.Nodup:=(Array.perm_iff_toList_perm.mp h.perm).nodup_iff.mpr ‹List.nodup_range›;let c:p.toList[i]=p.toList[j]:=by simpa[Array.getD,a,b]using e
 let d:=Kd.mp nd;rcases ME i j with h|h|h
 .exact absurd c (d i j _ _ h)
 .exact h
 .exact absurd c.symm (d j i _ _ h)
def ky(k:nq)(p:Array Nat)(i:Nat):Int:=k (p.getD i 0)
def Inj(n:Nat)(k:nq):Prop:=∀i j,i<n->j<n->k i=k j->i=j
theorem rO(c:Inj n k){p:Array Nat}(h:OT n p){i j:Nat}(hi:i<n)(b:j<n)(a:i≠j):ky k p i≠ky k p j:=λe=>a (h.inj hi b (c _ _ (h.lt hi) (h.lt b) e))
def Up(k:nq)(p:Array Nat)(m:Nat):Prop:=∀i j,i<j->j<m->ky k p i<ky k p j
def Dn(k:nq)(p:Array Nat)(m:Nat):Prop:=∀i j,i<j->j<m->ky k p j<ky k p i
theorem B2{p:Array Nat}{m:Nat}(h1:1<=m)(h:Up k p m)(h2:ky k p (m-1)<ky k p m):Up k p (m+1):=λi j a c=>by
 by_cases e:j=m
 .subst e;by_cases b:i=j-1
  .subst b;exact h2
  .have:=h i (j-1) () ();omega
 .exact h i j a ()
theorem BF{p:Array Nat}{m:Nat}(h1:1<=m)(h:Dn k p m)(h2:ky k p m<ky k p (m-1)):Dn k p (m+1):=λi j a c=>by
 by_cases e:j=m
 .subst e;by_cases b:i=j-1
  .subst b;exact h2
  .have:=h i (j-1) () ();omega
 .exact h i j a ()
theorem oR(b:Inj n k){p:Array Nat}(a:OT n p):∀(f m:Nat),1<=m->m+f=n->Up k p m->Pu n k (PySem.W.kas_asc p f m) λr=>m<=r/\r<=n/\Up k p r/\(r=n\/ky k p r<ky k p (r-1))
 |0,m,h1,e,u=>#[Jo _,(),u,.inl ()]
 |f+1,m,h1,e,u=>by
  exists a.lt (),a.lt ()
  by_cases c:k (p.getD m 0)<k (p.getD (m-1) 0)
  .rw[ND c]
   exact #[Jo _,(),u,.inr c]
  .rw[NC c]
   let ne:=rO b a (i:=m) (j:=m-1) () () ()
   refine cI (λr h=>#[(),h.2]) _ (oR b a f (m+1) () () (B2 h1 u ?_))
   unfold ky at ne ⊢;omega
theorem pV(b:Inj n k){p:Array Nat}(a:OT n p):∀(f m:Nat),1<=m->m+f=n->Dn k p m->Pu n k (PySem.W.kas_desc f p m 0) λr=>r.1=p/\r.2.2=0/\m<=r.2.1/\r.2.1<=n/\Dn k p r.2.1
 |0,m,h1,e,u=>#[8,8,Jo _,by show m<=n;omega,u]
 |f+1,m,h1,e,u=>by
  exists a.lt (),a.lt ()
  by_cases c:k (p.getD m 0)<k (p.getD (m-1) 0)
  .rw[ND c]
   exact cI (λr h=>#[h.1,h.2.1,(),h.2.2.2]) _ (pV b a f (m+1) () () (BF h1 u c))
  .rw[NC c]
   let ne:=rO b a (i:=m) (j:=m-1) () () ()
   let d:k (p.getD (m-1) 0)<k (p.getD m 0):=by unfold ky at ne;omega
   exists a.lt (),a.lt ()
   rw[ND d]
   exact #[8,8,Jo _,by show m<=n;omega,u]
def getD_eq(p:Array Nat)(i:Nat):p.getD i 0=(p[i]?).getD 0:=by simp[Array.getD_eq_getD_getElem?]
theorem t9{p:Array Nat}{m:Nat}(a:OT n p):OT n (PySem.W.kas_rev p 0 m):=⟨(mirror_perm _ _ _ _).trans a.perm⟩
theorem FQ{p:Array Nat}{m:Nat}(a:OT n p)(b:m<=n)(h:Dn k p m):Up k (PySem.W.kas_rev p 0 m) m:=λi j c d=>by unfold ky PySem.W.kas_rev;rw[getD_eq,getD_eq,getElem?_mirror_all (by rw[a.size];exact b),getElem?_mirror_all (by rw[a.size];exact b),NB #[(),()],NB #[(),d],<-getD_eq,<-getD_eq];exact h (0+m-1-j) (0+m-1-i) () ()
theorem uY(b:Inj n k){p:Array Nat}(a:OT n p){m:Nat}(h1:1<=m)(c:m<=n)(d:Dn k p m):Pu n k (PySem.W.kas_tail3 m n p) λr=>OT n r.2/\1<=r.1/\r.1<=n/\Up k r.2 r.1:=eM _ (cI (λr h=>show OT n _/\_ from #[t9 a,by show 1<=r;omega,h.2.1,h.2.2.1]) _ (oR b (t9 a) (n-m) m h1 () (FQ a c d)))
def wK(b:Inj n k)(t:2<=n){p:Array Nat}(a:OT n p):Pu n k (PySem.W.kas_count n p) λr=>OT n r.2/\1<=r.1/\r.1<=n/\Up k r.2 r.1:=by
 refine eM _ (cI (λr h=>?_) _ (oR b a (n-1) 1 (Jo _) () λi j c l=>()));let[f,g,u,m]:=h;by_cases e:r=n
 .rw[NB (by simp[e])];exact #[a,f,g,u]
 .rw[NA (by simp[e])];by_cases e1:r>1
  .rw[NB e1];exists a.lt (),a.lt ();have:k (p.getD 0 0)<k (p.getD (r-1) 0):=u 0 (r-1) () ();rw[ND this];exact #[a,f,g,u]
  .rw[NA e1];let o:r=1:=()
   subst o;refine eM _ (cI (λq h=>?_) _ (pV b a (n-(1+1)) (1+1) () () λi j c l=>?_))
   .obtain⟨e2,e3,e4,s,d⟩:=h;rw[NA (by rw[e3];exact KS 0),e2];exact uY b a () s d
   .obtain rfl:i=0:=()
    obtain rfl:j=1:=()
    exact m.resolve_left e
theorem jf(h:Inj n k){p:Array Nat}(g:OT n p){m:Nat}(d:m<n)(u:Up k p m):∀(f l r:Nat),r<=l+f->l<=r->r<=m->(∀i,i<l->ky k p i<ky k p m)->(∀i,r<=i->i<m->ky k p m<ky k p i)->
 Pu n k (PySem.W.kas_place p m f l r) λx=>x<=m/\(∀i,i<x->ky k p i<ky k p m)/\(∀i,x<=i->i<m->ky k p m<ky k p i)
 |0,l,r,h1,h2,h3,a,b=>#[(),a,λi hi d=>b i () d]
 |f+1,l,r,h1,h2,h3,a,b=>by
  show Pu n k (if l≥r then _ else _) _
  by_cases e:l≥r
  .rw[NB e]
   exact #[(),a,λi hi d=>b i () d]
  .rw[NA e]
   exists g.lt d,g.lt ()
   by_cases c:k (p.getD m 0)<k (p.getD ((l+r)/2) 0)
   .rw[ND c]
    refine jf h g d u f l ((l+r)/2) () () () a λi hi o=>?_
    by_cases q:i=(l+r)/2
    .subst q;exact c
    .have:=u ((l+r)/2) i () o
     unfold ky at this ⊢;omega
   .rw[NC c]
    let ne:=rO h g (i:=m) (j:=(l+r)/2) d () ()
    refine jf h g d u f ((l+r)/2+1) r () () h3 (λi hi=>?_) b
    by_cases q:i=(l+r)/2
    .subst q;unfold ky at ne ⊢;omega
    .have:=u i ((l+r)/2) () ()
     unfold ky at ne this ⊢;omega
def xT{p:Array Nat}(a:OT n p){m x:Nat}(b:m<n)(hx:x<=m)(i:Nat):ky k (bubble p m (m-x)) i=if i=x then ky k p m else if x<i/\i<=m then ky k p (i-1)else ky k p i:=by
 unfold ky;rw[getD_eq,getElem?_bubble (by rw[a.size];exact b) _ (),show m-(m-x)=x by omega];split
 .rw[<-getD_eq]
 .split
  .rw[<-getD_eq]
  .rw[<-getD_eq]
theorem tZ(g:Inj n k):∀(f:Nat)(p:Array Nat)(m:Nat),OT n p->m+f=n->Up k p m->Pu n k (PySem.W.kas_bin f p m) λq=>OT n q/\Up k q n
 |0,p,m,hp,e,u=>#[hp,by rw[show n=m by omega];exact u]
 |f+1,p,m,hp,e,u=>by
  let c:m<n:=()
  refine eM _ (cI (λx h=>?_) _ (jf g hp c u m 0 m () () (Jo _) (λi hi=>()) λi hi l=>()))
  let[hx,a,b]:=h
  refine tZ g f _ (m+1) ⟨(bubble_perm _ _ _).trans hp.perm⟩ () λi j d o=>?_
  rw[xT hp c hx,xT hp c hx]
  by_cases e1:i=x
  .rw[NB e1,NA (),NB #[(),()]]
   exact b _ () ()
  .rw[NA e1]
   by_cases e2:x<i
   .rw[NB #[e2,()],NA (),NB #[(),()]]
    exact u _ _ () ()
   .rw[NA ()]
    by_cases e3:j=x
    .rw[NB e3];exact a i ()
    .rw[NA e3]
     by_cases e4:x<j
     .rw[NB #[e4,()]]
      by_cases r:i=j-1
      .omega
      .exact u _ _ () ()
     .rw[NA ()]
      exact u _ _ d ()
def xA(a:Inj n k)(c:2<=n):Pu n k (PySem.W.kas_sort n) λp=>OT n p/\Up k p n:=by
 refine eM _ (cI (λr h=>?_) _ (wK a c (p:=(JM n).toArray) ⟨Array.Perm.refl _⟩));let[b,h1,h2,u]:=h;by_cases e:r.1<n
 .rw[NB e,show max r.1 1=r.1 by omega];exact tZ a _ _ _ b () u
 .rw[NA e];have:r.1=n:=()
  exact #[b,by rw[this]at u;exact u]
end
section
variable{prog:Jv}{w:JP}{A:JQ}{E:J3->J4->Prop}{s:J4}
abbrev mz(h:lj)(a:k_)(vs:List J3):lj:=((h.update a (Kt λ_=>#[])).push (K9 "tuple" vs.toArray 0)).push (K9 "list" #[] 0)
theorem AX{h:lj}{a:k_}{vs:List J3}{n:Nat}(b:h.get? a=MW (K9 "list" vs.toArray n)):∃e,(h.update a (Kt λ_=>#[])).get? a=MW (K9 "list" #[] e)/\(mz h a vs).get? a=MW (K9 "list" #[] e):=#[_,get?_update_seq b (λ_=>#[]),J6 _ (J6 _ (get?_update_seq b (λ_=>#[])))]
theorem xE{h:lj}{a b:k_}{vs:List J3}{o:Obj}(c:b≠a)(e:h.get? b=MW o):(mz h a vs).get? b=MW o:=J6 _ (J6 _ (((Heap.SameBut.update h a (Kt λ_=>(#[]:Array J3))).2 b c).trans e))
def eZ(vs:List J3)(p:Array Nat):Array J3:=Jy (p.toList.map λi=>vs.getD i Lg)
def zq{a:k_}{vs:List J3}{n:Nat}{k:nq}{κ:SortKind}{P:PySem.Fin->J4->Prop}(m:s.heap.get? a=MW (K9 "list" vs.toArray n))(o:vs.length<64)(d:Inj vs.length k)
 (y:2<=vs.length->∀(R:SortKind->J4->Prop)(z:J3->J4->Prop),R κ { s with heap:=mz s.heap a vs }->Jq (Ju prog w) A (keyKind' vs.toArray) R z { s with heap:=mz s.heap a vs })
 (B:∀i j (C:Bool->J4->Prop),i<vs.length->j<vs.length->C (decide (k i<k j)) { s with heap:=mz s.heap a vs }->PySem.W.kas_ask prog w A κ vs i j C { s with heap:=mz s.heap a vs })
 (h:∀p,OT vs.length p->Up k p vs.length->P (.done (.ret .none)) { s with heap:=sortedHeap s.heap a vs (eZ vs p) }):Jq (Ju prog w) A (LD.«list.sort» #[[.ref a],[]]) P E s:=by
 let[e,r,b]:=AX (vs:=vs) m
 rw[list_sort_plain]
 refine J0 (listItems_at m rfl (J0 (listUpdate_at m rfl ?_ (by rw[Jw,Ku];omega) (Kh _))))
 refine J0 (seqEpoch_at r rfl (J0 (wpAny_newTuple ?_ (by show vs.length<=_;rw[Ku];omega))))
 refine J0 (wpAny_newList (Kl ?_) (Kh _))
 show Jq (Ju prog w) A _ P E { s with heap:=mz s.heap a vs }
 dsimp only
 by_cases h2:¬2<=vs.length
 .have f:vs.toArray.size<2:=by rw[Jw];omega
  rw[NB f,NB f]
  refine J0 (J5 ?_)
  rw[StateT.run_pure]
  refine J0 (J5 ?_)
  dsimp only
  let g:OT vs.length (JM vs.length).toArray:=⟨Array.Perm.refl _⟩
  let t:(eZ vs (JM vs.length).toArray).size=vs.length:=by unfold eZ;simp
  let c:arrOf (SortSt.mk' general' (vs.toArray.zip vs.toArray) #[] 7 MX)=(JM vs.length).toArray.map (PySem.W.kas_item (vs.toArray.zip vs.toArray)):=by
   let e:=PySem.W.kas_range (vs.toArray.zip vs.toArray)
   rw[show(vs.toArray.zip vs.toArray).size=vs.length by simp]at e
   exact e.symm
  rw[show(arrOf (SortSt.mk' general' (vs.toArray.zip vs.toArray) #[] 7 MX)).map (·.2)=eZ vs (JM vs.length).toArray from PySem.W.kat_snds rfl c]
  refine J0 (seqEpoch_at b rfl (J0 (listUpdate_at b rfl ?_ (Kh _) (by rw[t,Ku];omega))))
  simp only[bne_self_eq_false,JD,if_false]
  exact J5 (h _ g λi j D J=>())
 let h2:2<=vs.length:=Decidable.not_not.mp h2
 let f:¬vs.toArray.size<2:=by rw[Jw];omega
 rw[NA f,NA f]
 refine J0 (y h2 _ _ ?_)
 refine J0 (Jx (PySem.W.kat_run (Q:=λst l=>l={ s with heap:=mz s.heap a vs }/\∃p,OT vs.length p/\Up k p vs.length/\arrOf st=p.map (PySem.W.kas_item (vs.toArray.zip vs.toArray))/\failedOf st=MX)
  (G:=λp l=>l={ s with heap:=mz s.heap a vs }/\OT vs.length p/\Up k p vs.length) rfl h2 o (λp st l _ b1 F u=>#[u.1,p,u.2.1,u.2.2,b1,F])
  (ug (n:=vs.length) (k:=k) B _ (cI (λp q=>#[8,q]) _ (xA d h2)))) ?_ λ_ _ x=>x)
 rintro⟨⟨⟩,st⟩ K ⟨v,p,g,H,c,I⟩
 dsimp only at v ⊢
 subst v
 let t:(eZ vs p).size=vs.length:=by unfold eZ;rw[Jw,J7,JG,g.size]
 rw[show(arrOf st).map (·.2)=eZ vs p from PySem.W.kat_snds rfl c]
 refine J0 (seqEpoch_at b rfl (J0 (listUpdate_at b rfl ?_ (Kh _) (by rw[t,Ku];omega))))
 rw[I]
 simp only[bne_self_eq_false,JD,if_false]
 exact J5 (h p g H)
def vk{l:k_}{vs:List J3}{k:nq}{κ:SortKind}{Q:J3->J4->Prop}(hl:s.heap.IsList l vs.toArray)(d:vs.length<64)(a:Inj vs.length k)
 (f:∀h':lj,(∀b o,s.heap.get? b=MW o->h'.get? b=MW o)->2<=vs.length->∀(R:SortKind->J4->Prop)(g:J3->J4->Prop),R κ { s with heap:=h' }->Jq (Ju prog w) A.in1.in1 (keyKind' vs.toArray) R g { s with heap:=h' })
 (n:∀h':lj,(∀b o,s.heap.get? b=MW o->h'.get? b=MW o)->∀i j (C:Bool->J4->Prop),i<vs.length->j<vs.length->C (decide (k i<k j)) { s with heap:=h' }->PySem.W.kas_ask prog w A.in1.in1 κ vs i j C { s with heap:=h' })
 (h:∀p,OT vs.length p->Up k p vs.length->Q (.ref (s.z+1)) { s with heap:=sortedAll s.heap vs (eZ vs p) }):Jq (Ju prog w) A (call (.builtin "sorted") [.ref l]) Q E s:=by
 refine Calls.call_function_entry kind_sorted plain_sorted entry_sorted (args_sorted1 _) ?_
 unfold LD.«sorted»
 refine J0 (m:=checkCount "sorted" 1 1 _) (J5 (J0 (collect_list hl ?_ (by rw[Ku];omega))))
 refine J0 (wpAny_newList ?_ (by rw[Ku];omega))
 generalize e1:((s.heap.push (K9 "list" #[] 0)).update s.z (Kt (·++vs.toArray)))=h1
 let e:h1.objs.size=s.z+1:=by rw[<-e1,Heap.size_update,size_push']
 let r:∀b o,s.heap.get? b=MW o->h1.get? b=MW o:=λb o q=>by
  rw[<-e1,Heap.get?_update_ne _ _ _ _ (JH (Js q)),Heap.get?_push_ne _ _ _ (JH (Js q))]
  exact q
 let c:(h1.push (K9 "list" vs.toArray 0)).get? (s.z+1)=MW (K9 "list" vs.toArray 0):=by rw[<-e];exact Jt _ rfl
 show Jq _ _ _ _ _ { s with heap:=h1.push (K9 "list" vs.toArray 0) }
 rw[e]
 let kp:∀b o,s.heap.get? b=MW o->(mz (h1.push (K9 "list" vs.toArray 0)) (s.z+1) vs).get? b=MW o:=λb o q=>
  xE (JH (KL (Js q))) (J6 _ (r b o q))
 refine J0 (Kl (KQ slot_list_sort #[_,c,rfl] entry_list_sort (zq (s:={ s with heap:=h1.push (K9 "list" vs.toArray 0) }) c d a (f _ kp) (n _ kp) λp t u=>#[7,J5 #[7,?_]]) (args_list_sort _)))
 have:=h p t u
 unfold sortedAll at this
 rw[e1]at this
 exact this
end
section
variable{X:Cx}
def p0(us:List (Int×Int))(i:Nat):Int×Int:=us.getD i (0,0)
def pky(us:List (Int×Int))(i:Nat):Int:=100*(p0 us i).1+(p0 us i).2
def ig{us:List (Int×Int)}{i:Nat}(h:i<us.length):p0 us i∈us:=by unfold p0;rw[List.getD_eq_getElem?_getD,JB h];exact Lc h
def Be{xs:n7}{its:List J3}(h:Vals xs its):∀i,RelV (xs.getD i .non) (its.getD i .none):=by
 induction h with
 |nil=>intro i;simp;rfl
 |cons a _ b=>intro i;cases i with
  |zero=>exact a
  |succ i=>exact b i
theorem mS{xs:n7}{its:List J3}(h:Vals xs its):∀l:ma,Vals (l.map λi=>xs.getD i .non) (l.map λi=>its.getD i .none)
 |[]=>.nil
 |i::l=>.cons (Be h i) (mS h l)
variable{prog:Jv}{w:JP}{A:JQ}{E:J3->J4->Prop}{s:J4}
end
section
variable{X:Cx}
def Rl(K:J1)(H:Hp):n7->List (Int×Int)->Prop
 |[],[]=>True
 |x::xs,u::us=>(∃a,x=.ref a/\Nl K H a [.int u.1,.int u.2])/\Rl K H xs us
 |_,_=>False
theorem Rl.len{K:J1}{H:Hp}:∀{xs:n7}{us:List (Int×Int)},Rl K H xs us->xs.length=us.length
 |[],[],_=>rfl
 |_::_,_::_,h=>by rw[JE,JE,Rl.len h.2]
 |[],_::_,h=>h.elim
 |_::_,[],h=>h.elim
def wg(h:lj)(v:J3)(u:Int×Int):Prop:=∃a t1 b,v=.ref a/\IsTup h a (List.toArray [.int u.1 t1,.int u.2 b])
def xf{NK:l'}{σ:List (Option V)}{H:Hp}{s:J4}(I:Inv X NK σ H s){x:V}{v:J3}{u:Int×Int}(h:∃a,x=.ref a/\Nl X.K H a [.int u.1,.int u.2])(r:RelV x v):wg s.heap v u:=by let[a,8,ht]:=h;cases r;let[b,c,hi,_]:=I.tuple ht;obtain⟨y1,e,rfl,⟨t1,rfl⟩,⟨d,rfl⟩⟩:=vals2 c;exact #[a,t1,d,8,hi]
theorem yE{NK:l'}{σ:List (Option V)}{H:Hp}{s:J4}(I:Inv X NK σ H s):∀{xs:n7}{us:List (Int×Int)} {its:List J3},Rl X.K H xs us->Vals xs its->∀i,i<us.length->wg s.heap (its.getD i .none) (p0 us i)
 |[],[],_,_,_,i,hi=>by simp at hi
 |x::xs,u::us,_,h,.cons a r,i,hi=>by
  cases i with
  |zero=>exact xf I h.1 a
  |succ i=>exact yE I h.2 r i ‹hi›
 |[],_::_,_,h,_,_,_=>h.elim
 |_::_,[],_,h,_,_,_=>h.elim
theorem pf{h:lj}:∀{its:List J3}{us:List (Int×Int)},its.length=us.length->(∀i,i<us.length->wg h (its.getD i .none) (p0 us i))->∃fs:List J3,PySem.W.KatTups h its fs/\fs.length=us.length/\∀v∈fs,∃n t,v=KZ n t
 |[],[],_,_=>#[[],PySem.W.KatTups.nil,8,λv b=>by simp at b]
 |v::its,u::us,hl,q=>by
  let[fs,c,d,f]:=pf (its:=its) (us:=us) ‹hl› λi hi=>q (i+1) ‹hi›
  let[a,t1,l,e,o,g,j,n,hd]:=q 0 (_)
  let k:v=.ref a:=e
  subst k
  refine #[.int u.1 t1::fs,PySem.W.KatTups.cons g j hd rfl c,by simp[d],λv b=>?_]
  rcases JU.mp b with rfl|b
  .exact #[_,7]
  .exact f v b
 |[],_::_,hl,_=>by simp at hl
 |_::_,[],hl,_=>by simp at hl
def wg.kept{h h':lj}{v:J3}{u:Int×Int}(q:wg h v u)(k:∀b o,h.get? b=MW o->h'.get? b=MW o):wg h' v u:=by let[a,t1,c,e,o,d,r]:=q;exact #[a,t1,c,e,o,k _ _ d,r]
def OW(u:Int×Int):D:=.tup [.int u.1,.int u.2]
theorem yV{K:J1}{H:Hp}:∀{us:List (Int×Int)} {xs:n7},aC K H (us.map OW) xs->Rl K H xs us
 |[],xs,h=>by
  rw[L7,aC]at h
  subst h;trivial
 |u::us,xs,h=>by
  rw[J9,aC]at h
  let[x,r,8,a,b]:=h
  refine #[?_,yV b]
  unfold OW at a
  rw[Rep]at a
  let[p,e,8,c,d]:=a
  let[y1,f,8,e1,e2]:=dQ d
  rw[Rep]at e1 e2
  subst e1 e2
  exact #[p,8,c]
theorem ur{K:J1}{H:Hp}:∀{c:ox}{xs:n7},aC K H c xs->∀i,i<c.length->Rep K H (c.getD i .non) (xs.getD i .non)
 |[],_,_,i,hi=>by simp at hi
 |d::c,xs,h,i,hi=>by
  rw[aC]at h
  let[x,r,8,a,b]:=h
  cases i with
  |zero=>exact a
  |succ i=>exact ur b i ‹hi›
theorem m4{K:J1}{H:Hp}{a:ox}{xs:n7}(h:aC K H a xs):∀l:ma,(∀i∈l,i<a.length)->aC K H (l.map λi=>a.getD i .non) (l.map λi=>xs.getD i .non)
 |[],_=>aC.nil
 |i::l,q=>aC.cons (ur h i (q i (_))) (m4 h l λj b=>q j (by simp[b]))
def ON(u v:Int×Int):Prop:=100*u.1+u.2<100*v.1+v.2
def vK{us:List (Int×Int)}{a:Array Nat}(h:OT us.length a):(a.toList.map (p0 us)).Perm us:=by
 let e1:=(Array.perm_iff_toList_perm.mp h.perm).map (p0 us)
 let e2:(JM us.length).map (p0 us)=us:=by
  apply List.ext_getElem
  .simp
  .intro i h1 h2;simp[p0,h2]
 simpa[e2]using e1
def xU{us:List (Int×Int)}{a:Array Nat}(h:OT us.length a):(a.toList.map λi=>(us.map OW).getD i .non)=(a.toList.map (p0 us)).map OW:=by
 rw[Lr];refine LJ λi hi=>?_
 let b:i<us.length:=by
  have:i∈a:=‹hi›
  have:=h.perm.mem_iff.mp this
  simpa using this
 simp[p0,b]
def jq:Kk "sorted"=MW (.builtin "sorted"):=by first|exact boot_sorted|rfl
end
def j5(h:lj)(d:k_)(es:Array KH)(ep:Nat):Prop:=∃o,h.get? d=MW o/\o.ExactDict/\o.data=.dict es ep
section
variable{prog:Jv}{w:JP}{A:JQ}{E:J3->J4->Prop}{s:J4}{d it:k_}{es:Array KH}{ep i:Nat}
theorem j5.ty(h:j5 s.heap d es ep):s.TypeIs (.ref d) "dict":=let⟨o,a,b,_⟩:=h;#[o,a,b.1]
theorem j5.kept{h h':lj}(q:j5 h d es ep)(k:∀o,h.get? d=MW o->h'.get? d=MW o):j5 h' d es ep:=let⟨o,a,b⟩:=q;#[o,k o a,b]
theorem j5.lt{h:lj}(q:j5 h d es ep):d<h.objs.size:=let⟨_,a,_⟩:=q;Js a
def wX{Q:J3->J4->Prop}(lo:(d==LL)=MZ)(b:j5 s.heap d es ep)
 (q:Q (.ref s.z) { s with heap:=s.heap.push { cls:=.type "dict_keyiterator",data:=.fields (List.toArray [.ref d,.int 0 0,.int es.size 0,.int ep 0]) } }):Jq (Ju prog w) A (pyIter (.ref d)) Q E s:=by
 let a:=b.ty
 let[o,g1,e,c]:=b
 refine wpAny_pyIter_slot a F.slot_dict_iter (KQ F.slot_dict_iter a F.entry_dict_iter ?_ (F.args_dict_iter_1 _))
 unfold LD.«dict.__iter__»
 refine J0 ?_
 unfold Builtin.Dict.dictSlotNone
 refine J0 (wpAny_notOrdered_dict a ?_)
 show Jq _ _ (pure (JV d)) _ _ s
 refine J5 ?_
 show Jq _ _ (Builtin.Dict.showsAll d >>= _) _ _ s
 unfold Builtin.Dict.showsAll
 rw[NA (by rw[lo];exact JO)]
 refine J0 (J5 (J0 (wpAny_dictEntries g1 c (J0 (wpAny_dictEpoch g1 c ?_)))))
 refine J0 (Kf (J5 #[7,"dict_keyiterator",_,#[_,Jt _ rfl,rfl],Ls.lookup,?_]))
 simpa[Lw]using q
def Aw{Q:Option J3->J4->Prop}(b:s.heap.IsKeyIter it d i es.size ep)(f:j5 s.heap d es ep)(hi:i<es.size)
 (g:∀h':lj,h'.IsKeyIter it d (i+1) es.size ep->LN it s.heap h'->Q (MW es[i].key) { s with heap:=h' }):Jq (Ju prog w) A (MU (.ref it)) Q E s:=by
 let[o,c,h,hd]:=id b
 let[od,g1,j,e]:=f
 let a:=b.typeIs
 unfold MU
 refine J0 (wpAny_attempt (Lz (name:=Km "__next__") a Ls (KQ Ls a F.entry_dict_keyiterator_next ?_ (F.args_dict_keyiterator_next_1 _))))
 refine J0 (J5 (J0 (J0 ?_)))
 first|refine J0 (LV a (J5 ?_))|refine J0 (wpAny_typeNameOf_keyiter a (J5 ?_))
 refine J0 (wpAny_fieldsOf c hd ?_)
 simp only[show Builtin.Dict_items.ownsTuple "dict_keyiterator"=MZ by decide,JD,if_false]
 show Jq _ _ (if(JV d==Lg)=MY then _ else _) _ _ s
 rw[NA (show ¬((JV d==Lg)=MY)from JO)]
 refine J0 (J5 (J0 (wpAny_dictEntries g1 e ?_)))
 rw[NA (_)]
 refine J0 (J5 (J0 (wpAny_dictEpoch g1 e ?_)))
 rw[NA (_)]
 refine J5 ?_
 simp only[show ¬((i:Int)<0)from by omega,if_false,Lf,JT hi]
 refine J0 ?_
 first|refine J0 (LV a (J5 ?_))|refine J0 (wpAny_typeNameOf_keyiter a (J5 ?_))
 refine J0 (wpAny_isOneOf_keyiter a ?_)
 show Jq _ _ (setField (.ref it) 1 (Lw ((i:Int)+1)) >>= _) _ _ s
 refine J0 (wpAny_setField c hd (_) ?_)
 let n1:(s.heap.update it (Obj.mapFields (·.setIfInBounds 1 (Lw ((i:Int)+1))))).IsKeyIter it d (i+1) es.size ep:=
  #[_,KC _ c (Obj.isFreed_of_fields (Mt hd _)),(Obj.cls_mapFields ..).trans h,by rw[Mt hd];simp[Lw]]
 refine J0 (Kl (J0 (wpAny_isOneOf_keyiter (s:={ s with heap:=s.heap.update it (Obj.mapFields (·.setIfInBounds 1 (Lw ((i:Int)+1)))) }) n1.typeIs ?_)))
 show Jq _ _ (pure es[i].key) _ _ _
 exact J5 (J5 #[7,J5 (g _ n1 (Heap.SameBut.update ..))])
def Cc{Q:Option J3->J4->Prop}(h:A.handled=MX)(e:s.heap.IsKeyIter it d es.size es.size ep)(j:j5 s.heap d es ep)
 (k:∀h',Heap.ExtBut it s.heap h'->Q MX { s with heap:=h' }):Jq (Ju prog w) A (MU (.ref it)) Q E s:=by
 let[o,f,l,hd]:=id e
 let[od,g1,n,g]:=j
 let c:=e.typeIs
 unfold MU
 refine J0 (wpAny_attempt (Lz (name:=Km "__next__") c Ls (KQ Ls c F.entry_dict_keyiterator_next ?_ (F.args_dict_keyiterator_next_1 _))))
 refine J0 (J5 (J0 (J0 ?_)))
 first|refine J0 (LV c (J5 ?_))|refine J0 (wpAny_typeNameOf_keyiter c (J5 ?_))
 refine J0 (wpAny_fieldsOf f hd ?_)
 simp only[show Builtin.Dict_items.ownsTuple "dict_keyiterator"=MZ by decide,JD,if_false]
 show Jq _ _ (if(JV d==Lg)=MY then _ else _) _ _ s
 rw[NA (show ¬((JV d==Lg)=MY)from JO)]
 refine J0 (J5 (J0 (wpAny_dictEntries g1 g ?_)))
 rw[NA (_)]
 refine J0 (J5 (J0 (wpAny_dictEpoch g1 g ?_)))
 rw[NA (_)]
 refine J5 ?_
 simp only[show ¬((es.size:Int)<0)from by omega,if_false,Lf,Mn (Jo es.size)]
 refine J0 ?_
 first|refine J0 (LV c (J5 ?_))|refine J0 (wpAny_typeNameOf_keyiter c (J5 ?_))
 show Jq _ _ (setField (.ref it) 0 .none >>= _) _ _ s
 refine J0 (wpAny_setField f hd (_) ?_)
 show Jq _ _ (newExc (.type "StopIteration") [] >>= _) _ _ _
 refine J0 ?_
 simp only[newExc,newTuple]
 refine J0 (Kf ?_ (by size_fits))
 refine J0 (m:=firstArgMember _ _) (wpAny_of_eq (a:=Lg) (by first|rfl|(simp only[firstArgMember];rfl)) ?_)
 refine Kf ?_ (by size_fits)
 simp only[raiseNew]
 refine J0 (wpAny_handled ?_)
 rw[show A.in1.handled=MX from h]
 refine J0 (J5 (wpAny_throw ?_))
 refine J0 (Mp (T:="StopIteration") (b:=MY) #[_,Jt _ rfl,rfl] isSubtype_stop ?_)
 exact J5 (k _ (((Heap.SameBut.update ..).extBut.push _).push _))
theorem v7(l:A.handled=MX)(I d:k_)(f:d≠I)(es:Array KH)(ep:Nat):Walks prog w A I [I,d] [I] es.size (λi v=>∃e,es[i]?=MW e/\v=e.key) (λi h=>h.IsKeyIter I d i es.size ep/\j5 h d es ep) where
 sub:=λb a=>by simp at a;simp[a]
 frame:=λ_ _ _ st j=>#[st.1.at λo e=>j I (_) o e,st.2.kept λo e=>j d (_) o e]
 item:=λi s Q E hi st c=>Aw st.1 st.2 hi λg n1 k=>c _ g s.toks #[es[i],by simp[hi],rfl] #[n1,st.2.kept λo e=>(k.2 d f).trans e] λb o a e=>k.extBut b o (λh=>a (by simp[h])) e
 done:=λs Q E st c=>Cc l st.1 st.2 λg he=>c g s.toks λb o a e=>he b o (λh=>a (by simp[h])) e
 self:=λ_ _ _ _ st c=>wpAny_pyIter_keyiter st.1 c
theorem BW(lo:(d==LL)=MZ):PySem.W.KdlSrc prog w "dict" d d es.size (λi v=>∃e,es[i]?=MW e/\v=e.key) (λh=>j5 h d es ep) where
 type:=λ_ a=>a.ty
 there:=λ_ a=>#[a.lt,a.lt]
 keep:=λ_ _ a c=>a.kept λo e=>c d (.inl rfl) o e
 notList:=⋯
 notTuple:=⋯
 hint:=λ_ _ _ _ a b=>PySem.W.kdl_hint_dict a.ty b
 iter:=λ_ _ f a=>#[_,_,(λ_ _ b=>wX lo a b),v7 f _ d (JH a.lt) es ep,#[#[_,Jt _ rfl,8,rfl],a.kept λo e=>J6 _ e]]
end
section
variable{X:Cx}
def xc{P:Jv}{w:JP}{xs:List O3}{a:List (Nv×k_×J3)}(r:Ml RI xs a):(a.map (entryOfKey (eJ P w))).map (·.key)=xs.map λx=>JV x.2.1:=by
 induction r with
 |nil=>rfl
 |cons h t b=>simp only[J9,b,h.2.1];rfl
theorem mX:∀xs:List O3,Vals (xs.map λx=>V.ref x.2.1) (xs.map λx=>JV x.2.1)
 |[]=>.nil
 |x::xs=>.cons rfl (mX xs)
def p9(g:X.calm=MY):bo X (.type "list") (λvs H Q=>∃p xs,vs=[.ref p]/\H p=MW (.ext (cj X.prog X.w p xs))/\∀l,H l=MX->Q (.ref l) (upd H l (.lst (xs.map λx=>V.ref x.2.1)))):=by
 intro NK s σ H vs us Q I r h;let[p,xs,j,k,q]:=h;subst j;let[u,8,m]:=vals1 r;cases m;obtain⟨⟨h1,h2,B,C,d,o,es,ep,n,t,v,f⟩,_⟩:=I.hok p _ k;let y:es.size=xs.length:=by rw[<-JG,f,J7,oP d]
 refine PySem.W.kdl_call (BW (es:=es) (ep:=ep) h1) (I.ok.hd g) #[o,n,t,v] (by rw[y];exact h2) λz A a c kp hl it=>?_
 let ea:a.toList=xs.map λx=>JV x.2.1:=by
  rw[<-xc (P:=X.prog) (w:=X.w) d,<-f];apply List.ext_getElem?;intro i;by_cases hi:i<es.size
  .have b:i<a.size:=by rw[it.1];exact hi
   let[e,e1,e2]:=it.2 i a[i] (by simp[b]);simp[b,hi]at e1 ⊢;rw[e2,<-e1]
  .have b:¬i<a.size:=by rw[it.1];exact hi
   simp[hi,b]
 refine #[.ref s.z,_,I.laid (t':=A) kp (Jo _) (show bB X.prog X.w _ z _ (.lst _)from #[by rw[J7];exact h2,_,c,mX xs,?_]),8,q _ (I.hok.fresh (Jo _))];rw[<-ea,Array.toArray_toList];exact hl
def DV:RC:=λa M Q=>xQ a M Q\/∃l kvs,a=[.ref l]/\M l=MW (Pc kvs)/\∀p,M p=MX->Q (.ref p) (av M p (.lst (kvs.map λx=>Qr x.1)))
theorem nr{K:J1}{H:Hp}:∀{kvs:Oz}{xs:List O3},xs.map (·.1)=kvs.map (·.1)->(∀x∈xs,dz K H x.2.1 x.1)->aC K H (kvs.map λx=>Qr x.1) (xs.map λx=>V.ref x.2.1)
 |[],[],_,_=>by rw[L7,L7];exact aC.nil
 |y::kvs,x::xs,h,k=>by
  rw[J9,J9]at h
  injection h with e1 e2
  rw[J9,J9]
  exact aC.cons (by rw[<-e1];exact yW (k x (_))) (nr e2 λz a=>k z (by simp[a]))
 |[],_::_,h,_=>by cases h
 |_::_,[],h,_=>by cases h
def zC(f:X.calm=MY):cK X (.type "list") DV:=by
 intro NK s σ H vs us Q I d g;let[h,M,R,e,a,q,b]:=g;rcases q with q|⟨l,kvs,i,hl,q⟩
 .exact BU NK s σ H vs us Q I d #[h,M,R,e,a,q,b]
 .subst i;let[v,8,r]:=bR e;rw[Rep]at r;subst r;let[xs,h1,h2,j,k]:=a.dsp hl;exact p9 f NK s σ H _ us Q I d #[_,xs,8,h1 _ _,λz c=>b (.ref z) _ _ _ (.new c) (by rw[Rep]) (a.mB c (nr h2 j)) (q z (a.fresh c))]
end
def Ob(t b X Y:Int)(u:Vc):D:=N5 (NY t b X 1 u.1) (NY t b Y 1 u.2)
def gk(t b X Y:Int)(u:Vc):Nv:=((NY t b X 1 u.1).num,((NY t b X 1 u.1).den:Int),(NY t b Y 1 u.2).num,((NY t b Y 1 u.2).den:Int))
theorem FH(t b X Y:Int)(u:Vc):Ob t b X Y u=Qr (gk t b X Y u):=rfl
def wQ{t b X Y:Int}(ht:0<t)(a:0<b){p q:Vc}(h:gk t b X Y p=gk t b X Y q):p=q:=by unfold gk at h;injection h with h1 h;injection h with h2 h;injection h with c d;let e1:NY t b X 1 p.1=NY t b X 1 q.1:=Rat.ext h1 (by exact_mod_cast h2);let e2:NY t b Y 1 p.2=NY t b Y 1 q.2:=Rat.ext c (by exact_mod_cast d);let e:=(N4 ht a ⋯ ⋯).mp e1;let f:=(N4 ht a ⋯ ⋯).mp e2;exact Prod.ext () ()
def OO(u:Vc):Prop:=(0<=u.1/\u.1<=20)/\(0<=u.2/\u.2<=20)
def ea(w:Wl):Vc:=(w.1,w.2.1)
def eb(w:Wl):Vc:=(w.2.2.1,w.2.2.2)
theorem OB.ea{w:Wl}(h:OB w):OO (ea w):=#[h.a,h.b]
theorem OB.eb{w:Wl}(h:OB w):OO (eb w):=#[h.c,h.d]
theorem OB.eab{w:Wl}(h:OB w):SD.ea w≠SD.eb w:=λe=>by have:=h.lt;unfold SD.ea SD.eb at e;injection e with e1 e2;unfold l1 l2 la at this;omega
def cU(us:List Vc)(u:Vc):List Vc:=if u∈us then us else us++[u]
def pC{us:List Vc}{u v:Vc}:v∈cU us u↔v∈us\/v=u:=by
 unfold cU;split
 .constructor
  .exact .inl
  .rintro(h|rfl)
   .exact h
   .assumption
 .simp
def tL{us:List Vc}{u:Vc}(h:us.Nodup):(cU us u).Nodup:=by
 unfold cU;split
 .exact h
 .rename_i hn;rw[List.nodup_append];refine #[h,by simp,λa ha b c e=>?_];have:b=u:=‹c›
  subst this;subst e;exact hn ha
def lA(us:List Vc)(u:Vc):(cU us u).length<=us.length+1:=by
 unfold cU;split
 .omega
 .simp
def OA(ws:n_):Nat->List Vc
 |0=>[]
 |i+1=>match ws[i]? with
  |some w=>cU (cU (OA ws i) (ea w)) (eb w)
  |none=>OA ws i
theorem nH(ws:n_):∀i,(OA ws i).Nodup
 |0=>List.nodup_nil
 |i+1=>by
  unfold OA
  split
  .exact tL (tL (nH ws i))
  .exact nH ws i
theorem dX(ws:n_):∀i,(OA ws i).length<=2*i
 |0=>Jo _
 |i+1=>by
  let a:=dX ws i
  unfold OA
  split
  .have h1:=lA (cU (OA ws i) (ea (by assumption:_))) (eb (by assumption:_))
   let h2:=lA (OA ws i) (ea (by assumption:_))
   omega
  .omega
theorem fu{ws:n_}{u:Vc}:∀i,u∈OA ws i↔∃j w,j<i/\ws[j]?=MW w/\(u=ea w\/u=eb w)
 |0=>by simp[OA]
 |i+1=>by
  let b:=fu (ws:=ws) (u:=u) i
  unfold OA
  split
  .rename_i w hw
   rw[pC,pC,b]
   constructor
   .rintro((⟨j,v,h1,h2,a⟩|h)|h)
    .exact #[j,v,(),h2,a]
    .exact #[i,w,(),hw,.inl h]
    .exact #[i,w,(),hw,.inr h]
   .rintro⟨j,v,h1,h2,a⟩
    by_cases e:j=i
    .subst e
     rw[hw]at h2;cases h2
     rcases a with a|a
     .exact .inl (.inr a)
     .exact .inr a
    .exact .inl (.inl #[j,v,(),h2,a])
  .rename_i hw
   rw[b]
   constructor
   .rintro⟨j,v,h1,h2,a⟩
    exact #[j,v,(),h2,a]
   .rintro⟨j,v,h1,h2,a⟩
    by_cases e:j=i
    .subst e;rw[hw]at h2;cases h2
    .exact #[j,v,(),h2,a]
theorem CO{ws:n_}(hU:∀w∈ws,OB w){i:Nat}:∀u∈OA ws i,OO u:=λu a=>by
 let[j,w,_,h2,b]:=(fu i).mp a;have:=hU w (JN h2);rcases b with rfl|rfl
 .exact this.ea
 .exact this.eb
def QL(t b X Y:Int)(us:List Vc):Oz:=us.map λu=>(gk t b X Y u,D.bl MY)
def AR{t b X Y:Int}(ht:0<t)(c:0<b)(us:List Vc)(u:Vc):putD (QL t b X Y us) (gk t b X Y u) (.bl MY)=QL t b X Y (cU us u):=by
 let ea:((QL t b X Y us).any λx=>decide (x.1=gk t b X Y u))=decide (u∈us):=by
  rw[Mh,Mq,NH];constructor
  .rintro⟨x,hx,e⟩;let[v,a,8]:=JZ.mp hx;have:gk t b X Y v=gk t b X Y u:=‹e›
   rw[<-wQ ht c this];exact a
  .intro h;exact #[_,JZ.mpr #[u,h,rfl],by simp]
 unfold putD cU;rw[ea];by_cases h:u∈us
 .rw[NB ‹h›,NB h];unfold QL;rw[Lr];refine LJ λv a=>?_;dsimp only[Function.comp];split
  .rfl
  .rfl
 .rw[NA ‹h›,NA h];unfold QL;rw[Kr];rfl
theorem nZ(u:Vc):¬ON u u:=λh=>by unfold ON at h;omega
def FP{ps:List Vc}{u:Vc}{j:Nat}(h:ps.Pairwise ON)(e:j<=ps.length)(h1:∀i,i<j->ON (p0 ps i) u)(h2:∀i,j<=i->i<ps.length->ON u (p0 ps i)):(bT ps j u).Pairwise ON/\(bT ps j u).Perm (u::ps):=by
 constructor
 .unfold bT;rw[List.pairwise_append]
  let lt:∀x∈ps.take j,ON x u:=λx hx=>by
   let[i,hi,8]:=Mj hx
   let a:i<j/\i<ps.length:=by rw[La]at hi;omega
   have:=h1 i a.1
   unfold p0 at this
   simpa[a.2]using this
  let gt:∀x∈ps.drop j,ON u x:=λx hx=>by
   let[i,hi,8]:=Mj hx
   let a:j+i<ps.length:=by rw[List.length_drop]at hi;omega
   have:=h2 (j+i) () a
   unfold p0 at this
   simpa[a]using this
  refine #[h.sublist (List.take_sublist _ _),List.pairwise_cons.mpr #[gt,h.sublist (List.drop_sublist _ _)],λx hx y b=>?_];rcases JU.mp b with rfl|b
  .exact lt x hx
  .have c:=lt x hx;let d:=gt y b;unfold ON at c d ⊢;omega
 .unfold bT;have:(ps.take j++u::ps.drop j).Perm (u::(ps.take j++ps.drop j)):=List.perm_middle
  rwa [Mv]at this
theorem Ec{t b X Y:Int}(ht:0<t)(a:0<b){u v:Vc}(c:OO u)(d:OO v):N0 (NY t b X 1 u.1) (NY t b Y 1 u.2) (NY t b X 1 v.1) (NY t b Y 1 v.2)↔ON u v:=nL ht a c.2 d.2
theorem OO.bx{t b X Y:Int}(S:PB t b X Y){u:Vc}(h:OO u):NZ 200 (NY t b X 1 u.1):=S.bx ⋯ (by have:=h.1;omega)
theorem OO.by'{t b X Y:Int}(S:PB t b X Y){u:Vc}(h:OO u):NZ 200 (NY t b Y 1 u.2):=S.by' ⋯ (by have:=h.2;omega)
def A0{u v:Vc}(a:OO u)(b:OO v)(ne:u≠v)(h:¬ON u v):ON v u:=by
 let h1:=a.2;let h2:=b.2;unfold ON at h ⊢;by_cases e:100*u.1+u.2=100*v.1+v.2
 .exact absurd (Prod.ext () ()) ne
 .omega
def SR(u:Vc):MN:=.tuple [.int u.1,.int u.2]
theorem tj{M:MH}:∀us:List Vc,QD M (us.map OW) (us.map SR)
 |[]=>.nil
 |u::us=>.cons (Pd.of rfl) (tj us)
theorem uV:∀us:List Vc,KW (us.map SR)=MY
 |[]=>rfl
 |u::us=>by rw[J9,KW,uV us];rfl
def A8(u:Vc)(us:List Vc):(us.map SR).any (λq=>KA q (SR u))=decide (u∈us):=by
 rw[List.any_map,Mh,Mq,NH];constructor
 .rintro⟨v,a,e⟩;let e:KA (.tuple [.int v.1,.int v.2]) (.tuple [.int u.1,.int u.2])=MY:=e;rw[oF]at e;let e:=NF e;rw[show u=v from Prod.ext e.1.symm e.2.symm];exact a
 .intro h;exists u,h;show KA (.tuple [.int u.1,.int u.2]) (.tuple [.int u.1,.int u.2])=MY;rw[oF];exact ND #[8,rfl]
def E6{M:MH}{l:k_}{us:List Vc}(u:Vc)(g:Bool->Bool)(Q:DK)(h:M l=MW (.lst (us.map OW)))(q:Q (.bl (g (decide (u∈us)))) M):Gi g (OW u) (.ref l) M Q:=by exists _,_,Pd.of (p:=SR u) rfl,.inl (.lst h (tj us)),8,uV us;rw[A8];exact q
def Cv(us:List Vc)(u v:Vc)(ne:u≠v):us.map OW++(JM 2).filterMap (λj=>if j=0 then(if u∈us then MX else MW (OW u))else(if v∈us then MX else MW (OW v)))=(cU (cU us u) v).map OW:=by unfold cU;by_cases h1:u∈us<;>by_cases h2:v∈us<;>simp[JM,JM.loop,h1,h2,ne.symm]
section
variable{X:Cx}{NK:l'}{σ:L2.St}{H:Hp}{s:J4}{a b:k_}{k:Nv}
def zP{A:JQ}{E:J3->J4->Prop}{Q:Unit->J4->Prop}{xs:List O3}{v:V}{u:J3}(z:A.units+8<Ky)(I:L2.Inv X NK σ H s)(e:H a=MW (.ext (cj X.prog X.w a xs)))(i:∀x∈xs,dz X.K H x.2.1 x.1)(j:dz X.K H b k)(f:RelV v u)(hl:xs.length<JJ)
 (h:∀g,L2.Inv X NK σ (upd H a (.ext (cj X.prog X.w a (gU xs k b v)))) g->Q .unit g):Jq (Ju X.prog X.w) A (dictSet a (.ref b) u) Q E s:=by
 let[hd,l,B,r,m]:=sU I e i
 refine wpAny_dictSet_heap (knd:=eJ X.prog X.w) (hsz:=by rw[<-oP r];exact l) (():A.units+4<Ky) (tV I j) m λC c hs=>h _ ?_
 let[q,es,ep,d,n,o,p,_,t]:=c
 refine ki I (by rw[e];exact Lm) hs #[q,d] #[#[hd,?_,?_,_,kH r k b f,q,es,ep,d,n,o,p],#[q,d],λh1 h2 x y=>nJ h1 h2 x y]
 .have:=pq xs k b v;omega
 .rw[<-l7 (kH r k b f)];exact t
end
def rj{prog:Jv}{w:JP}{A:JQ}{R:Result->J4->Prop}{s:J4}{kx g a b:l_}{d:m3}{scope:Lq}{f:Pos}{it:J3}{D:k_}{env:Env}(J:Nat->J4->Prop)
 (step:∀n s,J n s->Jq (Ju prog w) A (MU it) (λr i=>match r with
  |none=>R (.ok .next) i
  |some v=>Jq (Ju prog w) A (LK a it v) (λ_ k=>Jq (Ju prog w) A (assign a env v) (λ_ l=>
   Jq (Ju prog w) A (forIn d MY λc r=>if r=MY then do let ok <-isTrue c env (eval c env);pure (Mf ok)else pure (Mf r)) (λok j=>
    if ok=MY then Jq (Ju prog w) A (eval kx env) (λo p=>Jq (Ju prog w) A (eval g env) (λq t=>Jq (Ju prog w) A (dictSet D o q) (λ_ u=>∃m,m<n/\J m u) OM t) OM p) OM j
    else ∃m,m<n/\J m j) OM l) OM k) OM i) OM s)
 (n:Nat) (h:J n s):L5 (Ju prog w) A (.compLoop (.DictComp kx g [#[a,b,d,0]] scope f) 0 it (.ref D) env) R s:=by
 let no:∀{E:J3->J4->Prop} e y,OM e y->E e y:=λ_ _ z=>z.elim
 refine codeAny_loop rfl J (λn s C=>?_) n h
 show Jq _ _ (Sem.onRaise (compTurn (.DictComp kx g [#[a,b,d,0]] scope f) 0 it (.ref D) env) (λx=>do noteFrame x env;theTreesLotGoes x)) _ _ s
 refine wpAny_noted ?_
 rw[compTurn_dict]
 refine J0 (KN (J0 (Jx (step n s C) (λr i h1=>?_) no)))
 cases r with
 |none=>exact J5 h1
 |some v=>
  refine J0 (Jx h1 (λ_ k h2=>J0 (Jx h2 (λ_ l F=>J0 (Jx F (λok j B=>?_) no)) no)) no)
  cases ok with
  |false=>exact J5 #[8,B]
  |true=>exact J0 (J0 (Jx B (λo p G=>J0 (Kl (Jx G (λq t H=>J0 (KN (Kl (Jx H (λ_ u I=>J5 #[8,I]) no)))) no))) no))
def xm(X:Cx)(js:ma)(own:Own)(tc:TT)(tk te:TE)(σ:L2.St)(J:It)(H1:Hp)(Q:VK):Prop:=∀D,H1 D=MX->∃W:Nat->Nat->Hp->Prop,(∃m,W 0 m (upd H1 D (.ext (cj X.prog X.w D []))))/\∀i m H,W i m H->
 (J.stop i H/\Q (.ref D) H)\/(J.go i H/\∀y d,J.yld i H y d->∃os,own y d os/\tc (cσ os js σ) d λb e=>if b=MY then
  tk (cσ os js σ) e λf g=>te (cσ os js σ) g λv c=>∃b k xs,f=.ref b/\c D=MW (.ext (cj X.prog X.w D xs))/\(∀x∈xs,dz X.K c x.2.1 x.1)/\dz X.K c b k/\xs.length<JJ/\∃a,a<m/\W (i+1) a (upd c D (.ext (cj X.prog X.w D (gU xs k b v))))else ∃a,a<m/\W (i+1) a e)
def tw(X:Cx)(js:ma)(own:Own)(a:TI)(tc:TT)(tk te:TE):TE:=λσ H Q=>a σ H λJ H1=>xm X js own tc tk te σ J H1 Q
section
variable{X:Cx}{xs:nj}{tg:l_}{pos:Pos}{js:ma}{scope:Lq}{kx vx iter:l_}{ifs:m3}{tk te:TE}{tc:TT}{g:TG}{own:Own}{wi:TI}{NK:l'}{σ:L2.St}{H:Hp}{s:J4}{fp:m_}{it:k_}{tn:Nat->lj->Prop}{J:It}
def v5(c:Na X xs js scope)(hc:X.calm=MY)(hG:PJ xs.length g own)(hg:∀C s H fp,PG (Nh X xs js scope C s H fp) tg g)(ht:∀C s H fp,Rb (Nh X xs js scope C s H fp) ifs tc)(hk:∀C s H fp,PE (Nh X xs js scope C s H fp) kx tk)(he:∀C s H fp,PE (Nh X xs js scope C s H fp) vx te)(hu:X.A.units+8<Ky)
 {R:J3->k_->Result->J4->Prop} {E:J3->J4->Prop} {Q:VK}
 (I:Inv X NK σ H s) (T:Turn X.prog X.w X.K tg J fp it tn) (st:tn 0 s.heap) (hf:∀b∈fp,cP X NK H b) (wc:xm X js own tc tk te σ J H Q)
 (hR:∀D C h G,Inv X NK σ h G->cP X NK h C->(∃m,G.heap.Ns C m)->Q (.ref D) h->R (.ref D) C (.ok .next) G) :
 Jq (Ju X.prog X.w) X.A newDict (λc0 d0=>Jq (Ju X.prog X.w) X.A (MP scope X.env.globals (dW scope.names X.env) [] X.env.qual MX .none (MW X.env)) (λN e0=>
  L5 (Ju X.prog X.w) X.A (.compStart (.DictComp kx vx [#[tg,iter,ifs,0]] scope pos) 0 (.ref it) c0 { N with scope:=relabel scope X.env }) (R c0 N.locals) e0) E d0) E s:=by
 let f0:∀b∈fp,b<s.z:=λb a=>let⟨o,e,_⟩:=T.obj 0 _ st b a;Js e
 let hD:H s.z=MX:=I.hok.fresh (Jo _)
 refine Kf (oY ?_)
 generalize hh:s.heap.push { cls:=.type "dict",data:=.dict #[] }=f
 generalize g0:pushCells (({ s with heap:=f }:J4).heap.push { cls:=.type "dict",data:=.dict #[] }) scope.names=j
 let k3:∀b o,s.heap.get? b=MW o->f.get? b=MW o:=λb o e=>by rw[<-hh];exact J6 _ e
 let I3:Inv X NK σ (upd H s.z (.ext (cj X.prog X.w s.z []))) { s with heap:=f }:=by
  rw[<-hh];exact tY I
 let l:∀b∈fp,cP X NK (upd H s.z (.ext (cj X.prog X.w s.z []))) b:=λb a=>#[by rw[ay (JH (f0 b a))];exact(hf b a).1,(hf b a).2]
 let o0:f.objs.size=s.z+1:=by rw[<-hh,Li]
 let h0:∀b∈fp,b<f.objs.size:=λb a=>by rw[o0];exact KL (f0 b a)
 let k4:∀b o,f.get? b=MW o->j.get? b=MW o:=λb o e=>by rw[<-g0];exact pushCells_keeps _ _ b o (J6 _ e)
 let I4:=kY c I3 l h0 (h':=j) g0.symm k4
 obtain⟨W,⟨m0,w0⟩,i0⟩:=wc _ hD
 let PY:tn 0 j:=T.keep 0 _ _ st λb a o e=>k4 b o (k3 b o e)
 generalize hX:Nh X xs js scope f.objs.size { s with heap:=f } (upd H s.z (.ext (cj X.prog X.w s.z []))) fp=X' at I4
 let P:∀{pins':l'}{h:Hp}{L:L2.St}{G:J4},Inv X' [] L h G->(∀b∈fp,h b=MX)->∀b∈fp,cP X' [] h b:=λ{pins' h L G} J' hn b a=>by
  subst hX
  let[a1,a2]:=J'.ok.exf b a
  exact #[hn b a,a1,J'.ok.exfs b a,.inl a,a2,λp hp=>absurd (show p∈([]:l')from hp) (_)]
 let O:L5 (Ju X.prog X.w) X.A (.compLoop (.DictComp kx vx [#[tg,iter,ifs,0]] scope pos) 0 (.ref it) (.ref s.z) (j7 scope f.objs.size X.env)) (R (.ref s.z) f.objs.size)
  { s with heap:=j }:=by
  refine rj (λn G=>∃i os h,os.length=xs.length/\Inv X' [] (cσ os js σ) h G/\tn i G.heap/\(∀b∈fp,h b=MX)/\W i n h) ?_ m0 #[0,_,_,by simp,I4,PY,λb a=>(l b a).1,w0]
  rintro n s5 ⟨i,os,H5,q0,I5,Ot,j0,w5⟩
  rcases i0 i n H5 w5 with⟨stop,q⟩|⟨go,step⟩
  .subst hX
   refine Jx (T.done (Nh X xs js scope f.objs.size { s with heap:=f } (upd H s.z (.ext (cj X.prog X.w s.z []))) fp) rfl rfl rfl hc i [] s5 _ H5 OM I5 (P (pins':=[]) I5 j0) Ot stop) (λr s6 S=>?_) λ_ _ z=>z
   let[hr,I6]:=S
   subst hr
   refine hR _ _ H5 s6 (I3.pD I6.os I6.base I6.hok I6.bare λb a=>#[(l b a).2.2.2.1,(l b a).2.1,(l b a).2.2.2.2.1,(l b a).2.2.2.2.2]) (I3.sS (Jo _) I6.free) (let⟨m,hm,_⟩:=I6.loc;#[m,hm]) q
  .subst hX
   refine Jx (T.item (Nh X xs js scope f.objs.size { s with heap:=f } (upd H s.z (.ext (cj X.prog X.w s.z []))) fp) rfl rfl rfl hc i [] s5 _ H5 OM I5 (P (pins':=[]) I5 j0) Ot go) (λr s6 U=>?_) λ_ _ z=>z
   let[u,hr,h6]:=U
   subst hr
   refine Jx h6 (λ_ s7 V=>?_) λ_ _ z=>z
   let[y,H7,I7,r7,y7,Oo,r0]:=V
   let s0:=I7.pinned (P (pins':=[]) I7 r0) (T.obj _ _ Oo)
   let[M,k0,q8]:=step y H7 y7
   let l8:=hG.len _ _ _ k0
   refine Jx (hg _ _ _ _ _ s7 _ H7 y u (λL h=>L=cσ M js σ/\h=H7) s0 r7 (hG.run y H7 os _ M _ q0 k0 #[8,rfl])) (λ_ s8 Y=>?_) λ_ _ z=>z
   let[f1,H8,I8,e8,t0]:=Y
   subst e8 t0
   refine Jx (ht _ _ _ _ _ s8 _ _ _ I8 q8) (λok s9 Z=>?_) λ_ _ z=>z
   let[H9,I9,q9]:=Z
   let back:∀{m':Nat}{x:Hp}{t:J4},Inv (Nh X xs js scope f.objs.size { s with heap:=f } (upd H s.z (.ext (cj X.prog X.w s.z []))) fp) ([]++gF fp s7.heap) (cσ M js σ) x t->m'<n->W (i+1) m' x->
    ∃m,m<n/\∃i os h,os.length=xs.length/\Inv (Nh X xs js scope f.objs.size { s with heap:=f } (upd H s.z (.ext (cj X.prog X.w s.z []))) fp) [] (cσ os js σ) h t/\tn i t.heap/\(∀b∈fp,h b=MX)/\W i m h:=λ{m' x t} B F u0=>by
    refine #[m',F,i+1,M,x,l8,B.dS,T.keep _ _ _ Oo λb a o e=>(B.pin (b,o) (JL _ (JL _ (bF a e)))).1,λb a=>?_,u0]
    let[o',e,d]:=T.obj _ _ Oo b a
    exact(B.pin (b,o') (JL _ (JL _ (bF a e)))).2.1
   cases ok with
   |false=>
    rw[NA JO]at q9 ⊢
    let[m',F,w9]:=q9
    exact back I9 F w9
   |true=>
    rw[NB rfl]at q9 ⊢
    refine Jx (hk _ _ _ _ _ s9 _ _ _ I9 q9) (λkv t a0=>?_) λ_ _ z=>z
    let[kk,x,B,v0,x0]:=a0
    refine Jx (he _ _ _ _ _ t _ _ _ B x0) (λv g1 b0=>?_) λ_ _ z=>z
    let[vv,h1,y0,z0,b,k,ys,ek,l0,b1,c1,n0,m',F,d1]:=b0
    subst ek
    cases v0
    exact zP (X:=Nh X xs js scope f.objs.size { s with heap:=f } (upd H s.z (.ext (cj X.prog X.w s.z []))) fp) hu y0 l0 b1 c1 z0 n0 λi1 e1=>back e1 F d1
 exact codeAny_compStart_dict O (T.self X.A 0 _ _ _ PY O)
def Aq(c:Na X xs js scope)(k:X.calm=MY)(hi:PI X tg iter wi)(l:PJ xs.length g own)(n:∀C s H fp,PG (Nh X xs js scope C s H fp) tg g)(ht:∀C s H fp,Rb (Nh X xs js scope C s H fp) ifs tc)(p:∀C s H fp,PE (Nh X xs js scope C s H fp) kx tk)(he:∀C s H fp,PE (Nh X xs js scope C s H fp) vx te)(r:X.A.units+8<Ky)(hs:∀x,K6 iter X.env x=pure x:=by intro _;rfl) : PE X (.DictComp kx vx [#[tg,iter,ifs,0]] scope pos) (tw X js own wi tc tk te):=by intro NK s σ H Q I h;rw[arm_eval_DictComp];refine wpAny_comprehension_free (use:=MX) rfl hs (c.B3 I.ok) c.kind c.names (Nf (hi NK s σ H _ I h) λv G h1=>Nf h1 λt K a=>?_);let[it,fp,tn,J,L,e,u,T,st,y,w]:=a;subst e;refine v5 (R:=λi C=>compPost (Ju X.prog X.w) X.A X.xe MX (EP X NK σ Q) i C) c k l n ht p he r u T st y w λD C z B E f d q=>?_;let[m,F]:=d;exact #[m,F,λM j=>#[.ref D,z,E.turned (t':=B.toks) (λb o ne e=>j.extBut b o ne e) f.1 f.2.1 f.2.2.2.1 f.2.2.2.2.1 f.2.2.2.2.2,8,q]]
end
def Fy(I:RE)(tk:QF)(js:ma)(tc:OL)(g te:TD)(δ:DS)(a:MH)(Q:DK):Prop:=I.n<=900000/\∀p,a p=MX->∃W:Nat->Oz->MH->Prop,W 0 [] (av a p (Pc []))/\(∀i kvs M,i<=I.n->W i kvs M->I.C M)/\
 (∀i kvs d M,i<I.n->I.item i=MW d->W i kvs M->∃os,yC tk d os/\tc (cδ os js δ) M λb c=>if b=MY then g (cδ os js δ) c λy h=>te (cδ os js δ) h λe f=>∃k,y=Qr k/\f p=MW (Pc kvs)/\kvs.length<=i/\W (i+1) (putD kvs k e) (av f p (Pc (putD kvs k e)))else W (i+1) kvs c)/\∀kvs M,W I.n kvs M->Q (.ref p) M
def uD(a:Ou)(tk:QF)(js:ma)(tc:OL)(b te:TD):TD:=λδ M Q=>a δ M λI c=>Fy I tk js tc b te δ c Q
section
variable{X:Cx}
def qW{D:Ou}{tk:QF}{js:ma}{tc:OL}{E te:TD}{σ:L2.St}{H:Hp}{Q:VK}(h:lift X.K (uD D tk js tc E te) σ H Q):tw X js (rS X.K tk) (lU X.K D) (liftT X.K tc) (lift X.K E) (lift X.K te) σ H Q:=by
 let[δ,M,R,hs,V,q,t]:=h;refine #[δ,M,_,hs,V,q,λI M1 H1 J g1 F x z p A=>?_];let[hn,x]:=x;let[W,Y,hC,l,done]:=x p (F.fresh A);refine #[λi m g=>m=I.n-i/\i<=I.n/\Nb X.K H1 g/\∃kvs M,Nc X.K g M/\W i kvs M,#[I.n,by simp,Kh _,.new A,[],_,F.CH _ _ A,Y],?_];rintro i m g ⟨rfl,hi,f,kvs,j,o,w2⟩;by_cases a:i<I.n
 .refine .inr #[z.go i g j a f o (hC _ _ _ hi w2),λv Z hy=>?_];let[B,a3,d,ed,rd]:=z.yld i g j v Z a f o (hC _ _ _ hi w2) hy;let[os,ow,q3]:=l i kvs d j a ed w2;let[us,uv,su]:=qF rd ow;let C:=kq (js:=js) (hs.mono ((g1.trans f).trans B)) su;refine #[us,uv,cδ os js δ,j,_,C,a3,q3,λb G H4 r L s=>?_];cases b with
  |false=>
   rw[NA JO]at s ⊢
   exact #[I.n-(i+1),(),8,a,(f.trans B).trans r,kvs,G,L,s]
  |true=>
   rw[NB rfl]at s ⊢
   refine #[cδ os js δ,G,_,C.mono r,L,s,λy M5 u H5 N r5 a5 q5=>#[cδ os js δ,M5,_,(C.mono r).mono N,a5,q5,λe M6 u6 O P r6 S c=>?_]]
   let[k,ey,e6,a0,w6]:=c
   subst ey
   let[b,8,sp]:=uM (r5.mono P)
   let[xs,h1,h2,T,h4]:=S.dsp e6
   let U:xs.length=kvs.length:=by have:=congrArg List.length h2;simpa using this
   let sz:1000000<=JJ:=Ng rfl
   let g7:Nb X.K O (upd O p (.ext (cj X.prog X.w p (gU xs k b u6)))):=.ext (h1 X.prog X.w)
   exact #[b,k,xs,8,h1 _ _,T,sp,(),I.n-(i+1),(),8,a,((((f.trans B).trans r).trans N).trans P).trans g7,putD kvs k e,_,S.CN _ _ h1 h2 h4 T sp r6,w6]
 .obtain rfl:i=I.n:=()
  exact .inl #[z.stop g j f o (hC _ _ _ hi w2),t _ _ _ _ (g1.trans f) (by rw[Rep]) o (done kvs j w2)]
variable{xs:nj}{tg:l_}{pos:Pos}{js:ma}{scope:Lq}{kx vx iter:l_}{ifs:m3}{tx te:TD}{tc:OL}{g:TG}{tk:QF}{wd:Ou}
end
section
variable{X:Cx}{NK:l'}{σ:L2.St}{H:Hp}{s:J4}
def jP{h':lj}{t':Nat}{ch:m_}(I:Inv X NK σ H s)(k:∀b o,b∉ch->s.heap.get? b=MW o->h'.get? b=MW o)(f:∀b∈ch,cP X NK H b):Inv X NK σ H { s with heap:=h',toks:=t' }:=by
 let ne:∀b u,H b=MW u->b∉ch:=λb u q d=>by rw[(f b d).1]at q;cases q
 refine I.step (g':=s.gens) (d':=s.drawn) (ch:=ch) (λb d=>?_) (λb o _ _ a q _=>k b o a q) (λb o _ _ a q _=>#[o.slots,k b o a q]) (λ_ _ _ _ n=>n) (λb o a q=>#[o,k b o a q]) (λ_ _ q=>q) (λ_ _ _ q=>q) (λb ps q=>#[#[],by rw[q];simp]) (λm e=>?_) (λb u q=>?_) I.bare
 .obtain⟨i,e1,_,e3,e4,g⟩:=f b d;exact #[e3,e1,e4,g]
 .obtain⟨o,es,ep,h,r⟩:=e;exact #[o,es,ep,k _ o (λd=>(f _ d).2.1 rfl) h,r]
 .refine(I.hok b u q).dg (λc v a z=>?_) (λ_ z=>z) λ_ _ z=>z;rcases a with y|y
  .subst y;exact k _ v (ne _ u q) z
  .exact k c v (ne c _ y) z
end
def ZP(K:J1)(a b:k_):It:=
 #[λi H=>∃xs c x y,Ni K H a xs/\Ni K H b c/\xs[i]?=MW x/\c[i]?=MW y,λi H x d=>∃T y z,x=.ref T/\H T=MX/\d=upd H T (.tup [y,z])/\(∀xs,Ni K H a xs->xs[i]?=MW y)/\∀c,Ni K H b c->c[i]?=MW z,λi H=>∃xs c,Ni K H a xs/\Ni K H b c/\(xs.length<=i\/c.length<=i)]
def Ao{P:Jv}{w:JP}{K:J1}{L:m3}{kt}{pt:Pos}(a b z TI TO j l:k_)(D:ZipApart z TI TO j l a b):Turn P w K (.Tuple L kt pt) (ZP K a b) [z,TI,TO,j,l] z (λi h=>IsZip h z TI TO .none/\IsPair h TI (.ref j) (.ref l)/\(∃p q,IsPair h TO p q)/\h.IsListIter j a i/\h.IsListIter l b i) where
 mem:=by simp
 obj:=λi h st c f=>by
  obtain⟨h1,h2,⟨p,q,t⟩,u,A⟩:=st
  rcases(show c=z\/c=TI\/c=TO\/c=j\/c=l by simpa using f)with rfl|rfl|rfl|rfl|rfl
  .exact #[_,h1,λv y=>by cases (show Data.fields _=Data.cell v from y)]
  .exact #[_,h2,λv y=>by cases (show Data.seq _ _=Data.cell v from y)]
  .exact #[_,t,λv y=>by cases (show Data.seq _ _=Data.cell v from y)]
  .obtain⟨o,B,_,d⟩:=u
   exact #[o,B,λv y=>by rw[d]at y;cases y]
  .obtain⟨o,B,_,d⟩:=A
   exact #[o,B,λv y=>by rw[d]at y;cases y]
 keep:=λi h M st k=>by
  obtain⟨h1,h2,⟨p,q,t⟩,u,A⟩:=st
  exact #[k z (_) _ h1,k TI (_) _ h2,#[p,q,k TO (_) _ t],u.at λo y=>k j (_) o y,A.at λo y=>k l (_) o y]
 item:=by
  intro X V W Y f i NK s σ H E I S st Z
  subst V W Y
  let[xs,ys,x,y,m,r,hx,hy]:=Z
  obtain⟨h1,h2,⟨p,q,t⟩,u,A⟩:=st
  let[N,C,p1,a0]:=I.list m
  let[O,F,p2,b0]:=I.list r
  let[Q,c0,d0]:=C.get hx
  let[R,e0,f0]:=F.get hy
  refine wpAny_pyNext_zip_item D h1 h2 t u A p1.isList p2.isList (x:=Q) (y:=R) ‹c0› ‹e0› λM a1 a2 a3 a4 a5 a6 a7=>#[7,wpAny_letOwnedTupleGo_zip (s:={ s with heap:=M }) a1 λG b1 T=>?_]
  let T:LN z M G:=T
  let fr:=I.fresh
  let lt:∀c∈[z,TI,TO,j,l],c<s.z:=λc f=>by
   rcases(show c=z\/c=TI\/c=TO\/c=j\/c=l by simpa using f)with rfl|rfl|rfl|rfl|rfl
   .exact Js h1
   .exact Js h2
   .exact Js t
   .obtain⟨o,B,_⟩:=u;exact Js B
   .obtain⟨o,B,_⟩:=A;exact Js B
  let I1:Inv X NK σ (upd H s.z (.tup [x,y])) { s with heap:=s.heap.push { cls:=.type "tuple",data:=.seq (List.toArray [Q,R]) },toks:=s.toks }:=
   I.laid (λb v q=>J6 _ q) (Jo _) #[Ng rfl,[Q,R],.cons d0 (.cons f0 .nil),#[_,Jt _ rfl,8,7],#[_,Jt _ rfl,rfl]]
  let fk:∀c∈[z,TI,TO,j,l],cP X NK (upd H s.z (.tup [x,y])) c:=λc f=>#[by rw[ay (JH (lt c f))];exact(S c f).1,(S c f).2]
  let I2:Inv X NK σ (upd H s.z (.tup [x,y])) { s with heap:=G,toks:=s.toks }:=by
   refine jP (ch:=[z,TO,j,l]) (s:={ s with heap:=s.heap.push { cls:=.type "tuple",data:=.seq (List.toArray [Q,R]) },toks:=s.toks }) I1 (λc o g q=>?_) λc f=>fk c (by simp at f ⊢;rcases f with rfl|rfl|rfl|rfl<;>simp)
   let q:(s.heap.push { cls:=.type "tuple",data:=.seq (List.toArray [Q,R]) }).get? c=MW o:=q
   simp at g
   refine(T.2 c g.1).trans ?_
   rcases Heap.get?_push_cases q with⟨rfl,rfl⟩|q
   .exact a5
   .exact a7 c o g.1 g.2.1 g.2.2.1 g.2.2.2 q
  let U:∀c o,c≠z->M.get? c=MW o->G.get? c=MW o:=λc o n e=>(T.2 c n).trans e
  refine #[.ref s.z,_,I2,8,#[_,x,y,8,fr,8,λzs J=>by rw[I.iP J m];exact hx,λzs J=>by rw[I.iP J r];exact hy],#[b1,U _ _ D.TIz (a7 _ _ D.TIz D.TITO D.TIi1 D.TIi2 h2),#[_,_,U _ _ D.TOz a2],a3.at λo e=>U _ o D.i1z e,a4.at λo e=>U _ o D.i2z e],λc f=>(fk c f).1]
 done:=by
  intro X V W Y f i NK s σ H E I S st Z
  subst V W Y
  let[xs,ys,m,r,he]:=Z
  obtain⟨h1,h2,⟨p,q,t⟩,u,A⟩:=st
  let[N,C,p1,a0]:=I.list m
  let[O,F,p2,b0]:=I.list r
  let l1:=C.length
  let l2:=F.length
  refine wpAny_pyNext_zip_end (I.ok.hd f) D h1 h2 t u A p1.isList p2.isList (he.imp (λe=>by simp;omega) λe=>by simp;omega) λM k=>#[8,?_]
  exact jP (t':=s.toks) (ch:=[z,TO,j,l]) I (λc o g q=>by simp at g;exact k c o g.1 g.2.1 g.2.2.1 g.2.2.2 q) λc f=>S c (by simp at f ⊢;rcases f with rfl|rfl|rfl|rfl<;>simp)
 self:=λ_ _ _ _ _ st h=>wpAny_pyIter_zip st.1 h
def DL{n l1 l2:Nat}(a:l1<n)(b:l2<n):ZipApart (n+4) (n+2) (n+3) n (n+1) l1 l2:=by constructor<;>exact λe=>absurd (id e:@Eq Nat _ _) ()
def Er:Kk "zip"=MW (.type "zip"):=by decide +kernel
section
variable{X:Cx}{elts:m3}{kt:Nat}{pt:Pos}
def F5(K:J1)(c:TA):TI:=λσ H R=>c σ H λvs H1=>∃a b xs d,vs=[.ref a,.ref b]/\H1 a=MW (.lst xs)/\H1 b=MW (.lst d)/\R (ZP K a b) H1
def Dw{a b:l_}{y:TA}{p d:Pos}(B:Gl X "zip")(C:X.mg "zip"=MX)(ha:PA X [a,b] y)(hs:Jz [a,b] X.env=(MZ,eval a X.env)::Jz [b] X.env:=by rfl)(k:(Lh d (Jz [b] X.env)).any (·.1)=MZ:=by rfl):PI X (.Tuple elts kt pt) (.Call (.Name "zip" p) [a,b] [] d) (F5 X.K y):=by
 intro NK s σ H R I h;refine Call_ (f6 I B C Er (LA (Nf (ha d NK s σ H _ I h) λus c e=>?_) hs k));let[vs,H1,f,E,F]:=e;let[l1,l2,xs,S,G,l,m,q]:=F;subst G;let[T,U,8,n,o]:=vals2 E;cases n;cases o;let[V,g,n1,J,L,e1]:=f.pP l;let[W,i,n2,M,N,e2]:=f.pP m;let O:c.heap.IsList l1 g.toArray:=#[_,e1,8,n1,rfl];let L2:c.heap.IsList l2 i.toArray:=#[_,e2,8,n2,rfl];let r:=Js e1;let t:=Js e2;refine call_zip_2 O L2 λY z u v w x P Q=>wpAny_pyIter_zip z ?_
 let fp:∀b∈[c.z+4,c.z+2,c.z+3,c.z,c.z+1],cP X NK H1 b:=λb A=>by
  let j:c.z<=b:=by simp at A;rcases A with rfl|rfl|rfl|rfl|rfl<;>first|exact Nat.le_add_right _ _|exact Jo _
  exact f.sS j (f.hok.fresh j)
 let D:ZipApart (c.z+4) (c.z+2) (c.z+3) c.z (c.z+1) l1 l2:=by exact DL r t
 exact #[_,_,_,_,H1,8,f.kept (t':=c.toks) Q,Ao l1 l2 _ _ _ _ _ D,#[z,u,#[_,_,v],w,x],fp,q]
def Hm(f:Ny):Ou:=λδ M R=>f δ M λg c=>∃a b es fs,g=[.ref a,.ref b]/\c a=MW (.lst es)/\c b=MW (.lst fs)/\R #[min es.length fs.length,λi=>(es[i]?).bind λd=>(fs[i]?).map λe=>.tup [d,e],λM=>M a=MW (.lst es)/\M b=MW (.lst fs)] c
theorem xY{K:J1}{B:Ny}:∀(σ:L2.St)(H:Hp) R,lU K (Hm B) σ H R->F5 K (yG K B) σ H R:=
 λσ H R I=>by
  let[δ,M,U,hs,J,q,o]:=I
  exact #[δ,M,_,hs,J,q,λV L vs H1 g1 N p O=>by
   let[l1,l2,es,fs,e,s,t,P]:=O
   subst e
   let[W,Y,8,r,C]:=dQ N
   rw[Rep]at r C;subst r C
   let[xs,hx,Z]:=p _ _ s
   let[Q,u,rt]:=p _ _ t
   refine #[l1,l2,xs,Q,8,hx,u,o _ L H1 _ g1 p P #[λD j E h k=>?_,λi D j hi E h k=>?_,?_]]
   .obtain⟨l,m⟩:=(show j l1=MW (.lst es)/\j l2=MW (.lst fs)from k)
    let[a,c,d]:=h _ _ l
    let[b,f,g]:=h _ _ m
    exists a,b,Ni.of c,Ni.of f
    show a.length<=min es.length fs.length\/b.length<=min es.length fs.length
    rw[<-d.length,<-g.length];omega
   .obtain⟨l,m⟩:=(show j l1=MW (.lst es)/\j l2=MW (.lst fs)from k)
    let[a,c,d]:=h _ _ l
    let[b,f,g]:=h _ _ m
    let hi:i<min es.length fs.length:=hi
    let h1:i<a.length:=by rw[<-d.length];omega
    let h2:i<b.length:=by rw[<-g.length];omega
    exact #[a,b,a[i],b[i],Ni.of c,Ni.of f,by simp[h1],by simp[h2]]
   .rintro i D j v H3 hi E h k ⟨T,y,z,rfl,n,rfl,u,S⟩
    let[l,m]:=(show j l1=MW (.lst es)/\j l2=MW (.lst fs)from k)
    let hi:i<min es.length fs.length:=hi
    let he:i<es.length:=()
    let F:i<fs.length:=()
    let[a,c,d]:=h _ _ l
    let[b,f,g]:=h _ _ m
    let[x,e1,e2]:=d.get (show es[i]?=MW es[i] by simp[he])
    let[x',w,A]:=g.get (show fs[i]?=MW fs[i] by simp[F])
    let t1:=u a (Ni.of c)
    let G:=S b (Ni.of f)
    rw[e1]at t1;cases t1
    rw[w]at G;cases G
    exact #[.new n,h.new n,.tup [es[i],fs[i]],by simp[he,F],by rw[Rep];exact #[T,7,Nl.of az,.cons (e2.mono (.new n)) (.cons (A.mono (.new n)) .nil)]]]
theorem Fj{a b:l_}{e:Ny}{p c:Pos}(f:Gl X "zip")(g:X.mg "zip"=MX)(ha:DA X [a,b] e)(hs:Jz [a,b] X.env=(MZ,eval a X.env)::Jz [b] X.env:=by rfl)(d:(Lh c (Jz [b] X.env)).any (·.1)=MZ:=by rfl):DI X (.Tuple elts kt pt) (.Call (.Name "zip" p) [a,b] [] c) (Hm e):=nN (Dw f g ha hs d) xY
end
structure Gs(g h:Int):Prop where
 g0:0<g
 g1:g<=12
 h0:0<=h
 h1:h<=24
def gp(g h:Int)(u:Vc):D:=.tup [.int (g*u.1-h),.int (g*u.2-h)]
def Nj(g h:Int)(w:Wl):D:=.tup [gp g h (ea w),gp g h (eb w)]
def wN{g h a c:Int}(b:0<g):g*a-h<g*c-h↔a<c:=by
 constructor
 .intro e;exact Int.lt_of_mul_lt_mul_left (():g*a<g*c) ()
 .intro e;have:=Int.mul_lt_mul_of_pos_left e b;omega
def sA{g h a c:Int}(b:0<g):g*a-h=g*c-h↔a=c:=by let h1:=wN (h:=h) (a:=a) (c:=c) b;let h2:=wN (h:=h) (a:=c) (c:=a) b;omega
def IW{g h a c:Int}(b:0<g):g*a-h<=g*c-h↔a<=c:=by let h2:=wN (h:=h) (a:=c) (c:=a) b;omega
def Bn{g h a b c d:Int}(e:0<g):HT.lexLt [g*a-h,g*b-h] [g*c-h,g*d-h]=HT.lexLt [a,b] [c,d]:=by simp only[HT.lexLt,wN e,sA e]
def B6{g h a b c d:Int}(e:0<g):HT.ck [g*a-h,g*b-h] [g*c-h,g*d-h]=HT.ck [a,b] [c,d]:=by simp only[HT.ck,wN e,sA e,gt_iff_lt]
def tQ{g h a b c d:Int}(e:0<g):HT.lexLe [g*a-h,g*b-h] [g*c-h,g*d-h]=HT.lexLe [a,b] [c,d]:=by simp only[HT.lexLe,wN e,sA e,IW e]
def G3(g h a b c d e f:Int):R7 (g*c-h-(g*a-h)) (g*d-h-(g*b-h)) (g*e-h-(g*a-h)) (g*f-h-(g*b-h))=(g*g)*R7 (c-a) (d-b) (e-a) (f-b):=by unfold R7;grind
def GS{g:Int}(a:0<g)(z:Int):KG (g*g*z)=KG z:=by let b:=LU a a;rw[Int.sign_mul,Lk b,Int.one_mul]
def Cw{g h x:Int}(G:Gs g h)(hx:0<=x/\x<=20):Bd 12 (g*x-h):=by let h1:=G.g0;let h2:=G.g1;let c:=G.h0;let d:=G.h1;let a:g*x<=12*20:=Int.mul_le_mul h2 hx.2 hx.1 ⋯;let b:0<=g*x:=Int.mul_nonneg () hx.1;show(g*x-h).natAbs<2^12;omega
def sg{g h:Int}(a:0<g)(u v:Vc):KA (.tuple [.int (g*u.1-h),.int (g*u.2-h)]) (.tuple [.int (g*v.1-h),.int (g*v.2-h)])=decide (u=v):=by rw[oF,NG,sA a,sA a];exact #[λe=>Prod.ext e.1 e.2,λe=>by rw[e];exact #[8,rfl]]
def Nw(M:MH)(r:k_)(n:Nat):Prop:=∃a b c:Int,M r=MW (.lst [.int a,.int b,.int c])/\0<=a/\0<=b/\b<2147483647/\0<=c/\c<=n
theorem Nw.le{M:MH}{r:k_}{n m:Nat}(h:Nw M r n)(l:n<=m):Nw M r m:=let⟨a,b,c,h1,h2,d,e,f,g⟩:=h;#[a,b,c,h1,h2,d,e,f,()]
theorem Nw.ne{M:MH}{r p:k_}{n:Nat}(h:Nw M r n)(a:M p=MX):r≠p:=let⟨_,_,_,h1,_⟩:=h;aw h1 a
theorem Nw.new{M:MH}{r p:k_}{n:Nat}{o:MO}(h:Nw M r n)(d:M p=MX):Nw (av M p o) r n:=let⟨a,b,c,h1,h2⟩:=h;#[a,b,c,by rw[ak (aw h1 d)];exact h1,h2]
theorem Nw.upd{M:MH}{r p:k_}{n:Nat}{o:MO}(h:Nw M r n)(ne:r≠p):Nw (av M p o) r n:=let⟨a,b,c,h1,h2⟩:=h;#[a,b,c,by rw[ak ne];exact h1,h2]
def Kx(xs:m_)(M b:MH):Prop:=∀a o,a∉xs->M a=MW o->b a=MW o
theorem Kx.refl{xs:m_}{M:MH}:Kx xs M M:=λ_ _ _ h=>h
theorem Kx.trans{xs:m_}{M c M2:MH}(a:Kx xs M c)(b:Kx xs c M2):Kx xs M M2:=λx o n h=>b x o n (a x o n h)
theorem Kx.upd{xs:m_}{M b:MH}{p:k_}{o:MO}(a:Kx xs M b)(c:p∈xs):Kx xs M (av b p o):=λx u n h=>by let ne:x≠p:=λe=>n (by rw[e];exact c);rw[ak ne];exact a x u n h
theorem Kx.new{xs:m_}{M b:MH}{p:k_}{o:MO}(a:Kx xs M b)(c:b p=MX):Kx xs M (av b p o):=λx u n h=>by rw[ak (aw (a x u n h) c)];exact a x u n h
def W7(g h:Int)(w:Wl):MN:=.tuple [.tuple [.int (g*w.1-h),.int (g*w.2.1-h)],.tuple [.int (g*w.2.2.1-h),.int (g*w.2.2.2-h)]]
theorem yd{M:MH}(g h:Int):∀ws:n_,QD M (ws.map (Nj g h)) (ws.map (W7 g h))
 |[]=>.nil
 |w::ws=>.cons (Pd.of rfl) (yd g h ws)
theorem yj(g h:Int):∀ws:n_,KW (ws.map (W7 g h))=MY
 |[]=>rfl
 |w::ws=>by rw[J9,KW,yj g h ws];rfl
theorem ye(g h:Int):∀ws:n_,My (ws.map (W7 g h))<=10
 |[]=>Ng rfl
 |w::ws=>by
  rw[J9,My]
  exact Nat.max_le.mpr #[Ng rfl,ye g h ws]
def wb(g h:Int)(ws:n_):SeqAt.shaped (.list (ws.map (W7 g h)))=MY:=by unfold SeqAt.shaped;let h1:=yj g h ws;let h2:=ye g h ws;rw[Kq];refine #[by rw[PyData.canLay0];exact h1,ND ?_];rw[PyData.depth];omega
theorem qM(g h:Int):∀ws:n_,KA (.list (ws.map (W7 g h))) (.list [])=ws.isEmpty
 |[]=>by simp[KA,KU]
 |w::ws=>by simp[KA,KU]
def BD{g h:Int}{ws:n_}{v:Int}(h0:0<=v)(h1:v<ws.length):∃w,w∈ws/\atI (ws.map (Nj g h)) v=MW (Nj g h w):=by
 obtain⟨j,rfl⟩:∃j:Nat,v=(j:Int):=#[v.toNat,()];let a:j<ws.length:=()
 exact #[ws[j],Lc a,c7 (by simp[a])]
def Ce{g h:Int}{w:Wl}(W:OB w){v:Int}(h0:0<=v)(h1:v<2):∃p,OO p/\atI [gp g h (ea w),gp g h (eb w)] v=MW (gp g h p):=by
 rcases(():v=0\/v=1)with rfl|rfl
 .exact #[_,W.ea,rfl]
 .exact #[_,W.eb,rfl]
def As{ws:n_}:PF ws↔ws.Pairwise Oc:=by
 rw[Kd];constructor
 .intro h i j hi b a;exact h i j _ _ () (JB hi) (JB b)
 .intro h i j U V a hU c;let[hi,8]:=Jp.mp hU;let[b,8]:=Jp.mp c;rcases Nat.lt_or_gt_of_ne a with z|z
  .exact h i j hi b z
  .exact(h j i b hi z).swap
theorem uN{a b:n_}(p:b.Perm a)(h:PF a):PF b:=As.mpr ((p.pairwise_iff λ{x y} z=>Oc.swap z).mpr (As.mp h))
theorem D5{ws:n_}{w:Wl}{j:Nat}(h:PF ws)(hw:∀(t:Nat)(v:Wl),ws[t]?=MW v->Oc w v):PF (bT ws j w):=uN (jc ws j w) (uN (List.perm_append_singleton w ws).symm (wC h hw))
def AE{g h:Int}(d:0<g){u v:Vc}(i:OO u)(j:OO v)(ne:u≠v):∃w:Wl,OB w/\(if HT.lexLt [g*v.1-h,g*v.2-h] [g*u.1-h,g*u.2-h]=MY then[g*v.1-h,g*v.2-h]else[g*u.1-h,g*u.2-h])=[g*w.1-h,g*w.2.1-h]/\
 (if HT.ck [g*v.1-h,g*v.2-h] [g*u.1-h,g*u.2-h]=MY then[g*v.1-h,g*v.2-h]else[g*u.1-h,g*u.2-h])=[g*w.2.2.1-h,g*w.2.2.2-h]:=by
 let[w,e1,e2,W]:=wy (p:=u.1) (q:=u.2) (e:=v.1) (f:=v.2) i.1 i.2 j.1 j.2 (λz=>ne (Prod.ext z.1 z.2))
 exists w,W,?_
 .rw[Bn d]
  by_cases c:HT.lexLt [v.1,v.2] [u.1,u.2]=MY
  .rw[NB c]at e1 ⊢
   injection e1 with b a;injection a with a _
   rw[b,a]
  .rw[NA c]at e1 ⊢
   injection e1 with b a;injection a with a _
   rw[b,a]
 .rw[B6 d]
  by_cases c:HT.ck [v.1,v.2] [u.1,u.2]=MY
  .rw[NB c]at e2 ⊢
   injection e2 with b a;injection a with a _
   rw[b,a]
  .rw[NA c]at e2 ⊢
   injection e2 with b a;injection a with a _
   rw[b,a]
def wA{b:Type}(f:b->D)(l:List b):cutD (l.map f) (MW 1) MX=(l.drop 1).map f:=by
 unfold cutD;rw[show(MW 1:mu)=MW ((1:Nat):Int)from rfl,HT.ub,HT.qk];cases l with
 |nil=>rfl
 |cons a l=>
  have:min 1 ((a::l).map f).length=1:=by simp
  rw[this]
  simp
  exact L8 (_)
theorem xj{M:MH}:∀bs:List Bool,QD M (bs.map D.bl) (bs.map PyData.bool)
 |[]=>.nil
 |b::bs=>.cons (.bl b) (xj bs)
theorem x9:∀bs:List Bool,KW (bs.map PyData.bool)=MY
 |[]=>rfl
 |b::bs=>by rw[J9,KW,x9 bs];rfl
def E7(c:Bool)(bs:List Bool):(bs.map PyData.bool).any (λq=>KA q (.bool c))=bs.any (λb=>b==c):=by
 rw[List.any_map]
 congr 1
def raw(g h:Int)(w:Wl):Wl:=(g*w.1-h,g*w.2.1-h,g*w.2.2.1-h,g*w.2.2.2-h)
theorem y8(g h:Int):∀ws:n_,(ws.map (raw g h)).map uw=ws.map (Nj g h)
 |[]=>rfl
 |w::ws=>by rw[J9,J9,J9,y8 g h ws];rfl
def Fg{g h:Int}(G:Gs g h){w:Wl}(W:OB w):ZL (10^3) (raw g h w):=by
 let k:∀{x:Int},(0<=x/\x<=20)->-(10^3)<=g*x-h/\g*x-h<=10^3:=λ{x} hx=>by
  let h1:=G.g0
  let h2:=G.g1
  let e:=G.h0
  let f:=G.h1
  let a:g*x<=12*20:=Int.mul_le_mul h2 hx.2 hx.1 ⋯
  let b:0<=g*x:=Int.mul_nonneg () hx.1
  omega
 exact #[k W.a,k W.b,k W.c,k W.d]
theorem iW(k:Nv)(d:D)(c:Nv):∀kvs:Oz,((kvs.map λx=>if x.1=k then(x.1,d)else x).find? λx=>decide (x.1=c)).map (·.2)=if c=k/\(kvs.any λx=>decide (x.1=k))=MY then MW d else(kvs.find? λx=>decide (x.1=c)).map (·.2)
 |[]=>by simp
 |x::kvs=>by
  let f:=iW k d c kvs
  rw[J9,JS,JS,LP]
  by_cases a:x.1=k
  .rw[NB a]
   by_cases b:x.1=c
   .have e:c=k:=b.symm.trans a
    simp[a,e]
   .have ne:¬c=k:=λz=>b (a.trans z.symm)
    rw[NA (λz=>ne z.1)]
    rw[NA (λz=>ne z.1)]at f
    simp only[NC b]
    exact f
  .rw[NA a]
   by_cases b:x.1=c
   .have ne:¬c=k:=λz=>a (b.trans z)
    rw[NA (λz=>ne z.1)]
    simp[b]
   .simp only[NC b,NC a,Bool.false_or]
    exact f
def yB(kvs:Oz)(k:Nv)(d:D)(a:Nv):ka (putD kvs k d) a=if a=k then MW d else ka kvs a:=by
 unfold putD ka;by_cases h:(kvs.any λx=>decide (x.1=k))=MY
 .rw[NB h,iW];by_cases e:a=k
  .rw[NB #[e,h],NB e]
  .rw[NA (λz=>e z.1),NA e]
 .rw[NA h,List.find?_append];by_cases e:a=k
  .subst e;have:(kvs.find? λx=>decide (x.1=a))=MX:=by rw[List.find?_eq_none];intro x hx b;exact h (Mq.mpr #[x,hx,b])
   rw[this,NB rfl];simp
  .rw[NA e];have:([(k,d)]:Oz).find? (λx=>decide (x.1=a))=MX:=by simp;exact λz=>e z.symm
   rw[this];simp
section
variable{X:Cx}{x y:Str}{px py pt pos:Pos}{kt:Nat}{js:ma}{scope:Lq}{kx vx iter:l_}{ifs:m3}{tx te:TD}{tc:OL}{wd:Ou}
theorem vb(d:X.A.units+66<Ky)(c:Na X [x,y] js scope)(a:X.calm=MY)(hi:DI X (.Tuple [.Name x px,.Name y py] kt pt) iter wd)(ht:∀C s H fp,DTs (Nh X [x,y] js scope C s H fp) ifs tc)(b:∀C s H fp,DE (Nh X [x,y] js scope C s H fp) kx tx)(he:∀C s H fp,DE (Nh X [x,y] js scope C s H fp) vx te) (hs:∀x,K6 iter X.env x=pure x:=by intro _;rfl):DE X (.DictComp kx vx [#[.Tuple [.Name x px,.Name y py] kt pt,iter,ifs,0]] scope pos) (uD wd (.many 2) js tc tx te):=aQ (Aq (tk:=lift X.K tx) (te:=lift X.K te) (tc:=liftT X.K tc) c a hi zB (λ_ _ _ _=>t8 c a) ht b he () hs) λ_ _ _ h=>qW h
end
section
variable{X:Cx}
end
def R8(f:Str)(d:D):List (Str×D)->List (Str×D)
 |[]=>[(f,d)]
 |(g,x)::r=>if g=f then(g,d)::r else(g,x)::R8 f d r
def gj(K:J1)(H:Hp):List (Str×D)->List (Str×V)->Prop
 |[],[]=>True
 |p::ps,q::qs=>p.1=q.1/\Rep K H p.2 q.2/\gj K H ps qs
 |_,_=>False
section
variable{K:J1}{H H':Hp}
theorem gj.mono(g:Nb K H H'):∀{fs:List (Str×D)} {vs:List (Str×V)},gj K H fs vs->gj K H' fs vs
 |[],[],_=>trivial
 |_::_,_::_,h=>#[h.1,h.2.1.mono g,gj.mono g h.2.2]
 |[],_::_,h=>h.elim
 |_::_,[],h=>h.elim
theorem gj.len:∀{fs:List (Str×D)} {vs:List (Str×V)},gj K H fs vs->vs.length=fs.length
 |[],[],_=>rfl
 |_::_,_::_,h=>by rw[JE,JE,gj.len h.2.2]
 |[],_::_,h=>h.elim
 |_::_,[],h=>h.elim
theorem gj.get{f:Str}:∀{fs:List (Str×D)} {vs:List (Str×V)},gj K H fs vs->(∀d,fs.lookup f=MW d->∃v,vs.lookup f=MW v/\Rep K H d v)/\(fs.lookup f=MX->vs.lookup f=MX)
 |[],[],_=>#[λ_ e=>(by cases e),λ_=>rfl]
 |(g,x)::r,(g',y)::r',h=>by
  let[e,h1,h2]:=h
  let e:g=g':=e
  subst e
  let a:=gj.get (f:=f) h2
  simp only[LQ]
  cases f==g with
  |true=>exact #[λd e=>(by cases e;exact #[y,8,h1]),λe=>(by cases e)]
  |false=>exact a
 |[],_::_,h=>h.elim
 |_::_,[],h=>h.elim
theorem gj.put{f:Str}{d:D}{v:V}(r:Rep K H d v):∀{fs:List (Str×D)} {vs:List (Str×V)},gj K H fs vs->gj K H (R8 f d fs) (d8 f v vs)
 |[],[],_=>#[8,r,trivial]
 |(g,x)::q,(g',y)::q',h=>by
  let[e,h1,h2]:=h
  let e:g=g':=e
  subst e
  unfold R8 d8
  by_cases z:g=f
  .rw[NB z,NB z];exact #[8,r,h2]
  .rw[NA z,NA z];exact #[8,h1,gj.put r h2]
 |[],_::_,h=>h.elim
 |_::_,[],h=>h.elim
end
def cm(C:k_)(fs:List (Str×D)):MO:=.gen λK H a=>∃b vs,H a=MW (.ins C b vs)/\gj K H fs vs
theorem C7{K:J1}{H:Hp}{a C b:k_}{fs:List (Str×D)}{vs:List (Str×V)}(h:H a=MW (.ins C b vs))(r:gj K H fs vs):iI K H a (cm C fs):=#[#[b,vs,h,r],by rw[h];simp,λc g e=>#[b,vs,e.trans h,r.mono g]]
theorem Nc.Jj{K:J1}{H:Hp}{M:MH}{p:k_}{o:HO}{m:MO}(h:Nc K H M)(g:Nb K H (upd H p o))(q:iI K (upd H p o) p m):Nc K (upd H p o) (av M p m):=λa u e=>by
 by_cases ne:a=p
 .subst ne;rw[aj]at e;cases e;exact q
 .rw[ak ne]at e;exact(h a u e).dg g (ay ne)
def C1(K:J1)(c:TD)(f:Str):TD:=λδ M Q=>c δ M λx b=>∃a C fs d,x=.ref a/\b a=MW (cm C fs)/\Cls K C/\bV K C f/\fs.lookup f=MW d/\Q d b
def GQ(K:J1)(c d:TD)(f:Str):OH:=λB δ M=>d δ M λy e=>c δ e λx b=>∃a C fs,x=.ref a/\b a=MW (cm C fs)/\Cls K C/\bV K C f/\fs.length<1000/\B.nx δ (av b a (cm C (R8 f y fs)))
def j6(P:Jv)(w:JP)(K:J1)(mg:Str->Option J3)(base:lj)(k:Nat)(C:k_)(m:Str)(sp:OE):Prop:=
 ∃f fd ps,Np P w K mg base Oa k f fd ps (dC K sp)/\Meth K C m f/\Binds K fd ps []
def vA(P:Jv)(w:JP)(K:J1)(mg:Str->Option J3)(base:lj)(k:Nat)(c:Str)(C:k_)(sp:OE):Prop:=
 ∃f fd ps,Np P w K mg base Oa k f fd ps (dC K sp)/\L2.Mk K C f/\Binds K fd ps []/\mg c=MW (.ref C)
section
variable{P:Jv}{w:JP}{K:J1}{mg:Str->Option J3}{base:lj}{j k:Nat}{C:k_}{c m:Str}{sp:OE}
theorem j6.mono(h:j6 P w K mg base j C m sp)(l:j<=k):j6 P w K mg base k C m sp:=let⟨f,fd,ps,F,r⟩:=h;#[f,fd,ps,F.mono l,r]
theorem vA.mono(h:vA P w K mg base j c C sp)(l:j<=k):vA P w K mg base k c C sp:=let⟨f,fd,ps,F,r⟩:=h;#[f,fd,ps,F.mono l,r]
end
def D8(C:k_)(m:Str)(sp:OE)(c:TD)(t:Ny):TD:=λδ M Q=>c δ M λx b=>∃a fs,x=.ref a/\b a=MW (cm C fs)/\fs.lookup m=MX/\t δ b λd e=>sp (x::d) e Q
def Dv(C:k_)(sp:OE)(t:Ny):TD:=λδ M Q=>t δ M λb a=>∀x,a x=MX->sp (.ref x::b) (av a x (cm C [])) λv c=>v=.non/\Q (.ref x) c
section
variable{X:Cx}{k:Nat}{C:k_}{x c m f:Str}{sp:OE}{p np pos pos' apos:Pos}{o e value:l_}{es:m3}{ta tv:TD}{t:Ny}
theorem kI(he:DE X o ta)(j:LB o f X.env (eval o X.env)=eval o X.env:=by rfl):DE X (.Attribute o f pos) (C1 X.K ta f):=
 aQ (FN he j) λσ H Q b=>by let[δ,M,R,hs,r,q,g]:=b;exact(#[δ,M,_,hs,r,q,λx E v H1 g1 h i z=>by
  let[a,C,fs,d,ex,h1,c,n,l,s]:=z
  subst ex
  rw[Rep]at h;subst h
  obtain⟨⟨w,vs,y,A⟩,_⟩:=i _ _ h1
  let[u,B,D]:=A.get.1 d l
  exact #[a,C,w,vs,u,8,y,c,n,B,g _ _ _ _ g1 D i s]])
theorem ku(A:DE X value tv)(D:DE X o ta)(hs:LW value (MW (.Attribute o f pos')) pos.line X.env=pure MZ:=by rfl):DSt X (.Assign [.Attribute o f pos'] value pos) (GQ X.K ta tv f):=
 b8 (EN D A hs) λE σ H b=>by let[δ,M,hs,a0,B,ok,q]:=b;exact(#[δ,M,_,hs,a0,q,λy F v H1 g1 G I J=>#[δ,F,_,hs.mono g1,I,J,λx N u i d j r z=>by
  let[a,C,fs,ex,h1,c,n,l,L]:=z
  subst ex
  rw[Rep]at j;subst j
  obtain⟨⟨s,vs,h,w⟩,_⟩:=r _ _ h1
  let g:Nb X.K i (upd i a (.ins C s (d8 f v vs))):=.put (λxs z=>by rw[h]at z;cases z) (λu xs z=>by rw[h]at z;cases z)
  exact #[a,C,s,vs,8,h,c,n,by rw[w.len];exact l,ok.nx _ _ _ _ ((g1.trans d).trans g) (hs.mono ((g1.trans d).trans g)) (r.Jj g (C7 az ((w.mono g).put (G.mono (d.trans g))))) L]]])
def e7{pl:Sem Bool}(cl:Cls X.K C)(F:j6 X.prog X.w X.K X.mg X.base k C m sp)(j:Nd k X.A)(n:DE X o ta)(ha:DA X (e::es) t)
 (b:Jz (e::es) X.env=(MZ,eval e X.env)::Jz es X.env:=by rfl) (d:(Lh pos (Jz es X.env)).any (·.1)=MZ:=by rfl)
 (ht:eval (.Call (.Attribute o m apos) (e::es) [] pos) X.env=(do
  let ov <-eval o X.env
  ML apos.atName
  let(f,first) <-holding [ov] (getMethod ov m pl)
  callWith pos f first (Lh pos (Jz (e::es) X.env)) (backToKw pos (keywordEach [] X.env))):=by rfl):DE X (.Call (.Attribute o m apos) (e::es) [] pos) (D8 C m sp ta t):=by
 let[f,fd,ps,F,r,s]:=F
 refine aQ (Br n cl r F j s .nil yg ha b d ht) λσ H Q ⟨δ,M,R,hs,u,q,g⟩=>#[δ,M,_,hs,u,q,λx y v H1 g1 h i z=>?_]
 let[a,fs,ex,h1,l,B]:=z
 subst ex
 rw[Rep]at h;subst h
 obtain⟨⟨D,vs,E,G⟩,_⟩:=i _ _ h1
 refine #[a,D,vs,8,E,G.get.2 l,δ,y,_,hs.mono g1,i,B,λS I us J L N O P=>?_]
 show dC X.K sp (.ref a::(us++[])) J Q E0
 rw[KP]
 exact #[_,I,R,.cons (by rw[Rep]) N,O,P,g.go (g1.trans L)]
def AU(F:vA X.prog X.w X.K X.mg X.base k x C sp)(B:Nd (k+1) X.A)(ha:DA X (e::es) t)(D:Gl X x:=by rfl)(h:(x==("__debug__":Str))=MZ:=by decide)
 (he:Jz (e::es) X.env=(MZ,eval e X.env)::Jz es X.env:=by rfl) (i:(Lh pos (Jz es X.env)).any (·.1)=MZ:=by rfl):DE X (.Call (.Name x p) (e::es) [] pos) (Dv C sp t):=by
 let[f,fd,ps,F,E,G,I]:=F
 refine aQ (B1 E F B D I G .nil yg ha h he i) λσ H Q ⟨δ,M,R,hs,J,q,j⟩=>#[δ,M,_,hs,J,q,λW L us H1 g1 N l z=>λy a r hd ne=>?_]
 let g:Nb X.K H1 (upd (upd H1 a (.own y)) y (.ins C a [])):=(Nb.new hd).trans (.new (by rw[ay ne.symm];exact r))
 let O:Nc X.K (upd (upd H1 a (.own y)) y (.ins C a [])) (av L y (cm C [])):=λb u e=>by
  by_cases n:b=y
  .subst n
   rw[aj]at e;cases e
   exact C7 az trivial
  .rw[ak n]at e
   let nd:b≠a:=λz=>by
    subst z
    have:=l.fresh hd
    rw[e]at this;cases this
   exact(l b u e).dg g (by rw[ay n,ay nd])
 show dC X.K sp (.ref y::(us++[])) _ _ E0
 rw[KP]
 exact #[_,_,_,.cons (by rw[Rep]) (N.mono g),O,z y (l.fresh r),λd Y v Z P s S T=>by
  let[U,V]:=T
  subst U
  rw[Rep]at s
  exact #[s,j _ _ _ _ ((g1.trans g).trans P) (by rw[Rep]) S V]]
end
def eg(K:J1)(C:k_)(x qual:Str)(st:lb):Prop:=∃f fd,Fun K x qual st f fd/\Meth K C x f
def mH(K:J1)(mg:Str->Option J3)(c:Str)(C:k_)(qual:Str)(st:lb):Prop:=∃f fd,Fun K "__init__" qual st f fd/\L2.Mk K C f/\mg c=MW (.ref C)
section
variable{P:Jv}{w:JP}{K:J1}{mg:Str->Option J3}{base:lj}{C:k_}{c x qual:Str}{st:lb}{N ps:nj}{k:Nat}{sp:OE}
def qY(T:eg K C x qual st)(S:N9 N ps (ao st))
 (d:∀(kV b e:J3)(an:Option k_)(cdv ct:J3)(us:List J3),us.length=ps.length->MM (Kp x qual (aT st) (aJ st) (ao st) .none kV b e an cdv ct) #[us,[]]=pure (ps.zip us))
 (len:∀a M Q,sp a M Q->a.length=ps.length)
 (body:∀(f:k_)(cdv:J3)(A:JQ)(outer:List Env)(s:J4)(H:Hp)(E:XK),Nd k (A.deeper (MT qual (ao st) s.z f cdv))->
  ∃t,DSs (bg Oa P w K mg base N qual (ao st) f cdv A outer s H E).nox (aJ st) t/\∀a M Q,sp a M Q->t (lT Q) (cV N a) M):j6 P w K mg base (k+1) C x sp:=by
 let[f,fd,F,g]:=T
 exact #[f,fd,ps,XB F S len (λ_ _=>trivial) (body f),g,F.binds d]
def Ht(T:mH K mg c C qual st)(S:N9 N ps (ao st))
 (d:∀(kV b e:J3)(an:Option k_)(cdv ct:J3)(us:List J3),us.length=ps.length->MM (Kp "__init__" qual (aT st) (aJ st) (ao st) .none kV b e an cdv ct) #[us,[]]=pure (ps.zip us))
 (len:∀a M Q,sp a M Q->a.length=ps.length)
 (body:∀(f:k_)(cdv:J3)(A:JQ)(outer:List Env)(s:J4)(H:Hp)(E:XK),Nd k (A.deeper (MT qual (ao st) s.z f cdv))->
  ∃t,DSs (bg Oa P w K mg base N qual (ao st) f cdv A outer s H E).nox (aJ st) t/\∀a M Q,sp a M Q->t (lT Q) (cV N a) M):vA P w K mg base (k+1) c C sp:=by
 let[f,fd,F,g,h]:=T
 exact #[f,fd,ps,XB F S len (λ_ _=>trivial) (body f),g,F.binds d,h]
end
section
variable{K:J1}{mg:Str->Option J3}{c x qual:Str}{st:lb}{C f:k_}{oc:J3}{od an:Option k_}{osl:Array (Option J3)}{kV doc pm cdv ct:J3}
def eg.mk(a:Kb K JR c=MW (MW (.ref C)))(b:Ko K (.ref C) x=MW (MW (.ref f)))(e:PySem.W.isFn K (.ref f)=MY) (l:K.lookup f=MW #[oc,od,.func (Kp x qual (aT st) (aJ st) (ao st) .none kV doc pm an cdv ct),osl]) (d:LS K cdv qual=MY) (k:Kz K (.ref f)=MY):eg K (cl K c) x qual st:=by rw[cR a];exact #[f,_,nX l d k,b,e,k]
def mH.mk{h:lj}(X:K.In h)(G:h.Ns JR mg)(a:Kb K JR c=MW (MW (.ref C)))(m:PySem.W.makesIn K C=MY)(b:Ko K (.ref C) "__init__"=MW (MW (.ref f)))(e:PySem.W.isFn K (.ref f)=MY)(kc:Kz K (.ref C)=MY) (l:K.lookup f=MW #[oc,od,.func (Kp "__init__" qual (aT st) (aJ st) (ao st) .none kV doc pm an cdv ct),osl]) (d:LS K cdv qual=MY) (k:Kz K (.ref f)=MY):mH K mg c (cl K c) qual st:=by rw[cR a];exact #[f,_,nX l d k,#[m,b,e,kc],PySem.W.mg_of X G a]
def EF(a:Kb K JR c=MW (MW (.ref C)))(pg:PySem.W.plainGet K C Str.empty=MY)(hd:KJ K C=MY)(po:PySem.W.plainOver K C=MY)(sa:Ko K (.ref C) "__setattr__"=MW (MW (.builtin "object.__setattr__"))):Cls K (cl K c):=by rw[cR a];exact #[pg,hd,po,sa]
def uU(a:Kb K JR c=MW (MW (.ref C)))(h:Ko K (.ref C) x=MW MX):bV K (cl K c) x:=by rw[cR a];exact h
end
structure ZC(P:Jv)(w:JP)(K:J1)(mg:Str->Option J3)(base:lj)(k:Nat)(g:k_)(sp:OE)(Mc:MH->Prop):Prop where
 ex:∃Pg:lj->Prop,(∀(M:Model) h,Pg h->∃k,(k=Keeper.frame\/k=Keeper.machine\/k=Keeper.boundFrame)/\MV M h (keeperOf (.ref g)) k)/\
  ∀(A:JQ)(outer:List Env)(s:J4)(H:Hp)(M:MH),Nd k A->Oh P w K mg base A outer s H->Nc K H M->Mc M->Pg s.heap/\
   ∀(us:List J3)(vs:n7)(Q:VK),Vals vs us->dC K sp vs H Q E0->L5 (Ju P w) A (.call (.ref g) #[us,[]]) (CR Oa outer P w H s Q E0) s
abbrev jj(scope:Lq)(L:k_)(cl:List (Str×k_))(qual:Str)(g:k_)(cd:J3):Env:=newEnv scope L JR cl (qual++".<locals>.") (MW g) cd MX builtinsNs
def pT(P:Jv)(w:JP)(K:J1)(mg:Str->Option J3)(base:lj)(N:nj)(qual:Str)(scope:Lq)(cl:List (Str×k_))(g:k_)(cd:J3)(A:JQ)(outer:List Env)(s:J4)(H:Hp):Cx where
 prog:=P
 w:=w
 K:=K
 mg:=mg
 base:=base
 A:=A.deeper (jj scope s.z cl qual g cd)
 N:=N
 s₀:=s
 H₀:=H
 env:=jj scope s.z cl qual g cd
 outer:=outer
 stack:=jj scope s.z cl qual g cd::outer
 ex:=[]
 calm:=MY
 fn:=λ_=>MZ
 pn:=[]
 xe:=λ_ _=>False
def cC(a:k_)(o:Obj):lj->Prop:=λh=>h.get? a=MW o
def lI(a:k_)(q:Str):lj->Prop:=λh=>h.CodeRec (.ref a) q
def xq(q:Str):MO:=.gen λ_ H a=>H a=MW (.ext (lI a q))
def rQ(ps:Array J3):MO:=.gen λ_ H a=>H a=MW (.tbl ps)
theorem m7{h base a:lj}:∀{l:List Env},h.FunFrames base l->(∀b∈OG l,a.get? b=MX)->h.FunFrames a l
 |[],_,_=>trivial
 |env::r,z,n=>by
  obtain⟨d,⟨L,o,c,j,f,hd⟩,g⟩:=z
  let e:OG (env::r)=L::OG r:=by unfold OG;rw[Ll,c]
  rw[e]at n
  exact #[d,#[L,o,c,n L JW,f,hd],m7 g λb i=>n b (JC _ i)]
structure Mk(K:J1)(mg:Str->Option J3)(c0 Pt:k_):Prop where
 hd:PySem.W.codeHdIn K c0 Pt=MY
 bm:∃bm o,mg "__builtins__"=MW (.ref bm)/\bm≠builtinsNs/\bm≠JR/\K.lookup bm=MW o/\o.cls=.type "module"/\o.dict=MW builtinsNs/\o.data=.plain
def Ct(a:Pos)(b:k_):Array J3:=(List.toArray [Lw a.line,Lw a.col,.ref b])
def b5(q:Str)(Pt:k_)(a:Pos)(M:MH):Prop:=M Pt=MW (rQ #[])\/∃b,M Pt=MW (rQ (Ct a b))/\M b=MW (xq q)/\b≠Pt
def cH(Pt:k_)(M b:MH):Prop:=∀a o,a≠Pt->M a=MW o->b a=MW o
section
variable{X:Cx}{NK:l'}{σ:L2.St}{H:Hp}{s:J4}{c0 Pt:k_}
def wZ(I:Inv X NK σ H s)(m:Mk X.K X.mg c0 Pt)(b:H Pt≠MX):s.heap.BuiltinsAt X.mg Pt:=by let[bm,o,h1,h2,c,a,d]:=m.bm;refine #[bm,o,h1,h2,c,λz=>?_,I.kIn _ _ a,d];subst z;exact b (I.bs _ _ (I.mod.kin _ _ a)).2
theorem HK(I:Inv X NK σ H s)(a:H Pt≠MX):JR≠Pt:=λz=>by let[o,es,ep,e,_]:=I.mod.glob;rw[z]at e;exact a (I.bs _ _ e).2
theorem jb{P:Jv}{w:JP}{b:Hp}{h:lj}{a:k_}{o:Obj}(e:h.get? a=MW o):bB P w b h a (.ext (cC a o)):=#[e,#[o,e],λh1 h2 z k=>k o z]
def EX{P:Jv}{w:JP}{g:Hp}{h:lj}{a:k_}{q:Str}(e:h.CodeRec (.ref a) q):bB P w g h a (.ext (lI a q)):=by
 refine #[e,?_,λh1 h2 z k=>?_]
 .obtain⟨c,oc,vs,f,b,d,_⟩:=e;cases b;exact #[oc,d]
 .obtain⟨c,oc,vs,f,b,d,r⟩:=z;cases b;exact #[a,oc,vs,f,8,k oc d,r]
def A4{h':lj}{tk:Nat}{o:Obj}(a:o.isFreed=MZ)(I:Inv X NK σ H s)(k:∀b u,s.heap.get? b=MW u->h'.get? b=MW u)(hsz:s.z<=h'.objs.size):H h'.objs.size=MX/\Inv X NK σ (upd H h'.objs.size (.ext (cC h'.objs.size o))) { s with heap:=h'.push o,toks:=tk }:=by let c:H h'.objs.size=MX:=I.hok.fresh hsz;exact #[c,I.laid (t':=tk) (h':=h'.push o) (λb u e=>J6 _ (k b u e)) hsz (jb (Jt _ a))]
def zU{h':lj}{tk:Nat}{o:Obj}{q:Str}{a:k_}{ps more:Array J3}(m:o.isFreed=MZ)(I:Inv X NK σ H s)(f:H Pt=MW (.tbl ps))(hx:Heap.ExtBut Pt s.heap h')(h1:s.z<=a)(h2:a<h'.objs.size)(y:h'.CodeRec (.ref a) q)
 (ht:h'.get? Pt=MW (PySem.W.tabObj (ps++more))):H a=MX/\H h'.objs.size=MX/\Inv X NK σ (upd (upd (upd H Pt (.tbl (ps++more))) a (.ext (lI a q))) h'.objs.size (.ext (cC h'.objs.size o))) { s with heap:=h'.push o,toks:=tk }:=by
 let A:Pt<s.z:=(I.hok _ _ f).lt
 let j:H a=MX:=I.hok.fresh h1
 let k:H h'.objs.size=MX:=I.hok.fresh (K0 h1 (Mm h2))
 let n1:a≠Pt:=λz=>by rw[z,f]at j;cases j
 let n2:h'.objs.size≠Pt:=λz=>by rw[z,f]at k;cases k
 let n3:a≠h'.objs.size:=JH h2
 let h:∀{b:k_}{u:HO},H b=MW u->b≠Pt->upd (upd (upd H Pt (.tbl (ps++more))) a (.ext (lI a q))) h'.objs.size (.ext (cC h'.objs.size o)) b=MW u:=λ{b u} e n=>by
  rw[ay (λz=>by rw[z,k]at e;cases e),ay (λz=>by rw[z,j]at e;cases e),ay n];exact e
 let i:∀{b:k_},H b=MX->b<s.z->upd (upd (upd H Pt (.tbl (ps++more))) a (.ext (lI a q))) h'.objs.size (.ext (cC h'.objs.size o)) b=MX:=λ{b} e l=>by
  let y1:b≠h'.objs.size:=λz=>by rw[z]at l;exact absurd l (Nat.not_lt.mpr (K0 h1 (Mm h2)))
  let B:b≠a:=λz=>by rw[z]at l;exact absurd l (Nat.not_lt.mpr h1)
  let C:b≠Pt:=λz=>by rw[z,f]at e;cases e
  rw[ay y1,ay B,ay C];exact e
 refine #[j,k,I.un (t':=tk) #[λb u e n _ _=>?_,λb u e n _ _=>#[u.slots,?_],λb u e n _=>i n (Js e),λb u e _=>?_,λb xs e=>h e (λz=>by rw[z,f]at e;cases e),λb u xs e=>h e (λz=>by rw[z,f]at e;cases e),λb F e=>?_] λb u e=>?_]
 .exact J6 _ (hx b u (λz=>by rw[z,f]at n;cases n) e)
 .exact J6 _ (hx b u (λz=>by rw[z,f]at n;cases n) e)
 .by_cases z:b=Pt
  .subst z;exact #[_,J6 _ ht]
  .exact #[u,J6 _ (hx b u z e)]
 .by_cases z:b=Pt
  .subst z
   rw[f]at e;cases e
   exact #[more,by rw[ay n2.symm,ay n1.symm,az]]
  .exact #[#[],by rw[h e z];simp]
 .by_cases w:b=h'.objs.size
  .subst w
   rw[az]at e;cases e
   exact jb (Jt _ m)
  .rw[ay w]at e
   by_cases x:b=a
   .subst x
    rw[az]at e;cases e
    let[c,oc,vs,D,p,E,r]:=y
    cases p
    exact EX #[b,oc,vs,D,8,J6 _ E,r]
   .rw[ay x]at e
    by_cases t:b=Pt
    .subst t
     rw[az]at e;cases e
     exact J6 _ ht
    .rw[ay t]at e
     refine(I.hok b u e).dg (λd v hd g=>J6 _ (hx d v ?_ g)) (λd g=>h g (λz=>by rw[z,f]at g;cases g)) λd xs g=>h g (λz=>by rw[z,f]at g;cases g)
     rcases hd with hd|hd
     .rw[hd];exact t
     .intro z;rw[z,f]at hd;cases hd
end
theorem Nc.rK{K:J1}{H:Hp}{M:MH}{a:k_}{o:HO}{A:J1->Hp->k_->Prop}(h:Nc K H M)(g:Nb K H (upd H a o))(z:A K (upd H a o) a)(st:∀c,Nb K (upd H a o) c->c a=MW o->A K c a):Nc K (upd H a o) (av M a (.gen A)):=λb u e=>by
 by_cases ne:b=a
 .subst ne;rw[aj]at e;cases e;exact #[z,by rw[az];simp,λc d f=>st c d (by rw[f,az])]
 .rw[ak ne]at e;exact(h b u e).dg g (ay ne)
def CT(Pt:k_)(H:Hp):Prop:=∀b,b≠Pt->H b=MX\/∃o xs,H b=MW (.frz o (.lst xs))
def wD{P:Jv}{w:JP}{K:J1}{mg J:Str->Option J3}{k:Nat}{L a Pt c0:k_}{fd:MA}{x:Str}{sp:Sp}{c:J4}{vs:List J3}{ns:ml}
 (M:K.In c.heap) (N:c.heap.Ns JR mg) (f:c.heap.Ns builtinsNs J) (O:∀x:Str,x≠"__name__"->J x=Kk x) (y:c.heap.NoLimit) (hg:c.gens=#[])
 (ha:c.heap.get? a=MW { cls:=.type "list",data:=.seq vs.toArray }) (hi:L6 vs ns) (hl:ns.length<=JJ) (hr:Nd k callerA) (A:c.heap.get? Pt=MW (PySem.W.tabObj #[])) (Q:K.lookup Pt=MX) (hC:PySem.W.codeHdIn K c0 Pt=MY)
 (F:∀base:lj,Np P w K mg base Oa k L fd [x] sp) (p:∀(s:J4)(u:J3),BindsTo s fd #[[u],[]] [(x,u)])
 (R:∀H:Hp,CT Pt H->H Pt=MW (.tbl #[])->Ni K H a (ns.map V.int)->sp [.ref a] H (λv _=>v=.bl MY) λ_ _ _=>False) :
 L5 (Ju P w) callerA (.call (.ref L) #[[.ref a],[]]) (λr j=>r=.ok (.ret (.bool MY))/\OldK c.heap j.heap/\j.os=c.os/\AllBare j.gens) c:=by
 let Z:=eT hi
 let B:=hi.length
 let D:a≠Pt:=λz=>by
  rw[z,A]at ha
  cases ha
 let l:∀H:Hp,CT Pt H->H Pt=MW (.tbl #[])->Ni K H a (ns.map V.int)->O8 P w H c.heap->(∀b,H b≠MX->b=a\/b=Pt)->(H a≠MX->K.lookup a=MX)->
  L5 (Ju P w) callerA (.call (.ref L) #[[.ref a],[]]) (λr j=>r=.ok (.ret (.bool MY))/\OldK c.heap j.heap/\j.os=c.os/\AllBare j.gens) c:=by
  intro H hO hP hS hok hA hK
  let S:∀{b:k_}{o:Obj}{es:Array KH}{ep:Nat},c.heap.get? b=MW o->o.data=.dict es ep->H b=MX:=λ{b o es ep} e d=>by
   cases q:H b with
   |none=>rfl
   |some u=>
    rcases hA b (by rw[q];simp)with z|z
    .rw[z,ha]at e;cases e
     let T:Data.seq vs.toArray _=Data.dict es ep:=d
     cases T
    .rw[z,A]at e;cases e
     let T:Data.fields #[]=Data.dict es ep:=d
     cases T
  let t:∀{b:k_}{m:Str->Option J3},c.heap.Ns b m->(jl c.heap H).Ns b m:=λ{b m} z=>by
   let[o,es,ep,e,d,r]:=z
   exact #[o,es,ep,fK e (S e d),d,r]
  let U:K.In (jl c.heap H):=λb o e=>fK (M b o e) (by
   cases q:H b with
   |none=>rfl
   |some u=>
    rcases hA b (by rw[q];simp)with z|z
    .subst z
     rw[hK (by rw[q];simp)]at e;cases e
    .rw[z,Q]at e;cases e)
  let[mc,l1,l2]:=y
  let hM:Mod K mg (jl c.heap H):=#[U,t N,#[J,t f,O],#[mc,t l1,l2]]
  let e0:Oh P w K mg (jl c.heap H) callerA [] c H:=#[8,hM,λb o e=>nS e,Nat.le_of_eq (mR _ _),trivial,λb f=>absurd (show b∈([]:m_)from f) (_),hok,.of_eq hg]
  refine MB ((F _).run callerA [] c H #[[.ref a],[]] [.ref a] [.ref a] _ _ hr e0 (p c (.ref a)) (.cons rfl .nil) (R H hO hP hS)) λr j h=>?_
  cases r with
  |error e=>exact JK h
  |ok fl=>
   cases fl with
   |next=>exact JK h
   |brk=>exact JK h
   |cont=>exact JK h
   |ret u=>
    let[v,H',os,bare,un,n,r',q]:=h
    let q':v=.bl MY:=q
    subst q'
    obtain rfl:u=Value.bool MY:=r'
    let[more,X]:=un.tbls _ _ hP
    let E:j.heap.get? Pt=MW (PySem.W.tabObj (#[]++more)):=n _ _ X
    let keep:∀b o,b≠Pt->c.heap.get? b=MW o->j.heap.get? b=MW o:=λb o i e=>by
     cases q:H b with
     |none=>exact un.keep b o e q (by intro z;exact absurd (show b∈([]:m_)from z) (_)) (_)
     |some u=>
      rcases hO b i with z|⟨ob,xs,z⟩
      .rw[q]at z;cases z
      .have z2:=un.frzs b ob _ z
       let[e1,_]:=hok b _ z
       let[e2,_]:=n b _ z2
       rw[e]at e1;cases e1
       exact e2
    let C:=PySem.W.codeHd_of_K M hC
    refine #[8,#[λb o e=>?_,λb o e=>?_],os,bare]
    .by_cases i:b=Pt
     .subst i
      rw[A]at e;cases e
      exact .inr (.inl #[(C.tab A).isCodeTable,8,#[],more,8,E])
     .exact .inl (keep b o i e)
    .by_cases i:b=Pt
     .subst i;exact #[_,E]
     .exact #[o,keep b o i e]
 let G:∀{H:Hp}{b:k_}{u:HO},b=Pt->H b=MW (.tbl #[])->H b=MW u->bB P w H c.heap b u:=λ{H b u} z e1 e2=>by
  rw[e1]at e2;cases e2
  rw[z];exact A
 cases Y:K.lookup a with
 |some o=>
  let e:=M a o Y
  rw[ha]at e
  cases e
  refine l (λb=>if b=Pt then MW (.tbl #[])else MX) (λb i=>.inl (NA i)) (NB rfl) (.inr #[_,vs.toArray,_,Y,8,8,8,by rw[Jw,B];exact hl,‹Z›]) (λb u z=>?_) (λb z=>?_) λz=>absurd (NA D) z
  .by_cases f:b=Pt
   .exact G f (NB f) z
   .have I:=(NA f).symm.trans z
    cases I
  .by_cases f:b=Pt
   .exact .inr f
   .exact absurd (NA f) z
 |none=>
  refine l (λb=>if b=Pt then MW (.tbl #[])else if b=a then MW (.frz { cls:=.type "list",data:=.seq vs.toArray } (.lst (ns.map V.int)))else MX) (λb i=>?_) (NB rfl) (.inl (.inr #[{ cls:=.type "list",data:=.seq vs.toArray },by show(if a=Pt then _ else _)=_;rw[NA D,NB rfl]])) (λb u z=>?_) (λb z=>?_) λ_=>Y
  .by_cases f:b=a
   .exact .inr #[_,_,by show(if b=Pt then _ else _)=_;rw[NA i,NB f]]
   .exact .inl (by show(if b=Pt then _ else _)=_;rw[NA i,NA f])
  .by_cases f:b=Pt
   .exact G f (NB f) z
   .have z1:=(NA f).symm.trans z
    by_cases g:b=a
    .have I:=(NB g).symm.trans z1
     cases I
     subst g
     exact #[ha,by rw[J7];exact hl,vs,_,Z,ha]
    .have I:=(NA g).symm.trans z1
     cases I
  .by_cases f:b=Pt
   .exact .inr f
   .by_cases g:b=a
    .exact .inl g
    .exact absurd (by show(if b=Pt then _ else _)=_;rw[NA f,NA g]) z
def vn{l:PySem.W.OpenLaw}{k:Nat}{q:Jv}{i:nj}{P:(Str->Option J3)->lj->Prop}{A:JP->lj->Prop}{d:DefRec}{K:JA->J1}{sp:OE}{x:Str}{Pt c0:k_}
 (Q:l.most=MW 63) (B:d.params.defaults=[]) (R:Nd k callerA)
 (S:∀(w:JP)(h:lj),A w h->(K w.params).In h) (U:∀(w:JP)(h:lj),A w h->h.get? Pt=MW (PySem.W.tabObj #[])) (C:∀w:JP,(K w.params).lookup Pt=MX) (hC:∀w:JP,PySem.W.codeHdIn (K w.params) c0 Pt=MY)
 (F:∀(w:JP)(mg:Str->Option J3)(p:k_)(h:lj),(K w.params).In h->h.Ns JR mg->mg d.name=MW (.ref p)->
  ∃fd:MA,(∀(s:J4)(u:J3),BindsTo s fd #[[u],[]] [(x,u)])/\
   ∀base:lj,Np l.prog w (K w.params) mg base Oa k p fd [x] (dC (K w.params) sp))
 (E:∀(ns:ml)(M:MH),ns.length<=63->M Pt=MW (rQ #[])->sp [.rol (ns.map D.int)] M (λd _=>d=.bl MY)) :
 PySem.W.WalkO q i P A l.row.toRowW d [] (λf vs=>PySem.call f vs):=by
 refine Att.p6 Q B λw s₀ L mg mb p o pm cd X a vs ns G Y ho hd Z I m j c hg=>?_
 let N:=S w _ Y
 let[fd,n,hF]:=F w mg p _ N G.T.g I
 refine wD N G.T.g G.T.b G.T.builtins G.T.nolimit hg m j (K0 c ⋯) R (U w _ Y) (C w) (hC w) hF n λH hO t hS=>?_
 let hF:Rx (K w.params) H a (ns.map V.int):=by
  rcases hS with(z|z)|z
  .exfalso
   by_cases O:a=Pt
   .rw[O,t]at z;cases z
   .rcases hO a O with y|⟨o,xs,y⟩
    .rw[z]at y;cases y
    .rw[z]at y;cases y
  .exact .inl z
  .exact .inr z
 refine #[[.rol (ns.map D.int)],λb=>if b=Pt then MW (rQ #[])else MX,_,.cons (by rw[Rep];exact #[a,7,hF,cA ns]) .nil,λb u e=>?_,E ns _ c (NB rfl),λd M' v H' g r a' e=>?_]
 .by_cases n:b=Pt
  .have J:=(NB n).symm.trans e
   cases J
   rw[n]
   exact #[t,by rw[t];simp,λH' _ e=>e.trans t]
  .have J:=(NA n).symm.trans e
   cases J
 .subst e
  rw[Rep]at r
  exact r
def vt(K:J1)(mg:Str->Option J3)(x:Str)(st:lb)(c0:k_):Prop:=
 ∃(f:k_) (oc:J3) (od:Option k_) (kV a b:J3) (an:Option k_) (ct:J3) (osl:Array (Option J3)),K.lookup f=MW #[oc,od,.func (Kp x x (aT st) (aJ st) (ao st) .none kV a b an (.ref c0) ct),osl]/\LS K (.ref c0) x=MY/\Kz K (.ref f)=MY/\mg x=MW (.ref f)
section
variable{P:Jv}{w:JP}{K:J1}{mg:Str->Option J3}{base:lj}
theorem vt.mk{h:lj}{x:Str}{st:lb}{f c0:k_}{oc:J3}{od an:Option k_}{osl:Array (Option J3)}{kV b d ct:J3}(X:K.In h)(G:h.Ns JR mg)(a:Kb K JR x=MW (MW (.ref f))) (l:K.lookup f=MW #[oc,od,.func (Kp x x (aT st) (aJ st) (ao st) .none kV b d an (.ref c0) ct),osl]) (c:LS K (.ref c0) x=MY) (k:Kz K (.ref f)=MY):vt K mg x st c0:=#[f,oc,od,kV,b,d,an,ct,osl,l,c,k,PySem.W.mg_of X G a]
def Ia{x:Str}{st:lb}{N ps:nj}{k:Nat}{sp:OE}{c0:k_}(T:vt K mg x st c0)(S:N9 N ps (ao st))
 (y:∀(kV c j:J3)(an:Option k_)(cdv ct:J3)(us:List J3),us.length=ps.length->MM (Kp x x (aT st) (aJ st) (ao st) .none kV c j an cdv ct) #[us,[]]=pure (ps.zip us))
 (len:∀b M Q,sp b M Q->b.length=ps.length)
 (body:∀(f:k_)(A:JQ)(outer:List Env)(s:J4)(H:Hp)(E:XK),Nd k (A.deeper (MT x (ao st) s.z f (.ref c0)))->
  ∃t,DSs (bg Oa P w K mg base N x (ao st) f (.ref c0) A outer s H E).nox (aJ st) t/\∀b M Q,sp b M Q->t (lT Q) (cV N b) M):Cal P w K mg base (k+1) x sp:=by
 let[f,oc,od,kV,c,j,an,ct,osl,lk,l,kp,B]:=T
 refine #[f,_,ps,yl lk l S (λvs H Q E z=>?_) (λA outer s H vs Q E C z=>?_),B,kp,.all λus hl=>y kV c j an (.ref c0) ct us hl]
 .obtain⟨b,M,R,m,_,q,_⟩:=z
  rw[<-m.length];exact len _ _ _ q
 .obtain⟨b,M,R,m,a,q,i⟩:=z
  let[t,h,D]:=body f A outer s H E C
  refine #[_,h.nox,cV N b,M,gc m,a,(lT R),#[λF G I p g J n e=>?_,λd G v p g r n e=>?_,λ_ _ _ _ _ _ _ z=>z,λ_ _ _ _ _ _ _ z=>z],D b M R q]
  .obtain⟨u,o,e⟩:=e
   exact i .non u .non p g (by rw[Rep]) (n.sub o) e
  .obtain⟨u,o,e⟩:=e
   exact i _ _ _ _ g r (n.sub o) e
theorem HF{h:lj}{c0 Pt bm:k_}{o:Obj}(X:K.In h)(G:h.Ns JR mg)(hd:PySem.W.codeHdIn K c0 Pt=MY)(a:Kb K JR "__builtins__"=MW (MW (.ref bm)))(l:K.lookup bm=MW o)(h1:bm≠builtinsNs)(h2:bm≠JR)(b:o.cls=.type "module")(c:o.dict=MW builtinsNs)(d:o.data=.plain):Mk K mg c0 Pt:=#[hd,bm,o,PySem.W.mg_of X G a,h1,h2,l,b,c,d]
end
theorem cH.refl{Pt:k_}{M:MH}:cH Pt M M:=λ_ _ _ h=>h
def b5.new{q:Str}{Pt:k_}{a:Pos}{M:MH}{p:k_}{o:MO}(h:b5 q Pt a M)(b:M p=MX):b5 q Pt a (av M p o):=by
 rcases h with h|⟨c,h1,h2,d⟩
 .exact .inl (by rw[ak (λz=>by rw[z,b]at h;cases h)];exact h)
 .exact .inr #[c,by rw[ak (λz=>by rw[z,b]at h1;cases h1)];exact h1,by rw[ak (λz=>by rw[z,b]at h2;cases h2)];exact h2,d]
def b5.kx{q:Str}{Pt:k_}{b:Pos}{M d:MH}{xs:m_}(h:b5 q Pt b M)(k:∀a o,a∉xs->M a=MW o->d a=MW o)(hx:∀a∈xs,∀A,M a≠MW (.gen A)):b5 q Pt b d:=by
 rcases h with h|⟨c,h1,h2,e⟩
 .exact .inl (k _ _ (λz=>hx _ z _ h) h)
 .exact .inr #[c,k _ _ (λz=>hx _ z _ h1) h1,k _ _ (λz=>hx _ z _ h2) h2,e]
theorem b5.sub{q:Str}{Pt:k_}{b:Pos}{M c:MH}(h:b5 q Pt b M)(k:Sub M c):b5 q Pt b c:=h.kx (xs:=[]) (λa o _ e=>k a o e) (λ_ z=>nomatch z)
theorem b5.upd{q:Str}{Pt:k_}{b:Pos}{M:MH}{p:k_}{o:MO}{c:ox}(h:b5 q Pt b M)(d:M p=MW (.lst c)):b5 q Pt b (av M p o):=h.kx (xs:=[p]) (λa u n e=>by rw[ak ‹n›];exact e) (λa ha A e=>by rw[show a=p by simpa using ha,d]at e;cases e)
def Rv(us:List (Int×Int))(i:Nat):Int:=1000*(p0 us i).1+(p0 us i).2
def Wj(us:List (Int×Int)):Prop:=us.length<64/\us.Nodup/\∀u∈us,-500<=u.2/\u.2<500
theorem Wj.inj{us:List (Int×Int)}(h:Wj us):Inj us.length (Rv us):=λi j hi a e=>by
 let b1:=h.2.2 _ (ig hi);let c:=h.2.2 _ (ig a);unfold Rv at e;let e1:p0 us i=p0 us j:=Prod.ext () ();unfold p0 at e1;rw[List.getD_eq_getElem?_getD,List.getD_eq_getElem?_getD,JB hi,JB a]at e1;let b:=Kd.mp h.2.1;rcases ME i j with q|q|q
 .exact absurd e1 (b i j _ _ q)
 .exact q
 .exact absurd e1.symm (b j i _ _ q)
section
variable{prog:Jv}{w:JP}{A:JQ}{E:J3->J4->Prop}{s:J4}
def zm{x y:k_}{a b c d:Int}{t1 f g i:Tok}{C:Bool->J4->Prop}(hx:IsTup s.heap x (List.toArray [.int a t1,.int b f]))(j:IsTup s.heap y (List.toArray [.int c g,.int d i]))(q:-500<=b/\b<500)(hd:-500<=d/\d<500) (h:C (decide (1000*a+b<1000*c+d)) s):Jq (Ju prog w) A (keyLt' (tuples' MY) (.ref x) (.ref y)) C E s:=by
 let[r,k,_,n,l]:=hx;let[t,o,_,m,p]:=j;refine PySem.W.kat_lt k l o p ?_;refine PySem.W.kat_cons (wpAny_eqBool_int ?_);by_cases e:a=c
 .subst e;rw[show(a==a)=MY by simp];refine PySem.W.kat_yes (PySem.W.kat_cons (wpAny_eqBool_int ?_));by_cases e2:b=d
  .subst e2;rw[show(b==b)=MY by simp];refine PySem.W.kat_yes (PySem.W.kat_nil ?_);rw[show decide (1000*a+b<1000*a+b)=MZ by simp]at h;exact h
  .rw[show(b==d)=MZ by simpa using e2];refine PySem.W.kat_no ?_;rw[show(MY&&(0+1==0))=MZ by rfl];refine PySem.W.kat_one _ _ ?_;rw[show decide (1000*a+b<1000*a+d)=decide (b<d) by exact decide_eq_decide.mpr ()]at h;exact lt_int h
 .rw[show(a==c)=MZ by simpa using e];refine PySem.W.kat_no ?_;show Jq _ _ (oneLt' MY _ _) _ _ _;rw[show decide (1000*a+b<1000*c+d)=decide (a<c) by exact decide_eq_decide.mpr ()]at h;exact oneLt_int h
end
def Ah(u v:Int×Int):Prop:=1000*u.1+u.2<1000*v.1+v.2
def wU{us:List (Int×Int)}{a:Array Nat}(h:OT us.length a)(u:Up (Rv us) a us.length):(a.toList.map (p0 us)).Pairwise Ah:=by
 rw[Kd];intro i j hi d b;let c:j<us.length:=by rw[J7,JG,h.size]at d;exact d
 have:=u i j b c;let e:i<a.size:=by rw[h.size];omega
 let f:j<a.size:=by rw[h.size];omega
 simpa[Ah,ky,Rv,Array.getD,e,f]using this
section
variable{X:Cx}
def pj:bo X (.builtin "sorted") (λvs H Q=>∃p xs us,vs=[.ref p]/\Ni X.K H p xs/\Rl X.K H xs us/\Wj us/\∀l d,H l=MX->OT us.length d->Up (Rv us) d us.length->Q (.ref l) (upd H l (.lst (d.toList.map λi=>xs.getD i .non)))):=by
 intro NK s σ H vs E Q I r F;let[l,xs,us,G,hl,y,m,q]:=F;subst G;let[u,8,J]:=vals1 r;cases J;let[f,z,L,M]:=I.list hl;let c:f.length=us.length:=by rw[<-z.length,y.len]
 let A:=yE I y z;refine vk (k:=Rv us) (κ:=tuples' MY) L.isList (by rw[c];exact m.1) (by rw[c];exact m.inj) (λx kp h2 R U N=>?_) (λx kp i j C hi V hC=>?_) λd g D=>?_
 .obtain⟨fs,O,Y,P⟩:=pf (h:=x) c λi hi=>(A i hi).kept kp;refine PySem.W.kat_kind (s:={ s with heap:=x }) (T:=.type "int") O () (λv S=>?_) ⋯ N;let[n,t,8]:=P v S;exact PySem.W.Looks.now
 .obtain⟨a,t1,Z,ea,ha⟩:=(A i ()).kept kp;let[b,t3,t4,eb,B]:=(A j ()).kept kp;unfold PySem.W.kas_ask;rw[ea,eb];exact zm (s:={ s with heap:=x }) ha B (m.2.2 _ (ig ())) (m.2.2 _ (ig ())) hC
 .rw[c]at g D;let[e,he]:=sortedAll_at s.heap f (eZ f d);refine #[.ref (s.z+1),_,I.laid (t':=s.toks) (λb o q=>sortedAll_old q) (MC _) (show bB X.prog X.w _ _ _ (.lst _)from #[?_,_,e,mS z d.toList,he]),8,q _ d (I.hok.fresh (MC _)) g D];rw[J7,JG,g.size,<-y.len];exact M
def Bv:RC:=λb M Q=>match b with
 |[.ref l]=>∃us:List (Int×Int),M l=MW (.lst (us.map OW))/\Wj us/\∀(z:k_)(a:List (Int×Int)),M z=MX->a.Perm us->a.Pairwise Ah->Q (.ref z) (av M z (.lst (a.map OW)))
 |_=>False
theorem vS:cK X (.builtin "sorted") Bv:=bN pj λvs H Q ⟨c,M,R,k,a,q,f⟩=>by
 rcases c with _|⟨d,c⟩
 .exact JK q
 cases d<;>rcases c with _|⟨e,c⟩<;>try exact JK q
 .obtain⟨us,e,l,q⟩:=q;let[v,8,r]:=bR k;rw[Rep]at r;subst r;let[xs,hx,h]:=a _ _ e;refine #[_,xs,us,8,Ni.of hx,yV h,l,λz j g b m=>f (.ref z) _ _ _ (.new g) (by rw[Rep]) (a.mB g (m4 h j.toList λi hi=>?_)) ?_]
  .have:i∈j:=‹hi›
   have:=b.perm.mem_iff.mp this;simpa using this
  .rw[xU b];exact q z _ (a.fresh g) (vK b) (wU b m)
end
def oB(o:Obj):MO:=.gen λ_ H a=>H a=MW (.ext (cC a o))
def Rr(ns ws a:ml):Prop:=∃ps:List (Int×Int),ps.Perm (ns.zip ws)/\a=ps.map (·.2)/\ps.Pairwise λp q=>p.1<=q.1
theorem pH:∀{vs:List J3},(∀v∈vs,∃n t,v=.int n t)->L6 vs (vs.map numOf)
 |[],_=>.nil
 |v::vs,h=>by
  let[n,t,8]:=h v (_)
  exact .cons n t (pH (vs:=vs) λy a=>h y (by simp[a]))
def FI{ns ws:ml}{its out:List J3}(hi:L6 its ws)(h:KskOut MZ ns its out):∃b,Rr ns ws b/\L6 out b/\b.length=out.length:=by
 let[ps,h1,h2,c]:=h;let d:∀v∈out,∃n t,v=.int n t:=λv m=>by rw[h2]at m;let[p,f,8]:=JZ.mp m;let[x,y]:=p;exact hi.all _ (List.of_mem_zip (h1.subset f)).2
 refine #[out.map numOf,#[ps.map λp=>(p.1,numOf p.2),?_,?_,?_],pH d,by rw[J7]]
 .have e:(ns.zip its).map (λp:Int×J3=>(p.1,numOf p.2))=ns.zip ws:=by rw[<-hi.nums,List.zip_map_right];exact LJ λa _=>by let[x,y]:=a;exact(rfl)
  rw[<-e];exact h1.map _
 .rw[h2,Lr,Lr];rfl
 .rw[LY];exact c
section
variable{X:Cx}{NK:l'}{σ:L2.St}{s:J4}
def ZO(X:Cx)(NK:l')(σ:L2.St)(H0:Hp)(M2:MH)(a f:k_)(e1:Nat)(ns:ml)(i:Nat)(g:J4):Prop:=
 ∃c b d e,Inv X NK σ c g/\Nb X.K H0 c/\Nc X.K c b/\Sub M2 b/\b a=MW (oB (K9 "list" #[] e1))/\b f=MW (oB (K9 "list" d e))/\L6 d.toList (ns.take i)
def yP{H0:Hp}{M2:MH}{a c g:k_}{e1:Nat}{ns ws:ml}{its:List J3}{Q:PySem.Fin->J4->Prop}{E:J3->J4->Prop}{A:JQ}(T:c≠a)(ha:M2 a=MX)(hk:M2 c=MX)(W:L6 its ws)(hn:ns.length=ws.length)(a0:ns.length<64)
 (turn:∀(i:Nat)(w n:Int) N f l k,Inv X NK σ l k->Nc X.K l f->Sub M2 f->ws[i]?=MW w->ns[i]?=MW n->RelV (.int w) N->
  Jq (Ju X.prog X.w) A (call (.ref g) [N]) (EP X NK σ (λv C=>∃D,Nb X.K l C/\v=.int n/\Nc X.K C D/\Sub f D)) (λ_ _=>False) k)
 (h0:ZO X NK σ H0 M2 a c e1 ns 0 s)
 (h:∀l f d e k,Inv X NK σ l k->Nb X.K H0 l->Nc X.K l f->Sub M2 f->f a=MW (oB (K9 "list" #[] e1))->f c=MW (oB (K9 "list" d e))->L6 d.toList ns->
  Jq (Ju X.prog X.w) A (ksk_end a MZ its.toArray e1 (.ref c) d) Q E k) :
 Jq (Ju X.prog X.w) A (ksk_rest a (.ref g) MZ its.toArray e1 (.ref c)) Q E s:=by
 let hl:its.length=ns.length:=by rw[W.length,hn]
 unfold ksk_rest
 refine J0 (wpAny_rule ?_)
 first
  |rw[List.forIn_toArray]
  |(rw[<-Ly];simp only[List.toList_toArray])
  |rw[<-Ly]
 refine J0 (ksk_fold (λi k=>ZO X NK σ H0 M2 a c e1 ns i k) its 0 s h0 ?step ?done)
 case step=>
  rintro j N k hx ⟨l,f,d,e,I,g0,O,P,u,m,pk⟩
  simp only[Nat.zero_add]at pk ⊢
  let hj:j<its.length:=(Jp.mp hx).1
  let F:j<ns.length:=()
  let G:j<ws.length:=()
  let[u',H,ru]:=(eT W).get (show(ws.map V.int)[j]?=MW (.int ws[j]) by rw[JI,JB G];rfl)
  rw[hx]at H;cases H
  refine J0 (wpAny_attempt (Jx (turn j ws[j] ns[j] N f l k I O P (JB G) (JB F) ru) (λr y z=>?_) λ_ _ hF=>hF.elim))
  let[v2,R,Y,rr,M3,g2,J,U,p]:=z
  try dsimp only
  let S:y.heap.get? c=MW (K9 "list" d e):=(Y.hok _ _ (U _ _ (p _ _ m)).1).1
  let b0:d.size<=ns.length:=by
   let h1:=pk.length
   rw[JG,La]at h1
   omega
  obtain⟨B,L⟩:∃B,(y.heap.update c (Kt (·.push r))).get? c=MW (K9 "list" (d.push r) B):=#[_,get?_update_seq S (·.push r)]
  let s1:=Heap.SameBut.update y.heap c (Kt (·.push r))
  refine J0 (listUpdate_at S rfl ?_ (by rw[Ku];omega) (K0 (Nat.le_of_eq (Array.size_push ..)) (by rw[Ku];omega)))
  let M:R c=MW (.ext (cC c (K9 "list" d e))):=(U _ _ (p _ _ m)).1
  let Z:Nb X.K R (upd R c (.ext (cC c (K9 "list" (d.push r) B)))):=.ext M
  let I3:Inv X NK σ (upd R c (.ext (cC c (K9 "list" (d.push r) B)))) { y with heap:=y.heap.update c (Kt (·.push r)) }:=Y.write (t':=y.toks) (x:=c) (e:=c) (by rw[M];exact Lm) (.inl rfl) (λb q hb z=>(s1.2 b hb).trans z) #[_,L] (jb L)
  subst J
  let[t,8]:=(show ∃t,r=KZ ns[j] t from rr)
  refine J5 #[8,_,av M3 c (oB (K9 "list" (d.push (.int ns[j] t)) B)),d.push (.int ns[j] t),B,I3,(g0.trans g2).trans Z,U.rK Z az (λH9 _ e9=>e9),λb o z=>by rw[ak (aw z hk)];exact p _ _ (P b o z),by rw[ak T.symm];exact p _ _ u,aj,?_]
  let et:ns.take (j+1)=ns.take j++[ns[j]]:=by
   rw[List.take_add_one,JB F];rfl
  rw[et,Array.toList_push]
  exact ksk_snoc pk
 case done=>
  rintro k ⟨l,f,d,e,I,g0,O,P,u,m,pk⟩
  let e3:ns.take (0+its.length)=ns:=L8 ()
  rw[e3]at pk
  let S:k.heap.get? c=MW (K9 "list" d e):=(I.hok _ _ (O _ _ m).1).1
  try dsimp only
  exact J0 (listItems_at S rfl (h l f d e k I g0 O P u m pk))
def we{k:Hp}{B:MH}{a c:k_}{e1 e:Nat}{f:Array J3}{ns ws:ml}{its:List J3}{Q:PySem.Fin->J4->Prop}{E:J3->J4->Prop}{A:JQ}(C:c≠a)(I:Inv X NK σ k s)(D:Nc X.K k B)(F:B a=MW (oB (K9 "list" #[] e1)))(G:B c=MW (oB (K9 "list" f e)))
 (O:L6 f.toList ns) (rv:L6 its ws) (hn:ns.length=its.length) (a0:ns.length<64)
 (h:∀n P M2 R,Inv X NK σ P R->Nb X.K k P->(∀b,b≠a->b≠c->M2 b=B b)->M2 a=MX->M2 c=MX->Nc X.K P M2->P a=MW (.lst (n.map V.int))->Rr ns ws n->Q (.done (.ret .none)) R) :
 Jq (Ju X.prog X.w) A (ksk_end a MZ its.toArray e1 (.ref c) f) Q E s:=by
 let ok:s.heap.get? c=MW (K9 "list" f e):=(I.hok _ _ (D _ _ G).1).1
 let oa:s.heap.get? a=MW (K9 "list" #[] e1):=(I.hok _ _ (D _ _ F).1).1
 let H:k c=MW (.ext (cC c (K9 "list" f e))):=(D _ _ G).1
 let S:k a=MW (.ext (cC a (K9 "list" #[] e1))):=(D _ _ F).1
 let t:f.size=its.length:=by
  let h1:=O.length
  rw[JG]at h1
  omega
 let l:(f.zip its.toArray).size=its.length:=by rw[Array.size_zip,t,Jw,Nat.min_self]
 let p:∀st:SortSt,(arrOf st).Perm (f.zip its.toArray)->SortedTo (arrOf st) (arrOf st).size->failedOf st=MX->Jq (Ju X.prog X.w) A (ksk_tail a MZ e1 (.ref c) st) Q E s:=λst J hs T=>by
  let[n,bk,L,il]:=FI rv (ksk_out (b:=MZ) O J hs)
  let L:L6 ((arrOf st).map (·.2)).toList n:=L
  let U:((arrOf st).map (·.2)).size=its.length:=by rw[Array.size_map,J.size_eq,l]
  generalize eo:(arrOf st).map (·.2)=d at L U
  let s1:=Heap.SameBut.update s.heap c (Kt λ_=>(#[]:Array J3))
  let u:(s.heap.update c (Kt λ_=>(#[]:Array J3))).get? a=MW (K9 "list" #[] e1):=(s1.2 a C.symm).trans oa
  let R:=Heap.SameBut.update (s.heap.update c (Kt λ_=>(#[]:Array J3))) a (Kt λ_=>d)
  obtain⟨W,M⟩:∃W,((s.heap.update c (Kt λ_=>(#[]:Array J3))).update a (Kt λ_=>d)).get? a=MW (K9 "list" d W):=#[_,get?_update_seq u λ_=>d]
  obtain⟨v,N⟩:∃v,(s.heap.update c (Kt λ_=>(#[]:Array J3))).get? c=MW (K9 "list" #[] v):=#[_,get?_update_seq ok λ_=>#[]]
  unfold ksk_tail
  try dsimp only
  simp only[JD,if_false]
  rw[eo]
  refine J0 (listUpdate_at ok rfl ?_ (by rw[t,Ku];omega) (Kh _))
  refine J0 (wpAny_letGo ?_)
  refine J0 (seqEpoch_at u rfl ?_)
  refine J0 (listUpdate_at u rfl ?_ (Kh _) (by show d.size<=_;rw[U,Ku];omega))
  rw[T]
  simp only[bne_self_eq_false,JD,if_false]
  let I1:=I.write (t':=s.toks) (o:=.ext (cC c (K9 "list" #[] v))) (x:=c) (e:=c) (h':=s.heap.update c (Kt λ_=>(#[]:Array J3))) (by rw[H];exact Lm) (.inl rfl) (λb q Y z=>(s1.2 b Y).trans z) #[_,N] (jb N)
  let r:(upd k c (.ext (cC c (K9 "list" #[] v)))) a=MW (.ext (cC a (K9 "list" #[] e1))):=by rw[ay C.symm];exact S
  let ll:n.length=its.length:=by rw[<-L.length,JG,U]
  let I2:=I1.write (t':=s.toks) (o:=.lst (n.map V.int)) (x:=a) (e:=a) (h':=(s.heap.update c (Kt λ_=>(#[]:Array J3))).update a (Kt λ_=>d)) (by rw[r];exact Lm) (.inl rfl) (λb q Y z=>(R.2 b Y).trans z) #[_,M]
   (show bB X.prog X.w _ _ _ (.lst _)from #[by rw[J7,ll,Ku];omega,d.toList,W,eT L,by rw[Array.toArray_toList];exact M])
  let g1:Nb X.K k (upd k c (.ext (cC c (K9 "list" #[] v)))):=.ext H
  let g2:Nb X.K (upd k c (.ext (cC c (K9 "list" #[] v)))) (upd (upd k c (.ext (cC c (K9 "list" #[] v)))) a (.lst (n.map V.int))):=.ext r
  refine J5 (h n _ (λb=>if b=a\/b=c then MX else B b) _ I2 (g1.trans g2) (λb n1 n2=>NA (by simp[n1,n2])) (NB (.inl rfl)) (NB (.inr rfl)) (λb o z=>?_) az bk)
  let z:(if b=a\/b=c then MX else B b)=MW o:=z
  by_cases m:b=a\/b=c
  .rw[NB m]at z;cases z
  .rw[NA m]at z
   let n1:b≠a:=λy=>m (.inl y)
   let n2:b≠c:=λy=>m (.inr y)
   exact(D b o z).dg (g1.trans g2) (by rw[ay n1,ay n2])
 unfold ksk_end
 try dsimp only
 simp only[JD,if_false]
 by_cases h2:its.toArray.size<2
 .rw[NB h2,NB h2]
  rw[Jw]at h2
  refine J0 (J5 ?_)
  rw[StateT.run_pure]
  refine J0 (J5 ?_)
  try dsimp only
  refine p _ (Array.Perm.refl _) (λi j b0 hj=>?_) rfl
  let Z:j<(f.zip its.toArray).size:=hj
  rw[l]at Z
  have:i=j:=()
  subst this
  exact Int.le_refl _
 .rw[NA h2,NA h2]
  rw[Jw]at h2
  rw[ksk_kind O (by rw[t];omega)]
  refine J0 (J5 ?_)
  refine J0 (Jx (wpS_sortRuns (a₀:=f.zip its.toArray) (st:=SortSt.mk' oneType' (f.zip its.toArray) #[] 7 MX)
   (Q:=λ_ g=>(arrOf g).Perm (f.zip its.toArray)/\failedOf g=MX/\SortedTo (arrOf g) (f.zip its.toArray).size)
   (ksk_intKeys O) #[Array.Perm.refl _,8,8,rfl] (by rw[l];omega) (by rw[l];omega) λg a1 a2 a3=>#[a1,a2,a3]) ?_ λ_ _ e=>e)
  rintro⟨⟨⟩,g⟩ s' ⟨rfl,J,T,hs⟩
  try dsimp only
  exact p g J (by rw[J.size_eq];exact hs) T
end
section
variable{X:Cx}{NK:l'}{σ:L2.St}{s:J4}{H:Hp}
def Fq{Q:J3->J4->Prop}{E:J3->J4->Prop}{l g:k_}{M2:MH}{ns ws:ml}(I:Inv X NK σ H s)(J:Nc X.K H M2)(hl:M2 l=MW (.lst (ws.map D.int)))(hn:ns.length=ws.length)(t:ns.length<64)
 (turn:∀(i:Nat)(w n:Int) u1 h j r,Inv X NK σ j r->Nc X.K j h->Sub M2 h->ws[i]?=MW w->ns[i]?=MW n->RelV (.int w) u1->
  Jq (Ju X.prog X.w) X.A.in1.in1 (call (.ref g) [u1]) (EP X NK σ (λv x=>∃y,Nb X.K j x/\v=.int n/\Nc X.K x y/\Sub h y)) (λ_ _=>False) r)
 (done:∀p L j h r,Inv X NK σ j r->Nb X.K H j->Nc X.K j h->Sub M2 h->M2 p=MX->h p=MW (.lst (L.map D.int))->Rr ns ws L->Q (.ref p) r) :
 Jq (Ju X.prog X.w) X.A (call (.builtin "sorted") [.ref l] [(Km "key",.ref g)]) Q E s:=by
 let[xs,hx,L]:=J _ _ hl
 rw[cG L]at hx
 let[c,N,p1,hz]:=I.list (Ni.of hx)
 let O:=intsAre_of N
 let P:c.length=ns.length:=by rw[O.length,hn]
 refine call_function_entry_kw kind_sorted plain_sorted entry_sorted (ksk_s1 _ _) ?_
 unfold LD.«sorted»
 refine J0 (m:=checkCount "sorted" 1 1 _) (J5 ?_)
 refine J0 (collect_list p1.isList ?_ (by rw[Ku];omega))
 refine J0 (wpAny_newList ?_ (by rw[Ku];omega))
 generalize e1:((s.heap.push (K9 "list" #[] 0)).update s.z (Kt (·++c.toArray)))=h1
 let R:h1.objs.size=s.z+1:=by rw[<-e1,Heap.size_update,size_push']
 let o1:∀b o,s.heap.get? b=MW o->h1.get? b=MW o:=λb o q=>by
  rw[<-e1,Heap.get?_update_ne _ _ _ _ (JH (Js q)),Heap.get?_push_ne _ _ _ (JH (Js q))]
  exact q
 show Jq _ _ _ _ _ { s with heap:=h1.push (K9 "list" c.toArray 0) }
 rw[R]
 let d:(h1.push (K9 "list" c.toArray 0)).get? (s.z+1)=MW (K9 "list" c.toArray 0):=by rw[<-R];exact Jt _ rfl
 refine J0 (Kl (wpAny_call_entry_kw slot_list_sort #[_,d,rfl] entry_list_sort ?body (ksk_l1 _ _)))
 show Jq (Ju X.prog X.w) X.A.in1.in1 (LD.«list.sort» #[[.ref (s.z+1)],[(Km "key",.ref g)]]) _ _ _
 rw[ksk_t1]
 obtain⟨f,B⟩:∃f,((h1.push (K9 "list" c.toArray 0)).update (s.z+1) (Kt λ_=>#[])).get? (s.z+1)=MW (K9 "list" #[] f):=#[_,get?_update_seq d λ_=>#[]]
 unfold ksk_tree
 refine J0 (listItems_at d rfl ?_)
 refine J0 (listUpdate_at d rfl ?_ (by rw[Jw,Ku];omega) (Kh _))
 refine J0 (seqEpoch_at B rfl ?_)
 refine J0 (wpAny_newTuple ?_ (by show c.length<=_;rw[Ku];omega))
 refine J0 (wpAny_newList (Kl ?_) (Kh _))
 generalize e2:(((h1.push (K9 "list" c.toArray 0)).update (s.z+1) (Kt λ_=>#[])).push (K9 "tuple" c.toArray 0))=h2
 let S:h2.get? (s.z+1)=MW (K9 "list" #[] f):=by rw[<-e2];exact J6 _ B
 let z2:h2.objs.size=s.z+3:=by rw[<-e2,size_push',Heap.size_update,size_push',R]
 let o2:∀b o,s.heap.get? b=MW o->h2.get? b=MW o:=λb o q=>by
  rw[<-e2]
  refine J6 _ ?_
  rw[Heap.get?_update_ne _ _ _ _ (JH (KL (Js q)))]
  exact J6 _ (o1 b o q)
 let I2:Inv X NK σ (upd H (s.z+1) (.ext (cC (s.z+1) (K9 "list" #[] f)))) { s with heap:=h2 }:=I.laid (t':=s.toks) (h':=h2) o2 (MC _) (jb S)
 let I3:=I2.laid (t':=s.toks) (a:=h2.objs.size) (o:=.ext (cC h2.objs.size (K9 "list" #[] 0))) (h':=h2.push (K9 "list" #[] 0)) (λb u q=>J6 _ q) (Jo _) (jb (Jt _ rfl))
 let fa:H (s.z+1)=MX:=I.hok.fresh (MC _)
 let g2:=Nb.new (K:=X.K) (o:=.ext (cC (s.z+1) (K9 "list" #[] f))) fa
 let T:(upd H (s.z+1) (.ext (cC (s.z+1) (K9 "list" #[] f)))) h2.objs.size=MX:=I2.hok.fresh (Jo _)
 let g3:=Nb.new (K:=X.K) (o:=.ext (cC h2.objs.size (K9 "list" #[] 0))) T
 let ne:h2.objs.size≠s.z+1:=by rw[z2];exact λe=>absurd (id e:@Eq Nat _ _) ()
 let U:H h2.objs.size=MX:=by rw[ay ne]at T;exact T
 let a2:=(J.rK (A:=λ_ H a=>H a=MW (.ext (cC a (K9 "list" #[] f)))) g2 az (λH9 _ V=>V)).rK (A:=λ_ H a=>H a=MW (.ext (cC a (K9 "list" #[] 0)))) g3 az (λH9 _ V=>V)
 let M:=J.fresh fa
 let mk:=J.fresh U
 let W:Sub M2 (av (av M2 (s.z+1) (oB (K9 "list" #[] f))) h2.objs.size (oB (K9 "list" #[] 0))):=λb o z=>by
  rw[ak (aw z mk),ak (aw z M)];exact z
 show Jq (Ju X.prog X.w) X.A.in1.in1 (ksk_rest (s.z+1) (.ref g) MZ c.toArray f (.ref h2.objs.size)) _ _ { s with heap:=h2.push (K9 "list" #[] 0) }
 refine yP (X:=X) (H0:=H) (M2:=M2) ne M mk O hn t turn #[_,_,#[],0,I3,g2.trans g3,a2,W,by rw[ak ne.symm,aj];rfl,by rw[aj];rfl,by rw[List.take_zero];exact .nil] λj h kA e r I' g' Y Z a0 b0 pk=>?_
 refine we ne I' Y a0 b0 pk O P.symm t λk H4 M4 s4 I4 g4 C n1 n2 c0 d0 bk=>#[7,J5 #[7,?_]]
 refine done _ k H4 (av M4 (s.z+1) (.lst (k.map D.int))) s4 I4 (g'.trans g4) (λb o z=>?_) (λb o z=>?_) M aj bk
 .by_cases F:b=s.z+1
  .subst F
   rw[aj]at z;cases z
   exact #[_,d0,cA k]
  .rw[ak F]at z;exact c0 b o z
 .have G:=aw z M
  let f0:=aw z mk
  rw[ak G,C b G f0];exact Z b o z
end
end SD
namespace SE
open SD PySem PySem.Spec PyProof.Rows L2
end SE
namespace SD
open PySem PySem.Spec PyProof.Rows L2
def oM(t b X g h u:Int):NY t b X 1 (g*u-h)=NY (g*t) b (X-h*t) 1 u:=by unfold NY;rw[show(g*u-h)*t+X*1=u*(g*t)+(X-h*t)*1 by grind]
def AY(t b X Y g h:Int)(w:Wl):Nm t b X Y (raw g h w)=Nm (g*t) b (X-h*t) (Y-h*t) w:=by unfold Nm raw;dsimp only;rw[oM,oM,oM,oM]
def yt(t b X Y g h:Int)(ws:n_):(ws.map (raw g h)).map (Nm t b X Y)=ws.map (Nm (g*t) b (X-h*t) (Y-h*t)):=by rw[Lr];exact LJ λw _=>AY t b X Y g h w
def AD{t b X Y g h:Int}(S:PB t b X Y)(G:Gs g h)(ht:t<=10^20)(c:b<=10^25)(hx:-(10^27)<=X/\X<=10^27)(d:-(10^27)<=Y/\Y<=10^27):PB (g*t) b (X-h*t) (Y-h*t):=by let t0:=S.t0;let b0:=S.b0;let g0:=G.g0;let g1:=G.g1;let h0:=G.h0;let h1:=G.h1;let a:0<g*t:=LU g0 t0;let e:g*t<=12*10^20:=Int.mul_le_mul g1 ht () ⋯;let f:0<=h*t:=Int.mul_nonneg h0 ();let i:h*t<=24*10^20:=Int.mul_le_mul h1 ht () ⋯;exact #[a,(),b0,(),(),(),(),()]
structure Rm(t b X Y:Int)(ps:List Vc)(i:Nat)(kvs:Oz):Prop where
 len:kvs.length<=i
 vs:∀j v,j<i->ps[j]?=MW v->ka kvs (gk t b X Y v)=MW (.int (j:Int))
theorem Rm.nil(t b X Y:Int)(ps:List Vc):Rm t b X Y ps 0 []:=#[Jo _,λj v h=>absurd h (Nat.not_lt_zero _)]
def Rm.put{t b X Y:Int}{ps:List Vc}{i:Nat}{kvs:Oz}{v:Vc}(ht:0<t)(c:0<b)(h:Rm t b X Y ps i kvs)(nd:ps.Nodup)(e:ps[i]?=MW v):Rm t b X Y ps (i+1) (putD kvs (gk t b X Y v) (.int (i:Int))):=by
 refine #[?_,λj u d a=>?_]
 .have:=h.len;unfold putD;split<;>simp<;>omega
 .rw[yB];by_cases z:j=i
  .subst z;rw[e]at a;cases a;rw[NB rfl]
  .rw[NA,h.vs j u () a];intro q;have:=wQ ht c q;subst this;let[l1,e1]:=Jp.mp a;let[l2,e2]:=Jp.mp e;exact z ((List.getElem_inj nd).mp (e1.trans e2.symm))
def Pw(ps:List Vc)(c:Vc):Nat:=ps.idxOf c
def jn{ps:List Vc}{c:Vc}(h:c∈ps):ps[Pw ps c]?=MW c/\Pw ps c<ps.length:=by let l:=List.idxOf_lt_length_iff.mpr h;exact #[by unfold Pw;rw[JB l,List.getElem_idxOf],l]
def R4(ps:List Vc)(w:Wl):D:=.tup [.int (Pw ps (ea w):Int),.int (Pw ps (eb w):Int)]
def Rr.perm{ns ws a:ml}(h:Rr ns ws a)(e:ns.length=ws.length):a.Perm ws:=by let[ps,h1,8,_]:=h;have:=h1.map (·.2);rw[List.map_snd_zip ()]at this;exact this
theorem b5.neL{q:Str}{Pt:k_}{a:Pos}{M:MH}(h:b5 q Pt a M){l:k_}{b:ox}(hl:M l=MW (.lst b)):l≠Pt:=λe=>by subst e;rcases h with h|⟨_,h,_⟩<;>rw[h]at hl<;>cases hl
def Ax(fs:ml)(p:Int->Bool):(JM (fs.map D.int).length).filterMap (λj=>(fs[j]?).bind λa=>if p a=MY then MW (D.int a)else MX)=(fs.filter p).map D.int:=by rw[J7,zZ,jh]
def n6(K:J1){C:k_}{fs:List (Str×D)}{ps:Array J3}(h:cm C fs=rQ ps):False:=by injection h with h;have:=(congrFun (congrFun (congrFun h K) (λ_=>MW (.tbl ps))) 0).mpr rfl;let[a,vs,e,_]:=this;cases e
def A9(K:J1){C:k_}{fs:List (Str×D)}{q:Str}(h:cm C fs=xq q):False:=by injection h with h;have:=(congrFun (congrFun (congrFun h K) (λ_=>MW (.ext (lI 0 q)))) 0).mpr rfl;let[a,vs,e,_]:=this;cases e
def b5.ins(K:J1){q:Str}{Pt:k_}{d:Pos}{M g:MH}{a C:k_}{fs:List (Str×D)}(h:b5 q Pt d M)(ha:M a=MW (cm C fs))(s:cH a M g):b5 q Pt d g:=by
 let t:∀{b:k_}{o:MO},M b=MW o->(cm C fs=o->False)->b≠a:=λf n e=>by subst e;rw[ha]at f;injection f with f;exact n f
 rcases h with h|⟨c,h1,h2,i⟩
 .exact .inl (s _ _ (t h (n6 K)) h)
 .exact .inr #[c,s _ _ (t h1 (n6 K)) h1,s _ _ (t h2 (A9 K)) h2,i]
theorem b5.neI(K:J1){q:Str}{Pt:k_}{b:Pos}{M:MH}{a C:k_}{fs:List (Str×D)}(h:b5 q Pt b M)(ha:M a=MW (cm C fs)):a≠Pt:=λe=>by subst e;rcases h with h|⟨c,h,_⟩<;>rw[ha]at h<;>injection h with h<;>exact n6 K h
theorem sO{M:MH}{a b C:k_}{fs:List (Str×D)}{d:ox}(ha:M a=MW (cm C fs))(c:M b=MW (.lst d)):b≠a:=λe=>by subst e;rw[ha]at c;cases c
theorem b5.pot{q:Str}{Pt r:k_}{b:Pos}{M c:MH}{n:Nat}(h:b5 q Pt b M)(P:Nw M r n)(k:Kx [r] M c):b5 q Pt b c:=
 h.kx (xs:=[r]) k λa ha A e=>by
  let[_,_,_,d,_]:=P
  rw[show a=r by simpa using ha,d]at e;cases e
def my(n:Nat):(JM n).map (λi:Nat=>D.int (i:Int))=((JM n).map λk:Nat=>(k:Int)).map D.int:=by rw[Lr];rfl
structure Fs(ws:n_)(fs:ml):Prop where
 nd:fs.Nodup
 b:∀k∈fs,0<=k/\k<ws.length
theorem Fs.filter{ws:n_}{fs:ml}(h:Fs ws fs)(p:Int->Bool):Fs ws (fs.filter p):=#[h.nd.filter _,λk a=>h.b k (Ke.mp a).1]
def Fs.len{ws:n_}{fs:ml}(h:Fs ws fs):fs.length<=ws.length:=by
 have:=(h.nd).length_le_of_subset (l₂:=(JM ws.length).map λk:Nat=>(k:Int)) λk a=>by
  have:=h.b k a
  exact JZ.mpr #[k.toNat,KI.mpr (),()]
 simpa using this
def Et{ws:n_}{fs:ml}(hF:PF ws)(F:Fs ws fs){a b:Int}(ha:a∈fs)(c:b∈fs)(ne:a≠b):Oc (OI ws a) (OI ws b):=by let A:=F.b a ha;let B:=F.b b c;exact hF a.toNat b.toNat _ _ () (c8 A.1 A.2).1 (c8 B.1 B.2).1
structure Nz(x y1 y2:Str)(sc:Lq):Prop where
 kind:sc.kind=.function
 co:sc.isCoroutine=MZ
 gen:sc.isGenerator=MZ
 n1:x≠y1
 n2:x≠y2
 n3:y1≠y2
 hx:sc.names.lookup x=MW .cell
 h1:sc.names.lookup y1=MW .free
 h2:sc.names.lookup y2=MW .free
 only:∀z∈sc.names,z.2=.free->z.1=y1\/z.1=y2
 cell:∀z∈sc.names,z.2=.cell->z.1=x
 cf:∀n cl,Lo n sc.names cl=(x,n)::cl
 pc:∀h,pushCells h sc.names=h.push { cls:=.type "cell",data:=.cell MX }
section
variable{P:Jv}{w:JP}{K:J1}{mg:Str->Option J3}{base:lj}{qual:Str}{scope:Lq}{g c1 c2:k_}{cd:J3}{A:JQ}{outer:List Env}{s:J4}{H:Hp}{x y1 y2:Str}
abbrev QK(x y1 y2:Str)(L c1 c2:k_):List (Str×k_):=[(x,L+1),(y1,c1),(y2,c2)]
def yK{M:Model}{E:J3->J4->Prop}{u:J3}{Q:Env->J4->Prop}(S:Nz x y1 y2 scope)
 (h:∀h',h'.Ns s.z (λ_=>MX)->h'.IsCell (s.z+1) (MW u)->(∀b o,s.heap.get? b=MW o->h'.get? b=MW o)->
  Q (jj scope s.z (QK x y1 y2 s.z c1 c2) qual g cd) { s with heap:=h' }) :
 Jq M A (MP scope JR [(y1,c1),(y2,c2)] [(x,u)] (qual++".<locals>.") (MW g) cd MX builtinsNs) Q E s:=by
 simp only[MP,Option.isSome_none,JD,if_false]
 refine J0 (wpAny_alloc ?_)
 refine J0 (wpAny_layCells _ (λname kind cells=>by cases a:kind==NameKind.cell<;>simp[a]) _ _ _ _ ?_)
 rw[show({ s with heap:=s.heap.push { cls:=.type "frame",data:=.dict #[] } }:J4).heap.objs.size=s.z+1 from Li ..,S.cf]
 refine J0 ?_
 rw[Mg]
 show Jq _ _ _ _ _ { s with heap:=pushCells (s.heap.push { cls:=.type "frame",data:=.dict #[] }) scope.names }
 rw[S.pc]
 let c:(s.heap.push { cls:=.type "frame",data:=.dict #[] }).objs.size=s.z+1:=Li ..
 let e1:((s.heap.push { cls:=.type "frame",data:=.dict #[] }).push { cls:=.type "cell",data:=.cell MX }).IsCell (s.z+1) MX:=by
  rw[<-c];exact #[_,Jt _ rfl,rfl]
 let f:((s.heap.push { cls:=.type "frame",data:=.dict #[] }).push { cls:=.type "cell",data:=.cell MX }).Ns s.z λ_=>MX:=
  (Heap.Ns.new s.heap (.type "frame")).keeps λb o e=>J6 _ e
 refine J0 (J0 (wpAny_storeName_cell (v₀:=MX) S.kind S.hx (by show((x,s.z+1)::_).lookup x=_;rw[List.lookup_cons_self]) e1 λh' i hs=>?_))
 refine J5 ?_
 dsimp only
 rw[Ms]
 refine J5 (J5 (h h' ?_ i λb o e=>?_))
 .obtain⟨o,es,ep,e,d,r⟩:=f
  exact #[o,es,ep,(hs.2 _ (JH (Nat.lt_succ_self _))).trans e,d,r]
 .have lt:=Js e
  exact(hs.2 _ (JH (KL lt))).trans (J6 _ (J6 _ e))
def zR{h':lj}{q ob:Obj}{u t y:J3}{x0 x1 x2:V}(S:Nz x y1 y2 scope)(hd:A.handled=MX)(c:Oh P w K mg base A outer s H)(G:c1≠c2)(ha:base.get? c1=MW q)(C:q.data=.cell (MW t))(D:base.get? c2=MW ob)(E:ob.data=.cell (MW y))(M:RelV x0 u)(N:RelV x1 t)(O:RelV x2 y)
 (F:h'.Ns s.z λ_=>MX) (hx:h'.IsCell (s.z+1) (MW u)) (B:∀b o,s.heap.get? b=MW o->h'.get? b=MW o) :
 Inv (pT P w K mg base [x,y1,y2] qual scope (QK x y1 y2 s.z c1 c2) g cd A outer s H) [] [MW x0,MW x1,MW x2] H { s with heap:=h' }:=by
 let l:∀b:k_,b∉(pT P w K mg base [x,y1,y2] qual scope (QK x y1 y2 s.z c1 c2) g cd A outer s H).ex:=λb z=>absurd (show b∈([]:m_)from z) (_)
 let one:∀{z:Str}{d:k_},(QK x y1 y2 s.z c1 c2).lookup z=MW d->(z=x/\d=s.z+1)\/(z=y1/\d=c1)\/(z=y2/\d=c2):=λ{z d} e=>by
  have:=K1 e
  simpa using this
 let la:c1<s.z:=Js (c.bs c1 q ha).1
 let I:c2<s.z:=Js (c.bs c2 ob D).1
 let f:h'.IsCell c1 (MW t):=#[q,B _ _ (c.bs c1 q ha).1,C]
 let j:h'.IsCell c2 (MW y):=#[ob,B _ _ (c.bs c2 ob D).1,E]
 let kx:(QK x y1 y2 s.z c1 c2).lookup x=MW (s.z+1):=List.lookup_cons_self
 let J:(QK x y1 y2 s.z c1 c2).lookup y1=MW c1:=by
  show((x,_)::_).lookup y1=_
  rw[Kw,beq_eq_false_iff_ne.mpr S.n1.symm];exact List.lookup_cons_self
 let L:(QK x y1 y2 s.z c1 c2).lookup y2=MW c2:=by
  show((x,_)::_).lookup y2=_
  rw[Kw,beq_eq_false_iff_ne.mpr S.n2.symm]
  show((y1,_)::_).lookup y2=_
  rw[Kw,beq_eq_false_iff_ne.mpr S.n3.symm];exact List.lookup_cons_self
 refine #[#[c.mod,S.kind,8,8,Jo _,λa b d h1 h2=>?_,λz m=>?_,λz d h _=>Bool.noConfusion h,λ_=>hd,Around.frames_deeper c.frames,.inr #[8,rfl],λb z=>absurd z (l b),c.bs,c.bsz,λb _ _=>l b,λb z=>absurd z (l b),c.fB,c.frf],
  rfl,c.bare,Un.kept B,#[_,F,λi z v h1 h2 R=>?_],λz d h=>?_,c.hok.fresh (Jo _),λz d h=>?_,λp Q=>absurd (show p∈([]:l')from Q) (_),c.hok.kept B,rfl]
 .rcases one h1 with⟨rfl,rfl⟩|⟨rfl,rfl⟩|⟨rfl,rfl⟩<;>rcases one h2 with⟨r,k⟩|⟨r,k⟩|⟨r,k⟩
  .exact r.symm
  .exact absurd k (Nat.ne_of_gt (KL la))
  .exact absurd k (Nat.ne_of_gt (KL I))
  .exact absurd k (JH (KL la))
  .exact r.symm
  .exact absurd k G
  .exact absurd k (JH (KL I))
  .exact absurd k.symm G
  .exact r.symm
 .have m:scope.names.lookup z=MW .cell\/scope.names.lookup z=MW .free:=m
  rcases m with m|m
  .have:=S.cell _ (K1 m) rfl
   subst this
   exact #[_,kx]
  .rcases S.only _ (K1 m) rfl with e|e
   .have e:z=y1:=e
    subst e;exact #[_,J]
   .have e:z=y2:=e
    subst e;exact #[_,L]
 .match i,h1,h2 with
  |0,h1,h2=>
   cases (show MW x=MW z from h1)
   cases (show MW (MW x0)=MW (MW v)from h2)
   exact #[u,M,.inr #[.inl S.hx,_,kx,hx]]
  |1,h1,h2=>
   cases (show MW y1=MW z from h1)
   cases (show MW (MW x1)=MW (MW v)from h2)
   exact #[t,N,.inr #[.inr S.h1,c1,J,f]]
  |2,h1,h2=>
   cases (show MW y2=MW z from h1)
   cases (show MW (MW x2)=MW (MW v)from h2)
   exact #[y,O,.inr #[.inr S.h2,c2,L,j]]
  |n+3,h1,_=>exact absurd (show([]:nj)[n]?=MW z from h1) (_)
 .rcases one h with⟨rfl,rfl⟩|⟨rfl,rfl⟩|⟨rfl,rfl⟩
  .exact #[_,hx]
  .exact #[_,f]
  .exact #[_,j]
 .rcases one h with⟨rfl,rfl⟩|⟨rfl,rfl⟩|⟨rfl,rfl⟩
  .exact c.hok.fresh (MC _)
  .exact(c.bs _ _ ha).2
  .exact(c.bs _ _ D).2
def zK{k:Nat}{name:Str}{params:Arguments}{body:l_}{n a:J3}{c:k_}{p ob:Obj}{u r y:J3}{x0 x1 x2:V}{t:TE}{Q:VK}(S:Nz x y1 y2 scope)(B:Nd (k+1) A)(f:Oh P w K mg base A outer s H)(D:c1≠c2)(ha:base.get? c1=MW p)(h:p.data=.cell (MW r))(E:base.get? c2=MW ob)(i:ob.data=.cell (MW y))(F:RelV x0 u)(G:RelV x1 r)(L:RelV x2 y)
 (M:s.heap.get? g=MW (Lu name qual params body scope [(y1,c1),(y2,c2)] n c a)) (d:s.heap.CodeRec (.ref c) qual)
 (j:MM (PySem.W.kla_fn name qual params body scope [(y1,c1),(y2,c2)] n (.ref c) a) #[[u],[]]=pure [(x,u)])
 (ht:PE (pT P w K mg base [x,y1,y2] qual scope (QK x y1 y2 s.z c1 c2) g (.ref c) A outer s H) body t) (N:t [MW x0,MW x1,MW x2] H Q) :
 L5 (Ju P w) A (.call (.ref g) #[[u],[]]) (CR Oa outer P w H s Q E0) s:=by
 refine PySem.W.kla_callFunE B.depth M rfl S.co S.gen rfl d ?_
 rw[j]
 let l:s.heap.NoLimit:=f.mod.nolimit.keeps λb o e=>(f.bs b o e).1
 refine J5 (yK S λU m hx C=>?_)
 refine #[l.keeps C,PySem.W.kla_codeExpr ?_]
 let I:=zR (qual:=qual) (g:=g) (cd:=.ref c) S B.hd f D ha h E i F G L m hx C
 refine Jx (ht [] _ _ _ _ I N) (λu O z=>?_) (λe O z=>JK z)
 let[v,R,J,T,q]:=z
 exact #[v,R,J.os,J.bare,J.base,J.hok,T,q]
end
def Dd(o:Obj)(d1 d2:D)(x1 x2:V):MO:=.gen λK H a=>H a=MW (.ext (cC a o))/\Rep K H d1 x1/\Rep K H d2 x2
section
variable{P:Jv}{w:JP}{K:J1}{mg:Str->Option J3}{base:lj}{qual:Str}{scope:Lq}{g c1 c2:k_}{x y1 y2:Str}
def wO{k:Nat}{name:Str}{params:Arguments}{body:l_}{f a:J3}{b:k_}{G ob:Obj}{I J:J3}{x1 x2:V}{d1 d2:D}{sp:OE}(S:Nz x y1 y2 scope)(U:c1≠c2)(ha:base.get? c1=MW G)(j:G.data=.cell (MW I))(X:base.get? c2=MW ob)(l:ob.data=.cell (MW J))(Y:RelV x1 I)(Z:RelV x2 J)
 (m:∀u,MM (PySem.W.kla_fn name qual params body scope [(y1,c1),(y2,c2)] f (.ref b) a) #[[u],[]]=pure [(x,u)]) (len:∀c M Q,sp c M Q->c.length=1)
 (ht:∀(A:JQ)(outer:List Env)(s:J4)(H:Hp),Nd k (A.deeper (jj scope s.z (QK x y1 y2 s.z c1 c2) qual g (.ref b)))->∃t,DE (pT P w K mg base [x,y1,y2] qual scope (QK x y1 y2 s.z c1 c2) g (.ref b) A outer s H) body t/\∀d M Q,sp [d] M Q->t [MW d,MW d1,MW d2] M Q) :
 ZC P w K mg base (k+1) g sp (λM=>M g=MW (Dd (Lu name qual params body scope [(y1,c1),(y2,c2)] f b a) d1 d2 x1 x2)/\M b=MW (xq qual)):=by
 refine #[cC g (Lu name qual params body scope [(y1,c1),(y2,c2)] f b a),λM h z=>#[.frame,.inl rfl,(PySem.W.Looks.ld (part:=MX) z).andThen .now],λA outer s H M L o N p=>?_]
 let[hg,v]:=p
 obtain⟨⟨y,B,C⟩,_⟩:=N _ _ hg
 let[E,_]:=N _ _ v
 let[O,_]:=o.hok _ _ y
 let[f2,_]:=o.hok _ _ E
 refine #[O,λus vs Q r z=>?_]
 let[c,T,R,rs,a1,q,F]:=z
 obtain⟨d,rfl⟩:∃d,c=[d]:=by
  have:=len _ _ _ q
  match c,this with
  |[d],_=>exact #[d,rfl]
 let[x0,8,rx]:=bR rs
 let[u,8,ru]:=vals1 r
 let[t,h1,h2]:=ht A outer s H (L.deeper _)
 refine zK (t:=lift K t) (x1:=x1) (x2:=x2) S L o U ha j X l ru Y Z O f2 (m u) h1 #[[MW d,MW d1,MW d2],T,R,#[8,λi d e=>?_],a1,h2 d T R q,F]
 match i,e with
 |0,e=>cases e;exact #[x0,8,rx]
 |1,e=>cases e;exact #[x1,8,B]
 |2,e=>cases e;exact #[x2,8,C]
 |n+3,e=>exact absurd (show([]:oi)[n]?=MW (MW _)from e) (_)
end
def jQ(b:lj)(c d:k_):Hp:=λa=>if(b.get? a).isSome=MY\/a=c\/a=d then MX else MW (.tbl #[])
theorem nV{b:lj}{c d a:k_}(h:(b.get? a).isSome=MY\/a=c\/a=d):jQ b c d a=MX:=NB h
def t7{b:lj}{c d a:k_}(h:jQ b c d a=MX):(b.get? a).isSome=MY\/a=c\/a=d:=by
 by_cases z:(b.get? a).isSome=MY\/a=c\/a=d
 .exact z
 .unfold jQ at h;rw[NA z]at h;cases h
section
variable{X:Cx}{NK:l'}{σ:L2.St}{H:Hp}{s:J4}{y1 y2:Str}{c1 c2:k_}
def Ac(I:Inv X NK σ H s)(i:X.fn y1=MY)(d:X.env.cells.lookup y1=MW c1)(j:X.fn y2=MY)(f:X.env.cells.lookup y2=MW c2):Oh X.prog X.w X.K X.mg (jl s.heap (jQ X.base c1 c2)) X.A X.stack s H:=by
 let a:=I.yf;let h:∀b o,X.base.get? b=MW o->(jl s.heap (jQ X.base c1 c2)).get? b=MW o:=λb o e=>fK (I.bk b o e) (nV (.inl (by rw[e];rfl)))
 let no:∀y b,X.fn y=MY->X.env.cells.lookup y=MW b->b∈OG X.stack->False:=λy b m k g=>by
  rcases JU.mp (I.nG b g)with q|q
  .exact I.cne y b k q
  .obtain⟨_,l,c,_⟩:=I.ok.fB.mem (show b∈X.outer.filterMap (·.frame)from q);exact absurd (JF (Js c) (I.ok.cab y b m k)) (KS _)
 let n:∀b∈OG X.stack,(jl s.heap (jQ X.base c1 c2)).get? b=MX:=λb g=>by
  cases e:(jl s.heap (jQ X.base c1 c2)).get? b with
  |none=>rfl
  |some o=>
   exfalso
   let[e1,e2]:=nS e
   rcases t7 e2 with z|z|z
   .have:=(a.fB.mem (show b∈X.stack.filterMap (·.frame)from g)).1;rw[this]at z;cases z
   .subst z;exact no _ _ i d g
   .subst z;exact no _ _ j f g
 let[p,h1,h2]:=a.mod.blt;refine #[a.frames,#[a.mod.kin.keeps h,a.mod.glob.keeps h,#[p,h1.keeps h,h2],a.mod.nolimit.keeps h],λb o e=>?_,Nat.le_of_eq (mR _ _),m7 a.fB n,a.frf,a.hok,a.bare];let[e1,e2]:=nS e;exists e1;rcases t7 e2 with z|z|z
 .obtain⟨l,c⟩:=Option.isSome_iff_exists.mp z;exact(I.bs b l c).2
 .subst z;exact I.freeC y1 b d
 .subst z;exact I.freeC y2 b f
end
section
variable{X:Cx}{y1 y2 lx:Str}{params:Arguments}{body:l_}{NP:Lq}{NQ:Pos}{c0 Pt:k_}
def yT{names:List (Str×LR)}{env:Env}{y1 y2:Str}{a b:k_}(c:(names.filter λz=>z.2==.free)=[(y2,.free),(y1,.free)])(h1:env.cells.lookup y1=MW a)(h2:env.cells.lookup y2=MW b):dW names env=[(y1,a),(y2,b)]:=by unfold dW;rw[c];simp[h1,h2]
def vR{NK:l'}{σ:L2.St}{H:Hp}{s:J4}{M:MH}{f i:k_}{d1 d2:D}{x1 x2:V}{Q:J3->J4->Prop}(d:X.env.code=.ref c0)(m:Mk X.K X.mg c0 Pt)(E:(NP.names.filter λz=>z.2==.free)=[(y2,.free),(y1,.free)])(F:∀z∈NP.names,z.2=.free->z.1=y1\/z.1=y2)
 (G:defaultsOf params X.env=([],[])) (I:Inv X NK σ H s) (t:Nc X.K H M) (J:X.env.cells.lookup y1=MW f) (L:X.env.cells.lookup y2=MW i) (ht:b5 (X.env.qual++"<lambda>") Pt NQ M) (k:Rep X.K H d1 x1) (l:Rep X.K H d2 x2)
 (h:∀g c b pm v N s',Inv X NK σ v s'->Nb X.K H v->Nc X.K v N->N g=MW (Dd (Lu "<lambda>" (X.env.qual++"<lambda>") params body NP [(y1,f),(y2,i)] pm c b) d1 d2 x1 x2)->N c=MW (xq (X.env.qual++"<lambda>"))->
  b5 (X.env.qual++"<lambda>") Pt NQ N->cH Pt M N->Q (.ref g) s') :
 Jq (Ju X.prog X.w) X.A (eval (.Lambda params body NP NQ) X.env) Q X.xe s:=by
 refine PySem.W.kla_eval G ?_
 let O:closureFor NP X.env=pure [(y1,f),(y2,i)]:=by
  rw[lH (λz hz U=>(F z hz U).elim (λe=>#[f,by rw[e];exact J]) λe=>#[i,by rw[e];exact L]),yT E J L]
 let P:s.heap.Ns JR X.mg:=I.mod.glob.keeps I.bk
 let C:=PySem.W.codeHd_of_K I.kIn m.hd
 rcases ht with ht|⟨q,ht,x,Y⟩
 .obtain⟨j,_⟩:=t _ _ ht
  let y:s.heap.get? Pt=MW (PySem.W.tabObj #[]):=I.hok _ _ j
  let n:H Pt≠MX:=by rw[j];simp
  refine PySem.W.kla_makeFunction (mg:=X.mg) O I.ok.glob P d C y trivial rfl (HK I n) (wZ I m n) λc b r tk hx h1 h2 R Z=>?_
  let[n1,n2,I2]:=zU (o:=Lu "<lambda>" (X.env.qual++"<lambda>") params body NP [(y1,f),(y2,i)] ((X.mg "__name__").getD .none) c b) (tk:=tk) rfl I j hx h1 h2 R Z
  let nc:c≠Pt:=λz=>by rw[z,j]at n1;cases n1
  let ng:r.objs.size≠Pt:=λz=>by rw[z,j]at n2;cases n2
  let B:r.objs.size≠c:=(JH h2).symm
  let g1:Nb X.K H (upd H Pt (.tbl (#[]++(List.toArray [Lw NQ.line,Lw NQ.col,.ref c])))):=.put (λxs e=>by rw[j]at e;cases e) (λu xs e=>by rw[j]at e;cases e)
  let g2:=Nb.new (K:=X.K) (o:=.ext (lI c (X.env.qual++"<lambda>"))) (show(upd H Pt (.tbl (#[]++(List.toArray [Lw NQ.line,Lw NQ.col,.ref c])))) c=MX by rw[ay nc];exact n1)
  let p:=Nb.new (K:=X.K) (o:=.ext (cC r.objs.size (Lu "<lambda>" (X.env.qual++"<lambda>") params body NP [(y1,f),(y2,i)] ((X.mg "__name__").getD .none) c b))) (show(upd (upd H Pt (.tbl (#[]++(List.toArray [Lw NQ.line,Lw NQ.col,.ref c])))) c (.ext (lI c (X.env.qual++"<lambda>")))) r.objs.size=MX by rw[ay B,ay ng];exact n2)
  let S:=(g1.trans g2).trans p
  let a1:=t.rK (A:=λ_ H a=>H a=MW (.tbl (Ct NQ c))) g1 az (λv _ e=>e)
  let a2:=a1.rK (A:=λ_ H a=>H a=MW (.ext (lI a (X.env.qual++"<lambda>")))) g2 az (λv _ e=>e)
  let a3:=a2.rK (A:=λK H a=>H a=MW (.ext (cC a (Lu "<lambda>" (X.env.qual++"<lambda>") params body NP [(y1,f),(y2,i)] ((X.mg "__name__").getD .none) c b)))/\Rep K H d1 x1/\Rep K H d2 x2) p #[az,k.mono S,l.mono S] (λv T e=>#[e,(k.mono S).mono T,(l.mono S).mono T])
  let m1:=t.fresh n1
  let m2:=t.fresh n2
  refine h _ c b _ _ _ _ I2 S a3 aj (by rw[ak B.symm,aj];rfl) (.inr #[c,by rw[ak ng.symm,ak nc.symm,aj];rfl,by rw[ak B.symm,aj];rfl,nc]) λa o na e=>?_
  rw[ak (λz=>by rw[z,m2]at e;cases e),ak (λz=>by rw[z,m1]at e;cases e),ak na];exact e
 .obtain⟨j,_⟩:=t _ _ ht
  let y:s.heap.get? Pt=MW (PySem.W.tabObj (Ct NQ q)):=I.hok _ _ j
  let n:H Pt≠MX:=by rw[j];simp
  refine PySem.W.kla_makeFunctionHit (mg:=X.mg) (cv:=.ref q) O I.ok.glob P d C y trivial (by unfold Ct Lw codeAmong;simp) (wZ I m n) λb r tk U a0=>?_
  let[n2,I2]:=A4 (o:=Lu "<lambda>" (X.env.qual++"<lambda>") params body NP [(y1,f),(y2,i)] ((X.mg "__name__").getD .none) q b) (tk:=tk) rfl I U a0
  let p:=Nb.new (K:=X.K) (o:=.ext (cC r.objs.size (Lu "<lambda>" (X.env.qual++"<lambda>") params body NP [(y1,f),(y2,i)] ((X.mg "__name__").getD .none) q b))) n2
  let a3:=t.rK (A:=λK H a=>H a=MW (.ext (cC a (Lu "<lambda>" (X.env.qual++"<lambda>") params body NP [(y1,f),(y2,i)] ((X.mg "__name__").getD .none) q b)))/\Rep K H d1 x1/\Rep K H d2 x2) p #[az,k.mono p,l.mono p] (λv T e=>#[e,(k.mono p).mono T,(l.mono p).mono T])
  let m2:=t.fresh n2
  let k1:Pt≠r.objs.size:=λz=>by rw[<-z,ht]at m2;cases m2
  let k2:q≠r.objs.size:=λz=>by rw[<-z,x]at m2;cases m2
  refine h _ q b _ _ _ _ I2 p a3 aj (by rw[ak k2];exact x) (.inr #[q,by rw[ak k1];exact ht,by rw[ak k2];exact x,Y]) λa o na e=>?_
  rw[ak (λz=>by rw[z,m2]at e;cases e)];exact e
end
def rA(q:Str)(Pt:k_)(d:Pos)(g h:Nat)(spg:D->D->OE)(j:Ny):TD:=λδ M Q=>j δ M λes b=>∃(l:k_) (ws ns:ml) (e1 e2:D),es=[.ref l]/\b l=MW (.lst (ws.map D.int))/\l≠Pt/\δ[g]?=MW (MW e1)/\δ[h]?=MW (MW e2)/\b5 q Pt d b/\ns.length=ws.length/\ns.length<64/\
 (∀(i:Nat)(w n:Int) a e,ws[i]?=MW w->ns[i]?=MW n->cH Pt b a->(∀c,Sub a c->e (.int n) c)->spg e1 e2 [.int w] a e)/\
 ∀p f a,b p=MX->a p=MW (.lst (f.map D.int))->Rr ns ws f->b5 q Pt d a->cH Pt b a->Q (.ref p) a
section
variable{X:Cx}{y1 y2 lx:Str}{k:Nat}{params:Arguments}{body:l_}{NP:Lq}{NQ p pos kp:Pos}{a1:l_}{ta:Ny}{c0 Pt:k_}{spg:D->D->OE}
def oh(j1 j2:Nat)(U:X.env.code=.ref c0)(m:Mk X.K X.mg c0 Pt)(S:Nz lx y1 y2 NP)
 (hb:∀(name qual:Str)(F G:k_)(pm cdv ct Y:J3),MM (PySem.W.kla_fn name qual params body NP [(y1,F),(y2,G)] pm cdv ct) #[[Y],[]]=pure [(lx,Y)])
 (len:∀d1 d2 ds M Q,spg d1 d2 ds M Q->ds.length=1)
 (ht:∀(base:lj)(g F G c':k_)(d1 d2:D)(A:JQ)(outer:List Env)(s:J4)(H:Hp),Nd k (A.deeper (jj NP s.z (QK lx y1 y2 s.z F G) (X.env.qual++"<lambda>") g (.ref c')))->
  ∃t,DE (pT X.prog X.w X.K X.mg base [lx,y1,y2] (X.env.qual++"<lambda>") NP (QK lx y1 y2 s.z F G) g (.ref c') A outer s H) body t/\∀d M Q,spg d1 d2 [d] M Q->t [MW d,MW d1,MW d2] M Q)
 (hr:Nd (k+1+1+1) X.A) (hm:X.mg "sorted"=MX) (ha:DA X [a1] ta)
 (hg:Gl X "sorted":=by rfl) (d0:(NP.names.filter λz=>z.2==.free)=[(y2,.free),(y1,.free)]:=by rfl) (f0:defaultsOf params X.env=([],[]):=by rfl) (k0:X.fn y1=MY:=by rfl) (l0:X.fn y2=MY:=by rfl) (m0:X.N[j1]?=MW y1:=by rfl) (n0:X.N[j2]?=MW y2:=by rfl) (g0:X.env.scope.names.lookup y1=MW .cell:=by rfl) (h0:X.env.scope.names.lookup y2=MW .cell:=by rfl)
 (he:Lh pos (Jz [a1] X.env)=(MZ,eval a1 X.env)::Lh pos (Jz [] X.env):=by rfl) (o0:(Lh pos (Jz [a1] X.env)).any (·.1)=MZ:=by rfl) :
 DE X (.Call (.Name "sorted" p) [a1] [#[MW "key",.Lambda params body NP NQ,kp]] pos) (rA (X.env.qual++"<lambda>") Pt NQ j1 j2 spg ta):=by
 intro NK s σ H Q I h
 let[δ,M,R,hs,hM,q,q0]:=h
 refine Lx (f6 I hg hm jq (PyProof.Rows.callWith_kw (Nf (ha pos NK s σ H _ I #[δ,M,_,hs,hM,q,λes M1 vs H1 g1 r1 a1 q1=>(show ∃es M1,Nb X.K H H1/\aC X.K H1 es vs/\Nc X.K H1 M1/\_ from #[es,M1,g1,r1,a1,q1])]) λus s1 z=>?_) he o0 rfl rfl))
 let[vs,H1,I1,Z,es,M1,g1,r1,a1,l,ws,ns,e1,e2,8,hl,r0,s0,t0,i0,hn,u0,v0,hq]:=z
 let[v1,8,rl]:=bR r1
 rw[Rep]at rl;subst rl
 let[Y,8,ru]:=vals1 Z
 cases ru
 let[x1,w0,x0]:=hs.at' j1 e1 s0
 let[x2,y0,z0]:=hs.at' j2 e2 t0
 let[F,J]:=I1.ok.has y1 (.inl g0)
 let[G,b]:=I1.ok.has y2 (.inl h0)
 let nc:F≠G:=λz=>S.n3 (I1.ok.inj y1 y2 F J (by rw[z];exact b))
 refine PyProof.Rows.kws_cons (vR U m d0 (λz hz hk=>S.only z hz hk) f0 I1 a1 J b i0 (x0.mono g1) (z0.mono g1) λg c' b1 pm H2 M2 s2 I2 g2 a2 f1 h1 j0 B=>?_)
 refine PyProof.Rows.kws_nil ?_
 show Jq (Ju X.prog X.w) X.A (call (.builtin "sorted") [.ref l] [(Km "key",.ref g)]) _ _ _
 let i1:M2 l=MW (.lst (ws.map D.int)):=B _ _ r0 hl
 refine Fq I2 a2 i1 hn u0 (λi w n Y L H' s' I' O C hd hi k1=>?_) λp m1 H' L s' I' g' O C hp n1 bk=>?_
 .have a0:cH Pt M1 L:=λa o na e=>C _ _ (B a o na e)
  let[mm,k2,p1]:=I'.loc
  let cell:∀{j:Nat}{y:Str}{c:k_}{x:V},X.N[j]?=MW y->σ[j]?=MW (MW x)->X.env.scope.names.lookup y=MW .cell->X.env.cells.lookup y=MW c->∃u,RelV x u/\s'.heap.IsCell c (MW u):=λ{j y c x} hN hv hy hc=>by
   let[u2,t1,lk]:=p1 j y x hN hv (.inr (.inl hy))
   exists u2,t1
   rcases lk with⟨z,_⟩|⟨_,G,b,z⟩
   .rw[show X.env.kindOf y=X.env.scope.names.lookup y from rfl,hy]at z;cases z
   .rw[hc]at b;cases b;exact z
  let[v1,Z,o1,w1,z1]:=cell m0 w0 g0 J
  let[v2,b2,o2,f2,i2]:=cell n0 y0 h0 b
  let CV:=wO (P:=X.prog) (w:=X.w) (K:=X.K) (mg:=X.mg) (k:=k) (g:=g) (d1:=e1) (d2:=e2) (base:=jl s'.heap (jQ X.base F G)) (sp:=spg e1 e2) S nc (fK w1 (nV (.inr (.inl rfl)))) z1 (fK f2 (nV (.inr (.inr rfl)))) i2 Z b2 (λY=>hb "<lambda>" (X.env.qual++"<lambda>") F G pm (.ref c') b1 Y) (len e1 e2) (λA outer s H hr=>ht _ g F G c' e1 e2 A outer s H hr)
  let[Pg,look,run]:=CV.ex
  let T:=Ac I' k0 J l0 b
  let[_,h2]:=run X.A.in1.in1 X.stack s' H' L hr.in1.in1 #[T.frames,T.mod,T.bs,T.bsz,T.fB,T.frf,T.hok,T.bare] O #[C _ _ f1,C _ _ h1]
  refine wpAny_call (MB (h2 [Y] [.int w] (λv b0=>∃f,Nb X.K H' b0/\v=.int n/\Nc X.K b0 f/\Sub L f) (.cons k1 .nil) #[[.int w],L,λd f=>d=.int n/\Sub L f,.cons (by rw[Rep]) .nil,O,v0 i w n L _ hd hi a0 λf sb=>#[8,sb],λd f v b0 gg rr aa z=>by let[8,z]:=z;rw[Rep]at rr;exact #[f,gg,rr,aa,z]]) λr m2 E=>?_)
  cases r with
  |error e=>exact JK E
  |ok fl=>
   cases fl with
   |ret u=>exact I'.after E
   |next=>exact JK E
   |brk=>exact JK E
   |cont=>exact JK E
 .exact #[.ref p,H',I',8,q0 _ L _ H' ((g1.trans g2).trans g') (by rw[Rep]) O (hq p m1 L (by
   cases z:M1 p with
   |none=>rfl
   |some o=>
    let np:p≠Pt:=λe=>by
     subst e
     rcases j0 with h|⟨_,h,_⟩<;>rw[hp]at h<;>cases h
    rw[B _ _ np z]at hp;cases hp) n1 bk (j0.sub C) λa o na e=>C _ _ (B a o na e))]
end
theorem oj(a:Nat->Nat->Bool):∀k,argBest a k<=k
 |0=>Jo _
 |k+1=>by
  have:=oj a k
  rw[argBest]
  split<;>omega
section
variable{X:Cx}
theorem lF:∀{ns:ml}{its:List J3},Vals (ns.map V.int) its->∃ps:List (Int×Tok),its=ps.map (λp=>KZ p.1 p.2)/\ps.map (·.1)=ns
 |[],its,h=>by cases h;exact #[[],8,rfl]
 |n::ns,its,h=>by
  rw[J9]at h
  cases h with
  |cons r q=>
   let[t,8]:=r
   let[ps,8,8]:=lF q
   exact #[(n,t)::ps,8,rfl]
def vH(d:X.calm=MY):bo X (.builtin "max") (λxs H Q=>∃p ns,xs=[.ref p]/\Ni X.K H p (ns.map V.int)/\ns≠[]/\∀n∈ns,Q (.int n) H):=by
 intro NK s σ H xs us Q I r f;let[p,ns,e,g,h,k]:=f;subst e;let[u,8,i]:=vals1 r;cases i;let[j,l,m,_]:=I.list g;let[ps,8,8]:=lF l;let h0:0<ps.length:=List.length_pos_iff.mpr λz=>h (by rw[z];rfl);refine max_intList (xs:=ps.toArray) (I.ok.hd d) (by simpa[intItems]using m.isList) ‹h0› λv t w o q=>?_;let c:=oj (λx y=>decide (numAt ps.toArray x>numAt ps.toArray y)) (ps.toArray.size-1);let a:(intItems ps.toArray)[argBest (λx y=>decide (numAt ps.toArray x>numAt ps.toArray y)) (ps.toArray.size-1)]?=MW v:=o;rw[Jw]at c a;generalize argBest (λx y=>decide (numAt ps.toArray x>numAt ps.toArray y)) (ps.length-1)=b at c a;let hl:b<ps.length:=()
 let z:KZ ps[b].1 ps[b].2=v:=by simpa[intItems,hl]using a
 exact #[.int ps[b].1,H,I.kept q,by rw[<-z];exact #[_,rfl],k _ (List.mem_map_of_mem (Lc hl))]
def Dp:RC:=λa M Q=>match a with
 |[.ref l]=>∃ns:ml,M l=MW (.lst (ns.map D.int))/\ns≠[]/\∀n∈ns,Q (.int n) M
 |a=>zI a M Q
theorem t6(c:X.calm=MY)(f:X.A.units+64<Ky):cK X (.builtin "max") Dp:=bN (bo.or (ue c f) (vH c)) λvs H Q g=>by
 let[j,M,R,d,a,q,b]:=g;unfold Dp at q;split at q
 .obtain⟨ns,e,h,q⟩:=q;let[v,8,r]:=bR d;rw[Rep]at r;subst r;let[xs,h1,h2]:=a _ _ e;rw[cG h2]at h1;exact .inr #[_,ns,8,Ni.of h1,h,λn i=>b _ _ _ _ .refl (by rw[Rep]) a (q n i)]
 .exact .inl #[_,M,R,d,a,q,b]
end
end SD
namespace HT
open PySem PyProof.Rows
end HT
namespace SD
open PySem PySem.Spec PyProof.Rows L2
def RQ(w:Wl)(c:Vc):Bool:=decide (l1 w<=la c.1 c.2/\la c.1 c.2<l2 w)
def E2{U V:Wl}{c:Vc}(h1:RQ U c=MY)(h2:RQ V c=MY):max (l1 U) (l1 V)<min (l2 U) (l2 V):=by let a:=NF h1;let b:=NF h2;rw[Int.max_def,Int.min_def];split<;>split<;>omega
section
variable{ws:n_}{c:Vc}(hU:∀w∈ws,OB w)(hF:PF ws)
include hU hF
def Hg{fs:ml}(F:Fs ws fs){a b:Int}(ha:a∈fs)(d:b∈fs)(sa:RQ (OI ws a) c=MY)(e:RQ (OI ws b) c=MY)(ne:a≠b):Nu (OI ws b) (OI ws a)=!Nu (OI ws a) (OI ws b):=by let A:=F.b a ha;let B:=F.b b d;exact FX (hU _ (c8 A.1 A.2).2.2) (hU _ (c8 B.1 B.2).2.2) (Et hF F ha d ne) (E2 sa e)
def Eo(ws:n_)(fs:ml)(k:Int):Nat:=(fs.filter λo=>Nu (OI ws k) (OI ws o)).length
end
def rZ{ps:List Vc}(up:ps.Pairwise ON){u c:Vc}{j:Nat}(f:u∈ps)(g:ps[j]?=MW c):(Pw ps u<=j↔la u.1 u.2<=la c.1 c.2)/\(j<Pw ps u↔la c.1 c.2<la u.1 u.2):=by
 let[a,b]:=jn f;let[d,b1]:=Jp.mp g;rw[JB b]at a;let a:=Option.some.inj a;let e:=Kd.mp up;rcases ME (Pw ps u) j with z|z|z
 .have:=e _ _ b d z;rw[a,b1]at this;unfold ON at this;unfold la;omega
 .have:u=c:=by rw[<-a,<-b1];simp only[z]
  subst this;omega
 .have:=e _ _ d b z;rw[a,b1]at this;unfold ON at this;unfold la;omega
def uk{ps:List Vc}(up:ps.Pairwise ON){w:Wl}{c:Vc}{j:Nat}(h1:ea w∈ps)(h2:eb w∈ps)(a:ps[j]?=MW c):(decide (Pw ps (ea w)<j+1)&&decide (j+1<=Pw ps (eb w)))=RQ w c:=by let e1:=(rZ up h1 a).1;let e2:=(rZ up h2 a).2;let b:la (ea w).1 (ea w).2=l1 w:=rfl;let d:la (eb w).1 (eb w).2=l2 w:=rfl;rw[b]at e1;rw[d]at e2;unfold RQ;rw[Mh,Kq,NH,NH,NH];omega
def gq(g h:Int)(u:Vc):Vc:=(g*u.1-h,g*u.2-h)
def Fb(g h:Int)(us:List Vc):us.map (gp g h)=(us.map (gq g h)).map OW:=by rw[Lr];rfl
def sL{g h:Int}(a:0<g){u v:Vc}(e:gq g h u=gq g h v):u=v:=by let e1:=congrArg Prod.fst e;let e2:=congrArg Prod.snd e;exact Prod.ext ((sA a).mp e1) ((sA a).mp e2)
def uF{g h:Int}(a:0<g)(us:List Vc)(u:Vc):cU (us.map (gq g h)) (gq g h u)=(cU us u).map (gq g h):=by
 let e:gq g h u∈us.map (gq g h)↔u∈us:=#[λz=>by let[v,b,e]:=JZ.mp z;rw[<-sL a e];exact b,λz=>JZ.mpr #[u,z,rfl]];unfold cU;by_cases z:u∈us
 .rw[NB z,NB (e.mpr z)]
 .rw[NA z,NA (λq=>z (e.mp q)),Kr];rfl
def F6{g h:Int}(G:Gs g h){us:List Vc}(c:∀u∈us,OO u)(nd:us.Nodup)(l:us.length<64):Wj (us.map (gq g h)):=by
 refine #[by rw[J7];exact l,?_,λv d=>?_]
 .unfold List.Nodup;rw[LY];exact nd.imp λne e=>ne (sL G.g0 e)
 .obtain⟨u,f,rfl⟩:=JZ.mp d;let B:=(c u f).2;let h1:=G.g0;let h2:=G.g1;let i:=G.h0;let j:=G.h1;let a:g*u.2<=12*20:=Int.mul_le_mul h2 B.2 B.1 ⋯;let b:0<=g*u.2:=Int.mul_nonneg () B.1;show -500<=g*u.2-h/\g*u.2-h<500;omega
def Bz{g h:Int}(G:Gs g h){us:List Vc}{vs:List Vc}(f:∀u∈us,OO u)(i:vs.Perm (us.map (gq g h)))(up:vs.Pairwise Ah):∃ps:List Vc,vs=ps.map (gq g h)/\ps.Perm us/\ps.Pairwise ON:=by
 let j:∀u:Vc,((((gq g h u).1+h)/g,((gq g h u).2+h)/g):Vc)=u:=λu=>by
  let e:∀x:Int,(g*x-h+h)/g=x:=λx=>by rw[Int.sub_add_cancel,Int.mul_ediv_cancel_left _ (by have:=G.g0;omega)]
  exact Prod.ext (e u.1) (e u.2)
 let c:=i.map λv:Vc=>(((v.1+h)/g,(v.2+h)/g):Vc);rw[Lr]at c;let e2:us.map ((λv:Vc=>(((v.1+h)/g,(v.2+h)/g):Vc))∘gq g h)=us:=(LJ λu _=>j u).trans (List.map_id' _);rw[e2]at c;let k:vs=(vs.map λv:Vc=>(((v.1+h)/g,(v.2+h)/g):Vc)).map (gq g h):=by rw[Lr];refine((LJ λv l=>?_).trans (List.map_id' _)).symm;let[u,_,8]:=JZ.mp (i.mem_iff.mp l);exact congrArg (gq g h) (j u)
 exists _,k,c;rw[k,LY]at up;refine List.Pairwise.imp_of_mem (λ{a b} ha d z=>?_) up;let A:=f a (c.mem_iff.mp ha);let B:=f b (c.mem_iff.mp d);let h1:=G.g0;unfold Ah gq at z;dsimp only at z;let e1:g*(1000*a.1+a.2)<g*(1000*b.1+b.2):=by rw[Int.mul_add,Int.mul_add,Int.mul_left_comm,Int.mul_left_comm g 1000];omega
 let e3:=Int.lt_of_mul_lt_mul_left e1 (Int.le_of_lt h1);let m:=A.2;let b1:=B.2;unfold ON;omega
open PySem.Sem (wp)
def iM(h h':lj):Prop:=∀a o,h.get? a=MW o->∃b,h'.get? a=MW b/\b.dict=o.dict
theorem iM.refl{h:lj}:iM h h:=λ_ o e=>#[o,e,rfl]
theorem iM.trans{h h1 h2:lj}(a:iM h h1)(b:iM h1 h2):iM h h2:=λx o e=>let⟨c,e1,d⟩:=a x o e;let⟨f,e2,g⟩:=b x c e1;#[f,e2,g.trans d]
def Nx{b:Type}(t:Sem b):Prop:=∀(M:Model)(c:PySem.Ctx)(Q:b->Pos->J4->Prop)(E:J3->Pos->J4->Prop)(p:Pos)(s:J4),
 wp M c t Q E p s->wp M c t (λa e d=>Q a e d/\iM s.heap d.heap) (λ_ _ _=>False) p s
section
variable{α β:Type}
theorem Nx.pure{a:α}:Nx (Pure.pure a:Sem α):=λM b Q E p s h=>#[h,.refl]
theorem Nx.uns{w:String}:Nx (unsupported w:Sem α):=λM a Q E p s h=>(show False from h).elim
theorem Nx.bind{t:Sem α}{f:α->Sem β}(h1:Nx t)(h2:∀a,Nx (f a)):Nx (t >>= f):=λM e Q E p s h=>by rw[Sem.wp_bind']at h ⊢;refine Sem.wp_mono M e t (λa g i c=>?_) (λ_ _ _ z=>z) p s (h1 M e _ E p s h);let[q,k]:=c;exact Sem.wp_mono M e (f a) (λb m n d=>by let[j,l]:=d;exact(#[j,k.trans l])) (λ_ _ _ z=>z) g i (h2 a M e Q E g i q)
theorem Nx.load{a:k_}:Nx (PySem.load a):=λM b Q E p s h=>by let[o,e,q]:=(show ∃o,s.heap.get? a=MW o/\Q o p s from h);exact #[o,e,q,.refl]
theorem Nx.stack:Nx PySem.stack:=λM a Q E p s h=>#[h,.refl]
def B9{h:lj}{a b:k_}{f:Obj->Obj}{o:Obj}(c:∀o,(f o).dict=o.dict/\(f o).isFreed=o.isFreed)(e:h.get? b=MW o):∃d,(h.update a f).get? b=MW d/\d.dict=o.dict:=by
 by_cases z:a=b
 .subst z;exact #[f o,KC f e ((c o).2.trans (Heap.get?_some_iff.mp e).2),(c o).1]
 .exact #[o,(Kn h f z).trans e,rfl]
theorem Nx.update{a:k_}{f:Obj->Obj}(d:∀o,(f o).dict=o.dict/\(f o).isFreed=o.isFreed):Nx (PySem.update a f):=λM g Q E p s h=>
 let c:(s.heap.get? a).isSome/\Q ⟨⟩ p { s with heap:=s.heap.update a f }:=h
 show(s.heap.get? a).isSome/\_ from #[c.1,c.2,λb o e=>B9 d e]
theorem Nx.alloc{o:Obj}:Nx (PySem.alloc o):=λM b Q E p s h=>#[h,λa u e=>#[u,J6 _ e,rfl]]
def Nx.ite{c:Prop}[Decidable c]{t u:Sem α}(h1:Nx t)(h2:Nx u):Nx (if c then t else u):=by
 split
 .exact h1
 .exact h2
end
def uX(g:Array J3->Array J3)(o:Obj):(o.mapFields g).dict=o.dict/\(o.mapFields g).isFreed=o.isFreed:=by let[c,d,a,sl]:=o;cases a<;>exact #[8,rfl]
def vj{v:J3}:Nx (fieldsOf v):=by
 unfold fieldsOf;cases v<;>first|exact .uns|skip
 refine .bind .load λo=>?_;cases o.data<;>first|exact .uns|exact .pure
def iQ{v:J3}{i:Nat}:Nx (field v i):=by unfold field;refine .bind vj λvs=>?_;cases vs[i]?<;>first|exact .uns|exact .pure
def gr{v x:J3}{i:Nat}:Nx (setField v i x):=by
 unfold setField;cases v<;>first|exact .uns|skip
 unfold updateField;refine .bind .load λo=>?_;cases o.data<;>first|exact .uns|skip
 exact .ite (.update λo=>uX _ o) .uns
def fh{e:J3}{f:Option k_}:Nx (setFlight e f):=by unfold setFlight;refine .bind iQ λa=>?_;exact .ite gr .pure
def yq:Nx underTheClaimsCaller:=by unfold underTheClaimsCaller;exact .bind .stack λ_=>.pure
theorem pA{env:Env}{b:Bool}:∀{l:List Env},Nx (keptBack env b l)
 |[]=>by
  unfold keptBack
  exact .ite .pure (.bind yq λ_=>.pure)
 |_::_=>.pure
def vJ{env:Env}{l:List Env}:Nx (behindIsImport env l):=by unfold behindIsImport;refine .ite .pure (.ite .pure (.bind iQ λ_=>.pure))
theorem qv:∀{l:List Env},Nx (readyFrames l)
 |[]=>.pure
 |env::outer=>by
  unfold readyFrames
  cases env.frame with
  |none=>exact .uns
  |some f=>
   refine .bind .load λo=>.ite .pure (.bind vJ λb=>.bind pA λv=>.bind (.update λo=>?_) λ_=>qv)
   let[c,d,a,sl]:=o
   cases a<;>exact #[8,rfl]
def rR{env:Env}:Nx (PySem.frameOf env):=by
 unfold PySem.frameOf frameEnvs;refine .bind (.bind .stack λ_=>.pure) λl=>.bind ?_ λr=>?_
 .generalize List.dropWhile _ l=a;cases a with
  |nil=>exact .pure
  |cons e r=>exact .bind qv λ_=>.pure
 .cases r<;>first|exact .uns|exact .pure
def xw{f:k_}{b:Bool}:Nx (entryPlaceOf f b):=by
 unfold entryPlaceOf;refine .bind .stack λa=>?_;split
 .exact .pure
 .exact .pure
def Ad{a b c d e:J3}{pl:List J3}:Nx (EntryCells.newEntry a b c d e pl):=by unfold EntryCells.newEntry newFields newObj;dsimp only;refine .ite .uns ?_;unfold newObjAsIs;exact .bind .alloc λ_=>.pure
def ux{e:J3}{env:Env}:Nx (noteFrame e env):=by
 unfold noteFrame;cases env.frame with
 |none=>exact .uns
 |some f=>
  let b:∀a:J3,Nx (do setField e 1 (<-EntryCells.newEntry a (<-PySem.frameOf env) .none (Lw f) .none (<-entryPlaceOf f (a != .none)))):=λa=>.bind rR λ_=>.bind xw λ_=>.bind Ad λ_=>gr
  refine .bind iQ λa=>.ite (.bind iQ λx=>.ite .pure (.bind gr λ_=>b a)) (b a)
theorem rz{e:J3}{env:Env}:Nx (leaving env e):=.bind ux λ_=>fh
theorem Nx.any{c:Type}{t:Sem c}(k:Nx t){M:Model}{A:JQ}{Q:c->J4->Prop}{E:J3->J4->Prop}{s:J4}(h:Jq M A t Q E s):Jq M A t (λa d=>Q a d/\iM s.heap d.heap) (λ_ _=>False) s:=λe p b=>k M e _ _ p s (h e p b)
section
variable{prog:Jv}{w:JP}{A:JQ}{E:J3->J4->Prop}{hp:lj}{gs:Array GenState}{dr:Drawn}{tk:Nat}{sys:OsState}
variable{cn cq:Str}{C NS fI:k_}{NR ups:List J3}{NT:Bool}{sn:nj}{sub:List J3}{ab:Bool}{col:Option Bool}{dd:Option k_}{k0 k1 k2 k3 k5:Option J3}{mN:Str->Option J3}{us:List J3}{oI:Obj}
abbrev Cd(us:List J3):Obj:={ cls:=.type "tuple",data:=.seq us.toArray }
abbrev fE(C t:k_)(d:Option k_):Obj:={ cls:=.ref C,dict:=d,data:=.fields (List.toArray [.ref t,.none,.none,.none,.bool MZ,.none]) }
def vQ(T:OwnTail hp PX ups)(hC:hp.get? C=MW (excClassObj cn cq C NS NR ups NT sn sub ab col dd k0 k1 k2 k3 k5 "ValueError.__new__"))(h:hp.Ns NS mN)(hi:mN "__init__"=MW (.ref fI))(i:hp.get? fI=MW oI)(j:oI.cls=.type "function")(hl:us.length<=JJ)
 {Q:PySem.Fin->J4->Prop} (k:∀h',(∀b o,hp.get? b=MW o->h'.get? b=MW o)->h'=(hp.push (Cd us)).push (fE C hp.objs.size MX)->Jq (Ju prog w) A (call (.ref fI) (.ref (hp.objs.size+1)::us)) (λr g=>r=.none/\Q (.done (.ret (.ref (hp.objs.size+1)))) g) E #[h',gs,dr,tk,sys]) :
 Jq (Ju prog w) A (LD.«type.__call__» #[.ref C::us,[]]) Q E #[hp,gs,dr,tk,sys]:=by
 let a:=F.excBase_ValueError
 repeat (first|with_reducible refine wpAny_loadPart_at hC ?_|with_reducible refine wpAny_madeBy_exc hC ?_|wp_step)
 refine codeAny_call_builtin_code (Code.quiet_builtin _ a.quiet) (wpAny_check_new_subU a ⋯ T hC ?_)
 refine codeAny_exc_new_subU a ⋯ a T hC ?_ hl
 show Jq _ _ _ _ _ _
 let kp:∀b o,hp.get? b=MW o->((hp.push (Cd us)).push (fE C hp.objs.size MX)).get? b=MW o:=λb o e=>J6 _ (J6 _ e)
 let c:=kp _ _ hC
 let d:=h.keeps kp
 let l:=T.keeps kp
 let he:((hp.push (Cd us)).push (fE C hp.objs.size MX)).get? (hp.objs.size+1)=MW (fE C hp.objs.size MX):=Heap.get?_push_at (_) rfl
 let f:(JV C::ups).contains (.ref C)=MY:=by simp
 unfold isInstance
 repeat (first|with_reducible refine wpAny_loadPart_at he ?_|(with_reducible refine wpAny_isSubtype_exc c ?_;rw[f])|wp_step)
 show Jq _ _ (typeLookup (.ref C) _) _ _ _
 refine wpAny_typeLookup_tail c d l a.mroIs a.init.lookup ?_
 rw[hi]
 refine Kl (J0 ?_)
 unfold bindSpecial
 refine J0 (wpAny_typeOf (T:="function") #[_,kp _ _ i,j] ?_)
 rw[NB ⋯]
 refine J5 (J0 (Jx (k _ kp rfl) (λr g z=>?_) λ_ _ z=>z))
 let[8,q]:=z
 wp_walk
 exact q
def wx(T:OwnTail hp PX ups)(hC:hp.get? C=MW (excClassObj cn cq C NS NR ups NT sn sub ab col dd k0 k1 k2 k3 k5 "ValueError.__new__"))(c:hp.Ns NS mN)(hi:mN "__init__"=MW (.ref fI))(d:hp.get? fI=MW oI)(e:oI.cls=.type "function")(hl:us.length<=JJ)
 {Q:J3->J4->Prop} (k:∀h',(∀b o,hp.get? b=MW o->h'.get? b=MW o)->h'=(hp.push (Cd us)).push (fE C hp.objs.size MX)->Jq (Ju prog w) (A.under (.builtin "type.__call__" #[.ref C::us,[]])) (call (.ref fI) (.ref (hp.objs.size+1)::us)) (λr f=>r=.none/\Q (.ref (hp.objs.size+1)) f) E #[h',gs,dr,tk,sys]) :
 Jq (Ju prog w) A (call (.ref C) us) Q E #[hp,gs,dr,tk,sys]:=by
 let g:=tc_lookup
 let h:=tc_bind (.ref C)
 let i:(#[hp,gs,dr,tk,sys]:J4).TypeIs (.ref C) "type":=#[_,hC,rfl]
 refine wpAny_call (codeAny_of_tree ?_)
 show Jq _ _ (callAny (.ref C) _) _ _ _
 repeat (any_goals (first|assumption|with_reducible refine wpAny_loadPart_at hC ?_|wp_step))
 refine #[8,codeAny_call_builtin_at (Code.quiet_builtin _ (by decide +kernel)) entry_typeCall (wpAny_check_type_call_sub hC (vQ T hC c hi d e hl λh' a b=>?_))]
 exact k h' a b
end
open PySem.W (Frag findIn subIn clsIn nsIn typeIn keepIn looks_findIn looks_subIn looks_clsIn Looks)
def G5{K:Frag}{h:lj}{N:k_}{mg:Str->Option J3}{n:Str}{v:J3}(X:K.In h)(G:h.Ns N mg)(e:nsIn K N n=MW (MW v)):mg n=MW v:=by
 let[o,es,ep,a,hd,_,b]:=G;unfold nsIn at e;split at e
 .rename_i ks ks' n' _ hl;have:=X _ _ hl;rw[a]at this;cases this;cases hd;rw[<-b];unfold nsFind findBy;rw[<-Array.find?_toList];split at e
  .rename_i en he;rw[he];cases e;rfl
  .split at e<;>cases e
 .cases e
structure ClsI(K:Frag)(C S fI:k_):Prop where
 lk:∃cn cq NS NR NT sn sub ab col dd k0 k1 k2 k3 k5,K.lookup C=MW (excClassObj cn cq C NS NR (.ref S::PX) NT sn sub ab col dd k0 k1 k2 k3 k5 "ValueError.__new__")/\PySem.W.nsOkIn K NS=MY/\nsIn K NS "__init__"=MW (MW (.ref fI))
 tl:PySem.W.tailIn K PX (.ref S::PX)=MY
 fn:typeIn K (.ref fI)=MW (.type "function")
 kp:keepIn K (.ref C)=MY
 hd:KJ K C=MY
 sa:findIn K (.ref C) "__setattr__"=MW (MW (.builtin "object.__setattr__"))
 ob:subIn K (.ref C) (.type "object")=MW MY
def ClsI.at{K:Frag}{C S e:k_}(c:ClsI K C S e){h:lj}(X:K.In h):∃g i b j k m sub ab a n o p q r s u f,h.get? C=MW (excClassObj g i C b j (.ref S::PX) k m sub ab a n o p q r s "ValueError.__new__")/\h.Ns b u/\u "__init__"=MW (.ref e)/\h.get? e=MW f/\f.cls=.type "function"/\OwnTail h PX (.ref S::PX):=by
 let[g,i,b,j,k,m,sub,ab,a,n,o,p,q,r,s,l,ok,w]:=c.lk;let v:h.Ns b (h.nsMap b):=.of_isNs (PySem.W.isNs_of_in X ok);let d:=c.fn;unfold typeIn at d;dsimp only at d;cases t:K.lookup e with
 |none=>rw[t]at d;cases d
 |some f=>
  rw[t]at d
  exact #[g,i,b,j,k,m,sub,ab,a,n,o,p,q,r,s,_,f,X _ _ l,v,G5 X v w,X _ _ t,Option.some.inj d,PySem.W.tail_of_in X c.tl]
section
variable{prog:Jv}{w:JP}{A:JQ}{E:J3->J4->Prop}{s:J4}{K:Frag}{C S fI a t dx:k_}{dd:Option k_}{x v:J3}{name:Str}{mA:Str->Option J3}{oe:Obj}
def vO(c:ClsI K C S fI)(X:K.In s.heap)(ha:s.heap.get? a=MW (fE C t dd)){Q:J3->J4->Prop}
 (k:∀h',(∀b o,b≠a->s.heap.get? b=MW o->h'.get? b=MW o)->h'.get? a=MW (fE C s.z dd)->Q .none { s with heap:=h' }) :
 Jq (Ju prog w) A (call (.builtin "ValueError.__init__") [.ref a,x]) Q E s:=by
 let[i,j,l,m,n,p,sub,ab,f,g,q,r,u,y,z,B,D,hC,G,hi,H,I,T]:=c.at X
 let[J,L,M,N,h]:=s
 let d:=F.excBase_ValueError
 refine wpAny_call (MF d.init.plain d.initEntry (wpAny_check_init_subU d T hC ha rfl ?_))
 wp_walk
 refine k _ (λb o ne e=>?_) ?_
 .rw[Kn _ _ (Ne.symm ne)]
  exact J6 _ e
 .rw[KC _ (J6 _ ha) rfl]
  rfl
theorem o9(ha:s.heap.get? a=MW (fE C t MX)):PySem.W.InstAt s.heap a (fE C t MX) C MX:=#[ha,8,8,trivial]
def uS{j:Obj}{od:Option Obj}{tk:Tok}{R:Result->J4->Prop}(c:ClsI K C S fI)(X:K.In s.heap)(I:PySem.W.InstAt s.heap a j C od)(k:findIn K (.ref C) name=MW MX)
 (h:Jq (Ju prog w) A.in1 (Builtin.ObjectAttr.storeInOwnDict (.ref a) (.ref C) (.str name tk) name v MZ)
  (λfin d=>match fin with|.done f=>R (.ok f) d|.again g=>g.quiet=MY/\L5 (Ju prog w) A g R d) (λe d=>R (.error e) d) s) :
 L5 (Ju prog w) A (.call (.builtin "object.__setattr__") #[[.ref a,.str name tk,v],[]]) R s:=by
 let b:=F.store_ValueError
 let[r,u,y,z,B,D,sub,ab,l,m,G,H,J,L,N,O,P,hC,_]:=c.at X
 let o:Looks (Ju prog w) s.heap (isInstance (.ref a) (.type "object")) MY:=I.type.andThen (looks_subIn X c.ob)
 refine MF b.slot.plain b.entry (PySem.W.check_slot (M:=Ju prog w) (s:=s) (i:="object.__setattr__") (owner:="object") (n:="__setattr__") (self:=.ref a) (rest:=[.str name tk,v]) (kw:=[]) b.kind b.split o (b.args (.ref a) (.str name tk) v) ?_)
 rw[PySem.W.osa_eq,refuse_eq]
 let[Q,T,U,p,q]:=s
 refine J0 (J0 (I.type.here (J0 (wpAny_mroOf_exc hC ?_))))
 rw[refuseLoop_ref,refuseLoop_ref,b.passes]
 refine J5 (J0 (I.type.here (J0 ((looks_findIn X k).here (J0 (J5 ?_))))))
 exact h
def Bh{Q:Unit->J4->Prop}(c:ClsI K C S fI)(X:K.In s.heap)(ha:s.heap.get? a=MW (fE C t MX))(m:findIn K (.ref C) name=MW MX)
 (k:∀h' g,(∀b o,b≠a->s.heap.get? b=MW o->h'.get? b=MW o)->h'.get? a=MW (fE C t (MW s.z))->h'.Ns1 s.z (λy=>if y=name then MW v else MX)->Q ⟨⟩ { s with heap:=h',toks:=g }) :
 Jq (Ju prog w) A (setAttr (.ref a) name v) Q E s:=by
 refine PySem.W.set_plain X (o9 ha) c.sa (uS (s:={ s with toks:=s.toks+1 }) c X (o9 ha) m ?_)
 let[u,n,hd]:=PySem.W.any_some c.hd
 let L:=looks_clsIn (M:=Ju prog w) X n
 let[d,z,B,D,p]:=s
 let f:a≠d.objs.size:=JH (Js ha)
 refine J0 (J5 (J0 (J0 (wpAny_loadPart ha (J0 (PySem.W.Looks.at L ?_))))))
 rw[hd]
 refine J0 (wpAny_alloc' (J0 (wpAny_update' (J6 _ ha) (J5 ?_))))
 let gd:((d.push { cls:=.type "dict",data:=.dict #[] }).update a λo=>{ cls:=o.cls,dict:=MW d.objs.size,data:=o.data,slots:=o.slots }).get? d.objs.size=MW { cls:=.type "dict",data:=.dict #[] }:=
  (Kn _ _ f).trans (Heap.get?_push_at rfl rfl)
 let nd:((d.push { cls:=.type "dict",data:=.dict #[] }).update a λo=>{ cls:=o.cls,dict:=MW d.objs.size,data:=o.data,slots:=o.slots }).Ns d.objs.size (λ_=>MX):=#[_,#[],_,gd,8,λe he=>absurd he (_),λ_=>rfl]
 show Jq _ _ (LM d.objs.size _ name v) _ _ _
 unfold LM Builtin.ObjectAttr.newKeyGuard
 refine J0 (J5 (J0 (wpAny_nsSet1 (Heap.Ns1.of_empty nd) λh' n1 l=>?_)))
 let[F,q,r,h,i,j]:=n1.count (Within.cons name v Within.nil)
 refine J0 (wpAny_lookBehind h (by rw[i];exact pastItsLine_dict (K0 j (by rw[JE,Me,Ku];omega))) ?_)
 wp_walk
 refine k h' _ (λb o ne e=>?_) ?_ n1
 .exact(l.2 b (JH (Js e))).trans ((Kn _ _ (Ne.symm ne)).trans (J6 _ e))
 .exact(l.2 a f).trans (KC _ (J6 _ ha) rfl)
theorem mL{od:Obj}(ha:s.heap.get? a=MW (fE C t (MW dx)))(hd:s.heap.get? dx=MW od):PySem.W.InstAt s.heap a (fE C t (MW dx)) C (MW od):=#[ha,8,8,hd]
def zt{ns:nj}{Q:Unit->J4->Prop}(c:ClsI K C S fI)(X:K.In s.heap)(ha:s.heap.get? a=MW (fE C t (MW dx)))(j:s.heap.Ns1 dx mA)(hw:Within mA ns)(u:ns.length<=1000)(l:findIn K (.ref C) name=MW MX)
 (k:∀h' f,(∀b o,b≠dx->s.heap.get? b=MW o->h'.get? b=MW o)->h'.Ns1 dx (λy=>if y=name then MW v else mA y)->Q ⟨⟩ { s with heap:=h',toks:=f }) :
 Jq (Ju prog w) A (setAttr (.ref a) name v) Q E s:=by
 let[od,d,_]:=ju j
 refine PySem.W.set_plain X (mL ha d) c.sa (uS (s:={ s with toks:=s.toks+1 }) c X (mL ha d) l ?_)
 let[z,m,hd]:=PySem.W.any_some c.hd
 let L:=looks_clsIn (M:=Ju prog w) X m
 let[B,D,F,G,n]:=s
 refine J0 (J5 (J0 (J0 (wpAny_loadPart ha (J0 (PySem.W.Looks.at L ?_))))))
 rw[hd]
 refine J5 (a:=MW dx) ?_
 show Jq _ _ (LM dx _ name v) _ _ _
 unfold LM Builtin.ObjectAttr.newKeyGuard
 refine J0 (J5 (J0 (wpAny_nsSet1 j λh' n1 p=>?_)))
 let[H,q,r,g,h,i]:=n1.count (Within.cons name v hw)
 refine J0 (wpAny_lookBehind g (by rw[h];exact pastItsLine_dict (K0 i (by rw[JE,Ku];omega))) ?_)
 wp_walk
 exact k h' _ (λb o ne e=>(p.2 b ne).trans e) n1
def A7{b:Bool}{Q:J3->J4->Prop}(sl:Slot "ValueError" "__getattribute__" "BaseException.__getattribute__")(X:K.In s.heap)(Z:PL K C)(j:KJ K C=MY)(ha:s.heap.get? a=MW oe)(c:oe.cls=.ref C)(d:PySem.W.notCls oe=MY)(hd:oe.dict=MW dx)(k:s.heap.Ns1 dx mA)(l:mA name=MW v)(m:findIn K (.ref C) name=MW MX)(e:PySem.W.handedIn v=MY)
 (h:Q v { s with toks:=s.toks+1 }):Jq (Ju prog w) A (getAttr (.ref a) name b) Q E s:=by
 let[od,f,hl]:=ju k
 let I:PySem.W.InstAt s.heap a oe C (MW od):=#[ha,c,d,by rw[hd];exact f]
 let n:=PySem.W.findObj_own (K:=K) (C:=C) (od:=od) j m rfl (by rw[hl,l])
 let[y,z,B,D,o]:=s
 let i:=dF (M:=Ju prog w) ha c
 let p:=looks_findIn (M:=Ju prog w) X Z.ga
 let L2:=looks_findIn (M:=Ju prog w) X Z.gt
 let q:=PySem.W.looks_find (M:=Ju prog w) X I n
 let G:=sl.bind (.ref a)
 let r:(b&&onTheHeap (LO "BaseException.__getattribute__"))=MZ:=by cases b<;>rfl
 let g:(LO "BaseException.__getattribute__"==LO "object.__getattribute__")=MZ:=by decide +kernel
 let u:(onTheHeap (JV C)&&LO "BaseException.__getattribute__"==LO "object.__getattribute__")=MZ:=by rw[g];rfl
 let H:=PySem.W.handedOut_of e
 unfold getAttr
 repeat (any_goals (first|assumption|with_reducible refine Looks.at i ?_|with_reducible refine Looks.at p ?_|with_reducible refine Looks.at L2 ?_|wp_step))
 refine MF sl.plain F.entry_bexc_ga (mG X Z ha c ?_)
 unfold LD.«object.__getattribute__»
 repeat (any_goals (first|assumption|with_reducible refine Looks.at i ?_|with_reducible refine Looks.at q ?_|wp_step))
end
def fH(a C:k_)(b:Option k_):lj->Prop:=λh=>∃t,h.get? a=MW (fE C t b)
def pN(a C:k_)(b:Option k_):lj->Prop:=λh=>∃o,h.get? a=MW o/\o.cls=.ref C/\o.dict=b/\PySem.W.notCls o=MY
def kQ(d:k_)(fs:List (Str×V)):lj->Prop:=λh=>∃mA,h.Ns1 d mA/\(∀f,iU (fs.lookup f) (mA f))/\Within mA (fs.map (·.1))
theorem XO{P:Jv}{w:JP}{H:Hp}{h:lj}{a C t:k_}{b:Option k_}(e:h.get? a=MW (fE C t b)):bB P w H h a (.ext (fH a C b)):=#[#[t,e],#[_,e],λh1 h2 z k=>let⟨t,q⟩:=z;#[t,k _ q]]
theorem Zo{P:Jv}{w:JP}{H:Hp}{h:lj}{a C:k_}{b:Option k_}(e:pN a C b h):bB P w H h a (.ext (pN a C b)):=#[e,let⟨o,q,_⟩:=e;#[o,q],λh1 h2 z k=>let⟨o,q,r⟩:=z;#[o,k _ q,r]]
theorem ZJ{P:Jv}{w:JP}{H:Hp}{h:lj}{d:k_}{fs:List (Str×V)}(e:kQ d fs h):bB P w H h d (.ext (kQ d fs)):=#[e,let⟨_,⟨o,_,_,q,_⟩,_⟩:=e;#[o,q],λh1 h2 z k=>let⟨mA,⟨o,es,ep,q,r⟩,z⟩:=z;#[mA,#[o,es,ep,k _ q,r],z]]
def cQ(P:Jv)(w:JP):QO:=λouter H s E e b=>∃a C c d,e=.ref a/\QN P w outer H d s b a C/\(∃o,b.heap.get? a=MW o/\o.dict=c)/\E (.ref C) c d
def fW(H:Hp)(a:k_):Hp:=λb=>if b=a then MX else H b
def dG{H:Hp}{a b:k_}(h:b≠a):fW H a b=H b:=by unfold fW;rw[NA h]
def sP{H:Hp}{a:k_}:fW H a a=MX:=by unfold fW;rw[NB rfl]
def sZ{H:Hp}{a b:k_}{o:HO}(h:fW H a b=MW o):b≠a/\H b=MW o:=by
 unfold fW at h;split at h
 .cases h
 .rename_i n;exact #[n,h]
section
variable{P:Jv}{w:JP}{K:J1}{mg:Str->Option J3}{base:lj}{N:nj}{qual:Str}{scope:Lq}{f:k_}{cd:J3}{A:JQ}{outer:List Env}{s:J4}{H:Hp}{E:XK}
theorem Fz{CX a:QO}{b:XK}{NK:l'}{σ:L2.St}{H1:Hp}{c:J4}(I:Inv (bg CX P w K mg base N qual scope f cd A outer s H E) NK σ H1 c):Inv (bg a P w K mg base N qual scope f cd A outer s H b) NK σ H1 c:=Inv.lO I (bg a P w K mg base N qual scope f cd A outer s H b).xe
def vq{NK:l'}{σ:L2.St}{k:Hp}{j:J4}{a C t:k_}{r:Option k_}{J:lj->Prop}(I:Inv (bg (cQ P w) P w K mg base N qual scope f cd A outer s H E) NK σ k j)(hx:k a=MW (.ext J))(B:j.heap.get? a=MW (fE C t r))(M:s.heap.get? a=MX)(q:E (.ref C) r (fW k a)) :
 (bg (cQ P w) P w K mg base N qual scope f cd A outer s H E).xe (.ref a) j:=by
 let h:∀x:k_,x∉(bg (cQ P w) P w K mg base N qual scope f cd A outer s H E).ex:=λx z=>absurd (show x∈([]:m_)from z) (_)
 let O:∀x,k x=MX->x≠a:=λx n z=>by rw[z,hx]at n;cases n
 let i:(jS j.heap (a::OG (bg (cQ P w) P w K mg base N qual scope f cd A outer s H E).stack)).StaysIn j.heap:=λb o z=>(rC z).2
 let stk:∀{x:k_}{o:Obj},s.heap.get? x=MW o->x∉OG outer->x∉a::OG (bg (cQ P w) P w K mg base N qual scope f cd A outer s H E).stack:=λ{x o} e n m=>by
  rcases JU.mp m with z|z
  .rw[z,M]at e;cases e
  .exact AM (E:=E) (Fz I) e n z
 refine Jx (Nx.any rz (wpAny_leaving_firstW (E:=λ_ _=>False) (base:=jS j.heap (a::OG (bg (cQ P w) P w K mg base N qual scope f cd A outer s H E).stack)) (outer:=outer) (L:=(bg (cQ P w) P w K mg base N qual scope f cd A outer s H E).env.locals) (a0:=.ref t) I.ok.frames (qu I.stack λb c=>gE (JC _ c)) rfl B i (gE JW) rfl rfl rfl (Q:=λ_ R=>QN P w outer H (fW k a) s R a C) λh' L=>?_)) (λ_ S z=>?_) (λ_ _ z=>z.elim)
 .obtain⟨T,⟨_,_,U⟩,V,W⟩:=L
  refine #[I.os,I.bare,#[_,_,#[T,gE JW,U,V],λx o z=>?_,λx o e1 n l=>?_,λx o e1 l=>?_],λx o e1 n D=>?_,λx o e1 n=>?_,λb xs z=>?_,λb o u z=>?_,λb ps z=>?_]
  .obtain⟨nx,z⟩:=sZ z
   refine(I.hok x o z).dg (λb u c g=>?_) (λb z=>?_) λb xs z=>?_
   .rw[eQ]
    .exact g
    .intro X
     rcases JU.mp X with y|y
     .rcases c with c|c
      .exact nx (c.symm.trans y)
      .rw[y,hx]at c;cases c
     .have:=I.gM b y
      rcases c with c|c
      .rw[c,z]at this;cases this
      .rw[c]at this;cases this
   .rw[dG (λy=>by rw[y,hx]at z;cases z)];exact z
   .rw[dG (λy=>by rw[y,hx]at z;cases z)];exact z
  .rw[eQ (stk e1 l)]
   exact I.base.keep x o e1 n l (h x)
  .rw[eQ (stk e1 l)]
   exact I.base.there x o e1 (h x)
  .obtain⟨sl,g⟩:=I.base.slot x o e1 n D (h x)
   let[G,p,d]:=ko I.fB D
   rw[g]at p;cases p
   let[v,Y]:=W x _ g d
   exact #[v,Y]
  .have:=I.base.free x o e1 n (h x)
   rw[dG (O x this)];exact this
  .have:=I.base.tups b xs z
   rw[dG (λy=>by rw[y,hx]at this;cases this)];exact this
  .have:=I.base.frzs b o u z
   rw[dG (λy=>by rw[y,hx]at this;cases this)];exact this
  .obtain⟨more,this⟩:=I.base.tbls b ps z
   exact #[more,by rw[dG (λy=>by rw[y,hx]at this;cases this)];exact this]
 .obtain⟨F,sd⟩:=z
  let[G,p,Z]:=sd a _ B
  exact #[a,C,r,7,F,#[G,p,Z],q]
end
section
variable{X:Cx}{k:Nat}{fI C S:k_}{fd:MA}{ps:nj}{sp:Sp}{c:Str}{np NO pos:Pos}{e:l_}{es:m3}{t:TA}
def AV{NK:l'}{σ:L2.St}{H:Hp}{s:J4}{Q:VK}{us:List J3}{vs:n7}(M:ClsI X.K C S fI)(F:Np X.prog X.w X.K X.mg X.base Oa k fI fd ps sp)(z:Nd (k+1) X.A)(B:Binds X.K fd ps [])(I:Inv X NK σ H s)(r:Vals vs us)(hl:us.length<=JJ)
 (h:∀a,H a=MX->sp (.ref a::vs) (upd H a (.ext (fH a C MX))) (λv i=>v=.non/\Q (.ref a) i) E0) :
 Jq (Ju X.prog X.w) X.A (call (.ref C) us) (λu o=>∃a i,u=.ref a/\s.heap.get? a=MX/\Inv X NK σ i o/\Q (.ref a) i) X.xe s:=by
 let[Y,Z,NS,NR,NT,sn,sub,ab,D,dd,k0,k1,k2,k3,k5,mN,oI,hC,E,hi,G,J,T]:=M.at I.kIn
 let p:=h (s.z+1) (I.hok.fresh (MC _))
 let[d,q,x,j,f]:=s
 refine wx T hC E hi G J hl λl kp L=>?_
 let he:l.get? (d.objs.size+1)=MW (fE C d.objs.size MX):=by rw[L];exact Heap.get?_push_at (_) rfl
 let m:Inv X NK σ (upd H (d.objs.size+1) (.ext (fH (d.objs.size+1) C MX))) #[l,q,x,j,f]:=I.laid (t':=j) kp (MC _) (XO he)
 let y:Vals (V.ref (d.objs.size+1)::vs) (JV (d.objs.size+1)::us):=.cons rfl r
 let n:((JV (d.objs.size+1)::us)++[]).length=ps.length:=by rw[KP,<-y.length];exact F.len _ _ _ _ p
 let g:=B #[l,q,x,j,f] (JV (d.objs.size+1)::us) m.kIn n
 rw[KP]at g
 refine wpAny_call (MB (F.run _ X.stack _ _ #[JV (d.objs.size+1)::us,[]] (JV (d.objs.size+1)::us) _ _ E0 (z.make C us []) (m.yf.make C us []) g y p) λr o b=>?_)
 cases r with
 |error e=>exact JK b
 |ok N=>
  cases N with
  |ret u=>
   let[v,O,P,R,U,W]:=m.after b
   subst U
   exact #[R,_,O,8,Heap.get?_none_of_le (MC _),P,W]
  |next=>exact JK b
  |brk=>exact JK b
  |cont=>exact JK b
def AF(d:X.ex=[]){NK:l'}{σ:L2.St}{H:Hp}{s:J4}{Q:VK}(M:ClsI X.K C S fI)(F:Np X.prog X.w X.K X.mg X.base Oa k fI fd ps sp)(m:Nd (k+1) X.A)(n:Binds X.K fd ps [])(p:Gl X c)(x:X.mg c=MW (.ref C))(ha:PA X (e::es) t)(f:(c==("__debug__":Str))=MZ)(he:Jz (e::es) X.env=(MZ,eval e X.env)::Jz es X.env)(i:(Lh NO (Jz es X.env)).any (·.1)=MZ)(I:Inv X NK σ H s) (h:t σ H λvs H1=>vs.length<=JJ/\∀a,H1 a=MX->sp (.ref a::vs) (upd H1 a (.ext (fH a C MX))) (λv b=>v=.non/\Q (.ref a) b) E0) : Jq (Ju X.prog X.w) X.A (eval (.Call (.Name c np) (e::es) [] NO) X.env) (λu l=>∃a b,u=.ref a/\X.s₀.heap.get? a=MX/\Inv X NK σ b l/\Q (.ref a) b) X.xe s:=by
 refine Lx (ft I p x ?_ f);refine PySem.W.callWith_K (h₀:=X.base) I.ok.mod.kin M.kp (Nf (ha NO NK s σ H _ I h) λus G ⟨vs,H1,j,r,hl,q⟩=>#[j.kIn,?_]) he i;refine Nf (AV (us:=us) M F m n j r (by rw[<-r.length];exact hl) q) λu l ⟨a,b,y,B,D,E⟩=>#[a,b,y,?_,D,E];cases z:X.s₀.heap.get? a with
 |none=>rfl
 |some o=>
  let[J,g]:=j.base.there a o z (by rw[d];simp)
  rw[B]at g;cases g
def IX(C:k_)(sp:Sp)(t:TA):TE:=λσ H Q=>t σ H λvs H1=>vs.length<=JJ/\∀a,H1 a=MX->sp (.ref a::vs) (upd H1 a (.ext (fH a C MX))) (λv b=>v=.non/\Q (.ref a) b) E0
end
section
variable{M:Model}{A:JQ}{E:J3->J4->Prop}{s:J4}{env:Env}{K:J1}
def wt{x:Sem J3}{Q:PySem.Flow->J4->Prop}(f:A.handled=MX)
 (h:Jq M A x (λv b=>∃a C t e c,v=.ref a/\b.heap.get? a=MW (fE C t e)/\(b.heap.get? C=MW c/\c.cls=.type "type")/\K.In b.heap/\Kc K (.ref C) (.type "BaseException")=MW MY/\E (.ref a) b) E s):Jq M A (raiseStmt env (MW x) MX) Q E s:=by
 unfold raiseStmt
 refine J0 (Jx h (λv b z=>?_) λ_ _ z=>z)
 obtain⟨a,C,t,e,c,rfl,ha,⟨hC,d⟩,X,g,q⟩:=z
 let i:=dF (M:=M) ha rfl
 let j:=PySem.W.looks_subIn (M:=M) X g
 let[l,m,n,o,k]:=b
 unfold excFromValue isExcClass isType isInstance
 repeat (first|with_reducible refine wpAny_loadPart_at ha ?_|(with_reducible refine wpAny_loadPart_at hC ?_;rw[d])|with_reducible refine PySem.W.Looks.at i ?_|with_reducible refine PySem.W.Looks.at j ?_|wp_step)
 exact wpAny_raiseNew_none f q
end
section
variable{P:Jv}{w:JP}{K:J1}{mg:Str->Option J3}{base:lj}{N:nj}{qual:Str}{scope:Lq}{f:k_}{cd:J3}{A:JQ}{outer:List Env}{s:J4}{H:Hp}{E:XK}
variable{k:Nat}{fI C S:k_}{fd:MA}{ps:nj}{sp:Sp}{c:Str}{np NO pos:Pos}{e:l_}{es:m3}{t:TA}
def vZ(M:ClsI K C S fI)(l:Kc K (.ref C) (.type "BaseException")=MW MY)(F:Np P w K mg base Oa k fI fd ps sp)(m:Nd (k+1) (bg (cQ P w) P w K mg base N qual scope f cd A outer s H E).A)(n:Binds K fd ps [])(o:Gl (bg (cQ P w) P w K mg base N qual scope f cd A outer s H E) c)(p:mg c=MW (.ref C))(ha:PA (bg (cQ P w) P w K mg base N qual scope f cd A outer s H E) (e::es) t)(i:(c==("__debug__":Str))=MZ) (he:Jz (e::es) (bg (cQ P w) P w K mg base N qual scope f cd A outer s H E).env=(MZ,eval e (bg (cQ P w) P w K mg base N qual scope f cd A outer s H E).env)::Jz es (bg (cQ P w) P w K mg base N qual scope f cd A outer s H E).env) (j:(Lh NO (Jz es (bg (cQ P w) P w K mg base N qual scope f cd A outer s H E).env)).any (·.1)=MZ) : PS (bg (cQ P w) P w K mg base N qual scope f cd A outer s H E) (.Raise (MW (.Call (.Name c np) (e::es) [] NO)) MX pos) (λD σ H1=>IX C sp t σ H1 λv d=>∃a b,v=.ref a/\d a=MW (.ext (fH a C b))/\E (.ref C) b (fW d a)):=by intro NK y σ H1 D I q;rw[arm_exec_Raise];refine J0 (KN (wt (K:=K) (I.ok.hd rfl) (J0 (Jx (AF (Q:=λv d=>∃a b,v=.ref a/\d a=MW (.ext (fH a C b))/\E (.ref C) b (fW d a)) rfl M F m n o p ha i he j I q) (λu B z=>J0 (KN (J5 ?_))) λ_ _ z=>z))));let[a,d,8,r,h,G,b,ea,hx,x]:=z;cases ea;obtain⟨⟨t0,g⟩,_⟩:=h.hok a _ hx;let[_,_,_,_,_,_,_,_,_,_,_,_,_,_,_,_,_,hC,_]:=M.at h.kIn;exact #[a,C,t0,b,7,g,#[hC,rfl],h.kIn,l,vq h hx g r x]
end
theorem Nx.use{b:Type}{t:Sem b}(k:Nx t){M:Model}{A:JQ}{Q:b->J4->Prop}{E:J3->J4->Prop}{s:J4}(h:Jq M A t (λa c=>iM s.heap c.heap->Q a c) E s):Jq M A t Q E s:=Jx (Nx.any k h) (λ_ _ z=>z.1 z.2) λ_ _ z=>z.elim
def EW(X:Cx)(body:mv)(tR:TR):Prop:=
 ∀(NK:l')(s:J4)(σ:L2.St)(H:Hp)(E:Hp->XK),Inv X NK σ H s->tR σ H E->Jq (Ju X.prog X.w) X.A (execs body X.env) (λ_ _=>False) (λe b=>∃H1 a,Inv X NK σ H1 a/\cQ X.prog X.w X.stack H1 a (E H1) e b) s
def EZ(X:Cx)(ex:l_)(tR:TR):Prop:=
 ∀(NK:l')(s:J4)(σ:L2.St)(H:Hp)(E:Hp->XK),Inv X NK σ H s->tR σ H E->Jq (Ju X.prog X.w) X.A (eval ex X.env) (λ_ _=>False) (λe b=>∃H1 a,Inv X NK σ H1 a/\cQ X.prog X.w X.stack H1 a (E H1) e b) s
section
variable{Y:Cx}{k:Nat}{f:k_}{fd:MA}{ps:nj}{sp:Sp}{x:Str}{p pos:Pos}{e:l_}{es:m3}{t:TA}
def xu(F:Np Y.prog Y.w Y.K Y.mg Y.base (cQ Y.prog Y.w) k f fd ps sp)(j:Nd k Y.A)(l:Gl Y.nox x)(m:Y.mg x=MW (.ref f))(n:Kz Y.K (.ref f)=MY)(o:Binds Y.K fd ps [])
 (ha:PA Y.nox (e::es) t) (d:(x==("__debug__":Str))=MZ) (he:Jz (e::es) Y.env=(MZ,eval e Y.env)::Jz es Y.env) (g:(Lh pos (Jz es Y.env)).any (·.1)=MZ) :
 EZ Y.nox (.Call (.Name x p) (e::es) [] pos) (λσ H E=>t σ H λvs H1=>sp vs H1 (λ_ _=>False) (E H1)):=by
 intro NK s σ H E I h
 refine Lx (ft I l m ?_ d)
 refine PySem.W.callWith_K (h₀:=Y.base) I.ok.mod.kin n (Nf (Jx (ha pos NK s σ H _ I h) (λ_ _ z=>z) (λ_ _ z=>z.elim)) λus i ⟨vs,H1,c,r,q⟩=>#[c.kIn,?_]) he g
 let hl:(us++[]).length=ps.length:=by rw[KP,<-r.length];exact F.len _ _ _ _ q
 let a:=o i us c.kIn hl
 rw[KP]at a
 refine wpAny_call (MB (F.run Y.A Y.stack i H1 #[us,[]] us vs _ (E H1) j c.yf a r q) λr B b=>?_)
 cases r with
 |error e=>exact #[H1,i,c,b]
 |ok y=>
  cases y with
  |ret u=>let[v,C,_,_,_,_,_,z]:=b;exact z.elim
  |next=>exact JK b
  |brk=>exact JK b
  |cont=>exact JK b
def B5{ex:l_}{tR:TR}{y:Str}{a:Pos}(h:EZ Y.nox ex tR)(hs:LW ex (MW (.Name y a)) pos.line Y.env=pure MZ):EW Y.nox [.Assign [.Name y a] ex pos] tR:=by intro NK s σ H E I q;refine wpAny_execs_cons (Q:=λ_ _=>False) (Nf (Q:=λ_ _=>False) ?_ λf b z=>z.elim);exact wpAny_Assign_Name (Nf (h NK s σ H E I q) λv b z=>z.elim) hs
end
def G7(K:J1)(S:k_)(j:Nat)(tb:TS)(tR:TR)(th:TS):TS:=λD σ H=>tb D σ H\/
 tR σ H λH1 c d b=>∃C,c=.ref C/\Kc K (.ref C) (.ref S)=MW MY/\(Nb K H1 b->∀a,b a=MX->th (gone j D) (σ.set j (MW (.ref a))) (upd b a (.ext (pN a C d))))
def BP{Y:Cx}{body:mv}{k:lb}{bs:mv}{c n:Str}{cp hp g0:Pos}{j:Nat}{S:k_}{tb:TS}{tR:TR}{th:TS} (A:Y.stack=Y.env::Y.outer) (h0:Y.env.frame=MW Y.env.locals) (i0:Y.ex=[]) (hN:Y.N.Nodup) (hj:Y.N[j]?=MW n) (U:Y.env.scope.names.lookup n=MW .local) (hg:Gl Y.nox c) (hm:Y.mg c=MW (.ref S)) (j0:(c==("__debug__":Str))=MZ) (hS:MJ Y.K S PX "ValueError.__new__"=MY) (hB:Kc Y.K (.ref S) (.type "BaseException")=MW MY) (hb:PK Y.nox body tb) (hr:EW Y.nox body tR) (hh:∀a,PK (hold Y.nox a) (k::bs) th) : PS Y.nox (.Try body [.ExceptHandler (MW (.Name c cp)) (MW n) (k::bs) hp] [] [] g0) (G7 Y.K S j tb tR th):=by
 intro NK s σ H D I h;refine wpAny_Try_except ?_;rcases h with h|h
 .refine Jx (hb NK s σ H D I h) (λy s1 q=>?_) (λ_ _ z=>z.elim);cases y with
  |next=>exact wpAny_execs_nil q
  |brk=>exact q
  |cont=>exact q
  |ret u=>exact q
 .refine Jx (hr NK s σ H _ I h) (λ_ _ z=>z.elim) λe V B=>?_;obtain⟨H1,s1,i,a,C,dd,H',he,F,⟨oD,gD,dD⟩,C',hC,b0,q⟩:=B;subst he;cases hC;let[b,a0,y,hok,kp,k0]:=id F.bs;let l0:V.heap.FunFrames b (Y.env::Y.outer):=by rw[<-A];exact y.2.2.1
  let mk:∀t:lj,b.StaysIn t->t.FunFrames b (Y.env::Y.outer)->t.TracedW b a (.ref C) a0->(∀x o,V.heap.get? x=MW o->(∀vs:Array J3,o.data≠.fields vs)->∃sl,t.get? x=MW { o with slots:=sl })->QN Y.prog Y.w Y.stack H1 H' s1 { V with heap:=t } a C:=
   λt c1 c2 c3 c4=>#[F.os,F.bare,#[b,a0,#[c1,y.2.1,by rw[A];exact c2,c3],hok,kp,k0],λx o e n m=>by
    let[sl,g]:=F.slot x o e n m
    let[o',E,d]:=ko y.2.2.1 m
    rw[g]at E;cases E
    let[m0,g2]:=c4 x _ g d
    exact #[m0,g2],F.free,F.tups,F.frzs,F.tbls]
  refine Nx.use ux (wpAny_noteFrame_onW (base:=b) (outer:=Y.outer) (L:=Y.env.locals) (by rw[<-A];exact i.ok.frames) l0 h0 y.2.2.2 y.1 y.2.1 λh2 nt O2=>?_);refine Nx.use fh (wpAny_setFlight_noneW (base:=b) (l:=Y.env::Y.outer) nt.1 nt.2.1 nt.2.2.1 λt Pr c0 G d0 n0=>?_);let F3:=mk t Pr c0 G λx o e d=>by let[sl,g]:=nt.2.2.2 x o e d;exact #[sl,d0 x _ g d]
  let I3:Inv Y.nox NK σ H' { V with heap:=t }:=i.pD F3.os (F3.un i.gM) F3.hok F3.bare (ch:=[]) (λb z=>absurd z (_));refine wpAny_handleBy_cons (codeAny_handlers_test ?_) (by intro z;cases z);refine ft (X:=hold Y.nox a) (qx I3) hg hm ?_ j0;obtain⟨oe,vs,T,oT,ts,ho,⟨M,_⟩,_⟩:=id G;refine pQ (K:=Y.K) I3.kIn ho M hS hB b0 ?_;show L5 _ _ (Code.handlers (.ref a) [.ExceptHandler MX (MW n) (k::bs) hp] Y.env) _ _;refine codeAny_handlers_suite_as ?_;refine Nx.use fh (wpAny_setFlight_noneW (base:=b) (l:=Y.env::Y.outer) Pr c0 (show t.TracedAtW b a (.ref C) a0 Lg from G) λh4 PY o0 e0 q0 r0=>?_);let Z:=mk h4 PY o0 e0 λx o e d=>by let[sl,g]:=nt.2.2.2 x o e d;exact #[sl,q0 x _ (d0 x _ g d) d]
  let I4:Inv Y.nox NK σ H' { V with heap:=h4 }:=i.pD Z.os (Z.un i.gM) Z.hok Z.bare (ch:=[]) (λb z=>absurd z (_));let O:∀x:k_,x∉Y.nox.ex:=λx z=>by rw[show Y.nox.ex=[]from i0]at z;simp at z
  let I5:Inv Y.nox NK σ (upd H' a (.ext (pN a C dd))) { V with heap:=h4 }:=by
   refine lV I4 Z.new (λo e n=>?_) (λz=>?_) (λx c e z=>?_) (λp hp z=>?_) ?_
   .obtain⟨sl,g⟩:∃sl,s1.heap.get? a=MW { o with slots:=sl }:=by
     by_cases mf:a∈Y.nox.fs
     .exact i.base.slot a o e n mf (O a)
     .exact #[o.slots,i.base.keep a o e n mf (O a)]
    exact F.apart g (i.base.free a o e n (O a)) rfl
   .obtain⟨m,⟨o,_,_,g,_⟩,_⟩:=i.loc;exact F.apart g i.free z.symm
   .obtain⟨v,o,g,_⟩:=i.cell x c e;exact F.apart g (i.freeC x c e) z
   .obtain⟨g,n,_⟩:=i.pin p hp;exact F.apart g n z
   .obtain⟨oe,vs,T,oT,ts,ho,⟨M,_⟩,s0,_⟩:=id e0;let[o',E,d']:=(O2.trans (n0.trans r0)) a oD gD;let E:h4.get? a=MW o':=E;rw[ho]at E;cases E;exact Zo #[oe,ho,M,d'.trans dD,by unfold PySem.W.notCls;rw[s0]]
  refine fY (X:=Y.nox) (v:=.ref a) I5 hN hj (.inl U) rfl (λs6 I6=>?_) (.inr U);refine Jx (hh a NK s6 _ _ (gone j D) (qx I6) (q (BC (F.un i.gM)) a Z.new)) (λf s7 hs=>?_) (λ_ _ z=>z.elim);show Jq _ _ (do bindName Y.env n Lg;unbindBehindTheSuite Y.env n hp) (λ_ f0=>SP Y.nox NK D f f0) _ s7;cases f with
  |next=>let[P,Q,J,z]:=hs;exact gN (X:=Y.nox) (fD (X:=Y.nox) I.ok J) hN hj U λs8 R=>#[_,Q,R,z]
  |brk=>let[P,Q,J,z]:=hs;exact gN (X:=Y.nox) (fD (X:=Y.nox) I.ok J) hN hj U λs8 R=>#[_,Q,R,z]
  |cont=>let[P,Q,J,z]:=hs;exact gN (X:=Y.nox) (fD (X:=Y.nox) I.ok J) hN hj U λs8 R=>#[_,Q,R,z]
  |ret u=>let[v,P,Q,J,r,z]:=hs;exact gN (X:=Y.nox) (fD (X:=Y.nox) I.ok J) hN hj U λs8 R=>#[v,_,Q,R,r,z]
open PySem.W (findIn)
section
variable{X:Cx}
def Part(X:Cx)(e:l_)(c:L2.St->Hp->Prop):Prop:=∀(NK:l')(s:J4)(σ:L2.St)(H:Hp),Inv X NK σ H s->c σ H->Jq (Ju X.prog X.w) X.A (eval e X.env) (λv a=>∃x t,v=.str x t/\x.length<=1000/\Inv X NK σ H a) X.xe s
def Parts(X:Cx):m3->(L2.St->Hp->Prop)->Prop
 |[],c=>∀σ H,c σ H
 |e::es,c=>∃a b,Part X e a/\Parts X es b/\∀σ H,c σ H->a σ H/\b σ H
theorem yY{x:Str}{j}{p:Pos}(h:x.length<=1000):Part X (.Constant (.str x) j p) (λ_ _=>True):=λNK s σ H I _=>Calls.Constant_str #[x,7,h,I.tok _]
def xh(i:Int)(h:i.natAbs<10^200):(Km (toString i)).length<=1000:=by
 let key:∀n:Nat,n<10^200->((Nat.repr n).toList.map Char.toNat).length<=200:=λn h=>by rw[Nat.toList_repr,J7];exact(Nat.length_toDigits_le_iff (b:=10) (k:=200) ⋯ ⋯).mpr h
 let e:(Km (toString i)).length=(Km (toString i)).cps.toList.length:=by simp[PySem.Str.length]
 rw[e,signs_ofString];cases i with
 |ofNat n=>exact K0 (key n h) ⋯
 |negSucc n=>
  show(("-"++Nat.repr (n+1)).toList.map Char.toNat).length<=1000
  have:=key (n+1) h
  simp only[String.toList_append,Kr,Ki]
  let z:("-".toList.map Char.toNat).length=1:=⋯
  omega
def Small(v:V):Prop:=v=.non\/∃i:Int,v=.int i/\-(10^40)<i/\i<10^40
def yZ{e:l_}{te:TE}{p:Pos}(he:PE X e te):Part X (.FormattedValue e (-1) MX p) (λσ H=>te σ H λv H1=>H1=H/\Small v):=by
 intro NK s σ H I h;refine wpAny_FormattedValue_plain (Nf (he NK s σ H _ I h) λv g z=>?_);let[x,H1,a,b,c,d]:=z;subst c;rcases d with rfl|⟨i,rfl,h0,h1⟩
 .cases (show v=Lg from b);exact wpAny_formatField_none #[_,7,by decide +kernel,a.tok _]
 .obtain⟨t,rfl⟩:=(show ∃t,v=KZ i t from b)
  let f:i.natAbs.log2<1920:=by
   have:i.natAbs<2^200:=()
   by_cases z:i.natAbs=0
   .rw[z];decide
   .exact Nat.lt_trans ((Nat.log2_lt z).mpr this) ⋯
  exact wpAny_formatField_int f #[_,7,xh i (),a.tok _]
theorem pM{NK:l'}{Q:VK}{σ:L2.St}{H:Hp}:∀{es:m3}{b:List (Sem J3)} {c:L2.St->Hp->Prop} {a:Str} {s:J4},b=es.map (λe=>eval e X.env)->Parts X es c->c σ H->Inv X NK σ H s->a.length+1000*es.length<=JJ->(∀m,Q (.str m) H)->
 Joins (Ju X.prog X.w) X.A X.xe b a (λout d=>out.length<=JJ/\EP X NK σ Q (.str out d.toks) { d with toks:=d.toks+1 }) s
 |[],b,c,a,s,et,hp,hc,I,hl,q=>by
  subst et
  exact #[‹hl›,.str a,H,I.tok _,#[_,rfl],q _]
 |e::es,b,c,a,s,et,hp,hc,I,hl,q=>by
  subst et
  let[j,k,h1,h2,f]:=hp
  let[g,h]:=f σ H hc
  refine Jx (h1 NK s σ H I g) (λv d z=>?_) λ_ _ z=>z
  let[x,t,8,l,i]:=z
  let la:(a++x).length=a.length+x.length:=PySem.Str.length_append a x
  rw[JE]at hl
  exact #[x,t,8,(),pM rfl h2 h i () q]
def GR(c:L2.St->Hp->Prop):TE:=λσ H Q=>c σ H/\∀m,Q (.str m) H
def Ay{e1 e2:l_}{es:m3}{p:Pos}{c:L2.St->Hp->Prop}(h:Parts X (e1::e2::es) c)(hl:es.length<=10)(he:evalEach (e1::e2::es) X.env=(e1::e2::es).map (λe=>eval e X.env)):PE X (.JoinedStr (e1::e2::es) p) (GR c):=by
 intro NK s σ H Q I q;refine wpAny_JoinedStr ?_
 have:(Str.empty).length+1000*(e1::e2::es).length<=JJ:=by
  let z:20000<=JJ:=Ng rfl
  let y:(Str.empty).length=0:=rfl
  simp only[JE];omega
 exact pM he h q.1 I this q.2
end
section
variable{X:Cx}{S:k_}{c:Str}{a1 a2:l_}{np apos NO pos:Pos}{t:TA}
structure ClsB(K:J1)(S:k_):Prop where
 ga:PySem.W.specialIn K (.ref S) "__getattribute__"=MW (MW (.builtin "type.__getattribute__"))
 rd:PySem.W.readsIn K S (.type "type")=MY
 fi:PySem.W.findCls K (.ref S) (.type "type") "__init__"=MW (.val (.builtin "ValueError.__init__"))
def CU(K:J1)(S:k_)(t:TA):TE:=λσ H Q=>t σ H λvs H1=>∃a x C d b,vs=[.ref a,.str x]/\ClsI K C S d/\H1 a=MW (.ext (fH a C b))/\Q .non (upd H1 a (.ext (fH a C b)))
def Cg{pl:Sem Bool}(B:ClsB X.K S)(p:Gl X c)(v:X.mg c=MW (.ref S))(ha:PA X [a1,a2] t)(l:(c==("__debug__":Str))=MZ)(d:Jz [a1,a2] X.env=(MZ,eval a1 X.env)::Jz [a2] X.env)(m:(Lh NO (Jz [a2] X.env)).any (·.1)=MZ)
 (ht:eval (.Call (.Attribute (.Name c np) "__init__" apos) [a1,a2] [] NO) X.env=(do
  let ov <-eval (.Name c np) X.env
  ML apos.atName
  let(f,first) <-holding [ov] (getMethod ov "__init__" pl)
  callWith NO f first (Lh NO (Jz [a1,a2] X.env)) (backToKw NO (keywordEach [] X.env)))):PE X (.Call (.Attribute (.Name c np) "__init__" apos) [a1,a2] [] NO) (CU X.K S t):=by
 intro NK s σ H Q I h
 refine PySem.W.methodCall_KW (pl:=pl) (ft I p v ?_ l) ht
 refine PySem.W.method_cls I.kIn B.ga (PySem.W.cls_value I.kIn B.rd B.fi rfl ?_)
 let w:=I.tok (s.toks+1)
 let i:((Lh NO (Jz [a1,a2] X.env)).any (·.1)||false)=MZ:=by rw[d];show((MZ||(Lh NO (Jz [a2] X.env)).any (·.1))||false)=MZ;rw[m];rfl
 let j:=ha NO NK _ σ H _ w h
 rw[d]at j i ⊢
 refine PySem.W.callWith_of (P:=λh=>X.K.In h) i (λh _=>#[.machine,.inr (.inl rfl),.now]) (Calls.evalArgs_plain (Nf j λus y z=>?_))
 let[vs,H1,k,r,a,x,C,F,G,A,M,hx,q]:=z
 subst A
 let[D,J,8,n,E]:=vals2 r
 cases (show D=JV a from n)
 exists k.kIn
 obtain⟨⟨t0,g⟩,_⟩:=k.hok a _ hx
 refine vO M k.kIn g λL kp o=>#[.non,_,k.write (x:=a) (e:=a) (t':=y.toks) (by rw[hx];exact Lm) (.inl rfl) (λb u ne e=>kp b u ne e) #[_,o] (XO o),8,q]
end
section
variable{X:Cx}{o value:l_}{f:Str}{pos pos':Pos}{ta tv:TE}
def Dr(K:J1)(ta tv:TE)(f:Str):TS:=λD σ H=>tv σ H λy H1=>ta σ H1 λx c=>∃a C S d,x=.ref a/\ClsI K C S d/\findIn K (.ref C) f=MW MX/\
 ((c a=MW (.ext (fH a C MX))/\∀b,c b=MX->D.nx σ (upd (upd c a (.ext (fH a C (MW b)))) b (.ext (kQ b [(f,y)]))))\/
  ∃b fs,c a=MW (.ext (fH a C (MW b)))/\c b=MW (.ext (kQ b fs))/\fs.length<=900/\D.nx σ (upd c b (.ext (kQ b (d8 f y fs)))))
def BJ(ha:PE X o ta)(P:PE X value tv)(hs:LW value (MW (.Attribute o f pos')) pos.line X.env=pure MZ):PS X (.Assign [.Attribute o f pos'] value pos) (Dr X.K ta tv f):=by
 intro NK s σ H D I h;refine plainObj_wpAny_Assign_Attribute (Nf (P NK s σ H _ I h) λu Q ⟨y,H1,R,G,q⟩=>Nf (ha NK Q σ H1 _ R q) λT i z=>?_) hs;let[x,t,d,U,a,C,S,Z,ex,M,J,j]:=z;subst ex;obtain rfl:T=JV a:=U;rcases j with⟨hx,j⟩|⟨w,fs,hx,k,hl,j⟩
 .obtain⟨⟨t0,g⟩,_⟩:=d.hok a _ hx;let m:t i.z=MX:=d.hok.fresh (Jo _);let ne:i.z≠a:=λz=>by rw[z,hx]at m;cases m
  refine Bh M d.kIn g J λL l kp N n1=>?_;let V:Inv X NK σ (upd t a (.ext (fH a C (MW i.z)))) { i with heap:=L,toks:=l }:=d.write (x:=a) (e:=a) (by rw[hx];exact Lm) (.inl rfl) (λb u A e=>kp b u A e) #[_,N] (XO N);refine #[σ,_,?_,j _ m];let B:upd t a (.ext (fH a C (MW i.z))) i.z=MX:=by rw[ay ne];exact m
  refine lV V B (λo e n=>?_) (λz=>?_) (λx c e z=>?_) (λp W z=>?_) (ZJ #[_,n1,λg=>?_,λg E=>?_])
  .exact absurd (JF (Js e) d.sz) (KS _)
  .exact absurd (z▸d.lt) (KS _)
  .obtain⟨v,o,F,_⟩:=d.cell x c e;exact absurd (z▸Js F) (KS _)
  .obtain⟨F,_⟩:=d.pin p W;exact absurd (z▸Js F) (KS _)
  .show iU (LQ g [(f,y)]) (if g=f then MW u else MX);by_cases z:g=f
   .subst z;rw[NB rfl];simp only[LQ,beq_self_eq_true];exact G
   .rw[NA z];have:(g==f)=MZ:=beq_eq_false_iff_ne.mpr z;simp only[LQ,this];exact Lm
  .by_cases z:g=f
   .subst z;simp
   .exact absurd (show(if g=f then MW u else MX)=MX by rw[NA z]) E
 .obtain⟨⟨t0,g⟩,_⟩:=d.hok a _ hx;obtain⟨⟨mA,Y,r,O⟩,_⟩:=d.hok w _ k;refine zt M d.kIn g Y O (by rw[J7];omega) J λL l kp n1=>#[σ,_,d.write (x:=w) (e:=w) (by rw[k];exact Lm) (.inl rfl) (λb u A e=>kp b u A e) (let⟨o,_,_,e,_⟩:=n1;#[o,e]) (ZJ #[_,n1,λg=>?_,λg E=>?_]),j]
  .show iU ((d8 f y fs).lookup g) (if g=f then MW u else mA g);rw[gG];by_cases z:g=f
   .rw[NB z,NB z];exact G
   .rw[NA z,NA z];exact r g
  .by_cases z:g=f
   .rw[z];exact(eN f y fs).1
   .refine(eN f y fs).2 g (O g λy=>E ?_);show(if g=f then MW u else mA g)=MX;rw[NA z];exact y
structure Rp(K:J1)(C:k_)(f:Str):Prop where
 c:PL K C
 hd:KJ K C=MY
 no:findIn K (.ref C) f=MW MX
def GC(K:J1)(ta:TE)(f:Str):TE:=λσ H Q=>ta σ H λx H1=>∃a C b fs v c,x=.ref a/\H1 a=MW (.ext c)/\(∀h,c h->pN a C (MW b) h)/\H1 b=MW (.ext (kQ b fs))/\Rp K C f/\fs.lookup f=MW v/\Q v H1
def CC(he:PE X o ta)(i:LB o f X.env (eval o X.env)=eval o X.env):PE X (.Attribute o f pos) (GC X.K ta f):=by intro NK s σ H Q I h;refine uh i (Nf (he NK s σ H _ I h) λu A z=>?_);let[x,H1,b,j,a,C,k,fs,v,B,ex,ea,m,n,Z,l,q]:=z;subst ex;obtain rfl:u=JV a:=j;let[p,_]:=b.hok a _ ea;let[D,g,t,hd,d]:=m _ p;obtain⟨⟨mA,w,r,_⟩,_⟩:=b.hok k _ n;let[u,y,e]:=iU.some_of (v:=v) (o:=mA f) (by rw[<-l];exact r f);exact A7 F.excAttr_ValueError.ga b.kIn Z.c Z.hd g t d hd w y Z.no (m6 e) #[v,H1,b.tok _,e,q]
end
inductive Qv(ns:nj):D->Prop
 |non (h:ns.length=2:=by rfl):Qv ns .non
 |int {i:Int} (h0:-(10^40)<i) (h1:i<10^40):Qv ns (.int i)
def Yw(ns:nj)(v:V):Prop:=Small v/\(ns.length=2\/∃i,v=.int i)
def sV:D->V
 |.int i=>.int i
 |_=>.non
def Qv.rep{ns:nj}{K:J1}{H:Hp}{d:D}{v:V}(h:Qv ns d)(r:Rep K H d v):v=sV d/\Yw ns v:=by
 cases h with
 |non h=>rw[Rep]at r;exact #[r,.inl r,.inl h]
 |int h0 h1=>rw[Rep]at r;exact #[r,.inr #[_,r,h0,h1],.inr #[_,r]]
def Qv.back{ns:nj}{K:J1}{H:Hp}{d:D}(h:Qv ns d):Rep K H d (sV d):=by
 cases h with
 |non=>rw[Rep];rfl
 |int h0 h1=>rw[Rep];rfl
def jX(C:k_)(c:Option k_):MO:=.gen λK H a=>∃b,H a=MW (.ext b)/\∀h,b h->pN a C c h
def wM(fs:List (Str×D)):MO:=.gen λK H d=>H d=MW (.ext (kQ d (fs.map λp=>(p.1,sV p.2))))
theorem Ij{K:J1}{H:Hp}{a C:k_}{c:Option k_}{b:lj->Prop}(h:H a=MW (.ext b))(k:∀h,b h->pN a C c h):iI K H a (jX C c):=#[#[b,h,k],by rw[h];simp,λd g e=>#[b,e.trans h,k]]
theorem IE{K:J1}{H:Hp}{d:k_}{fs:List (Str×D)}(h:H d=MW (.ext (kQ d (fs.map λp=>(p.1,sV p.2))))):iI K H d (wM fs):=#[h,by rw[h];simp,λa g e=>e.trans h]
theorem Nc.HC{K:J1}{H:Hp}{M:MH}{p:k_}{o:HO}{m:MO}(h:Nc K H M)(b:H p=MX)(q:iI K (upd H p o) p m):Nc K (upd H p o) (av M p m):=λa u e=>by
 by_cases ne:a=p
 .subst ne;rw[aj]at e;cases e;exact q
 .rw[ak ne]at e;exact(h a u e).dg (.new b) (ay ne)
theorem mZ(f:Str):∀fs:List (Str×D),(fs.map λp=>(p.1,sV p.2)).lookup f=(fs.lookup f).map sV
 |[]=>rfl
 |(x,d)::r=>by
  simp only[J9,LQ]
  cases f==x with
  |true=>rfl
  |false=>exact mZ f r
def ZF(C:k_)(names:nj):Sp:=λvs H Q _=>∃a b,vs=.ref a::b/\b.length=names.length/\(∀y∈b,Yw names y)/\H a=MW (.ext (fH a C MX))/\
 ∀c,H c=MX->Q .non (upd (upd H a (.ext (fH a C (MW c)))) c (.ext (kQ c (names.zip b))))
def Wn(P:Jv)(w:JP)(K:J1)(mg:Str->Option J3)(base:lj)(k:Nat)(c:Str)(C:k_)(names:nj):Prop:=
 ∃S a fd ps,ClsI K C S a/\Kc K (.ref C) (.type "BaseException")=MW MY/\Np P w K mg base Oa k a fd ps (ZF C names)/\Binds K fd ps []/\mg c=MW (.ref C)
theorem Wn.mono{P:Jv}{w:JP}{K:J1}{mg:Str->Option J3}{base:lj}{j k:Nat}{c:Str}{C:k_}{names:nj}(h:Wn P w K mg base j c C names)(l:j<=k):Wn P w K mg base k c C names:=let⟨S,a,fd,ps,M,B,F,r⟩:=h;#[S,a,fd,ps,M,B,F.mono l,r]
theorem rX{xs:nj}:∀{names:nj}{a:ox}{vs:n7}{K:J1}{H:Hp},aC K H a vs->(∀d∈a,Qv xs d)->(names.zip a).map (λp=>(p.1,sV p.2))=names.zip vs/\∀v∈vs,Yw xs v
 |names,[],vs,K,H,r,h=>by
  rw[aC]at r;subst r
  exact #[by simp,by simp]
 |names,d::a,vs,K,H,r,h=>by
  rw[aC]at r
  let[v,j,8,g,c]:=r
  let[e,f]:=(h d JW).rep g
  cases names with
  |nil=>
   let[_,b]:=rX (names:=[]) c (λd hd=>h d (JC _ hd))
   exact #[8,λx hx=>(JU.mp hx).elim (λz=>z▸f) (b x)]
  |cons n ns=>
   let[i,b]:=rX (names:=ns) c (λd hd=>h d (JC _ hd))
   exact #[by rw[List.zip_cons_cons,J9,i,e];rfl,λx hx=>(JU.mp hx).elim (λz=>z▸f) (b x)]
section
variable{X:Cx}{k:Nat}{C:k_}{names:nj}{c f:Str}{np NO pos:Pos}{e o:l_}{es:m3}{t:Ny}{ta:TD}
def ES(K:J1)(ta:TD)(f:Str):TD:=λδ M Q=>ta δ M λx b=>∃a C g fs d,x=.ref a/\b a=MW (jX C (MW g))/\b g=MW (wM fs)/\Rp K C f/\fs.lookup f=MW d/\Qv [f,f] d/\Q d b
theorem nQ(he:DE X o ta)(j:LB o f X.env (eval o X.env)=eval o X.env:=by rfl):DE X (.Attribute o f pos) (ES X.K ta f):=
 aQ (CC he j) λσ H Q b=>by let[δ,M,R,hs,m,q,g]:=b;exact(#[δ,M,_,hs,m,q,λx y v H1 g1 i h z=>by
  let[a,C,n,fs,d,ex,h1,h2,Z,l,p,r]:=z
  subst ex
  rw[Rep]at i;subst i
  obtain⟨⟨s,ea,u⟩,_⟩:=h _ _ h1
  let[w,_]:=h _ _ h2
  exact #[a,C,n,_,sV d,s,8,ea,u,w,Z,by rw[mZ,l];rfl,g _ _ _ _ g1 p.back h r]])
def pO(K:J1):RC:=λd M Q=>nU K d M Q\/∃a C h c g b,d=[.ref a,c]/\M a=MW (jX C h)/\ErrK K C/\IK c=MW g/\JY K (.ref C) g=MW b/\Q (.bl b) M
def qK{K:J1}(B:X.K=K):cK X (.builtin "isinstance") (pO K):=by
 subst B;intro NK s σ H vs us Q I w D;let[E,M,R,y,a,q,g]:=D;rcases q with q|⟨x,C,V,c,G,b,J,L,z,j,N,q⟩
 .exact vM NK s σ H vs us Q I w #[E,M,R,y,a,q,g]
 .subst J;let[v,u,8,r,i]:=dQ y;rw[Rep]at r;subst r;let[O,P,8,l,A]:=vals2 w;cases (show O=JV x from l)
  let S:P=G:=by
   cases c with
   |ty n=>cases j;rw[Rep]at i;subst i;exact A
   |ref d=>cases j;rw[Rep]at i;subst i;exact A
   |_=>cases j
  subst S;obtain⟨⟨W,ea,T⟩,_⟩:=a _ _ L;let[p,_]:=I.hok x _ ea;let[o,g1,U,_]:=T _ p;let h:∀m,EP X NK σ Q (.bool b) { s with toks:=m }:=λm=>#[.bl b,H,I.tok m,8,g _ _ _ _ .refl (by rw[Rep]) a q];exact Mx (tK F.excAttr_ValueError.ga z.c z.s) I.kIn #[o,g1,U] N (λz=>nomatch z) h
end
abbrev RK:=k_->Option k_->MH->Prop
def iV(M:MH)(a:k_):MH:=λb=>if b=a then MX else M b
section
variable{P:Jv}{w:JP}{K:J1}{mg:Str->Option J3}{base:lj}{N:nj}{qual:Str}{scope:Lq}{f:k_}{cd:J3}{A:JQ}{outer:List Env}{s:J4}{H:Hp}{E:XK}
def yS(R:RK)(C:k_)(names:nj)(t:Ny):OH:=λB δ M=>t δ M λa c=>a.length=names.length/\a.length<=1000/\(∀d∈a,Qv names d)/\∀b,c b=MX->R C (MW b) (av c b (wM (names.zip a)))
def wj{R:RK}{k:Nat}{C:k_}{names:nj}{c:Str}{v n h:Pos}{e:l_}{es:m3}{t:Ny}(hE:∀C o p r,Nc K r p->R C o p->E (.ref C) o r)(M:Wn P w K mg base k c C names)(x:Nd (k+1) (bg (cQ P w) P w K mg base N qual scope f cd A outer s H E).A)(ha:DA (bg (cQ P w) P w K mg base N qual scope f cd A outer s H E) (e::es) t)(G:Gl (bg (cQ P w) P w K mg base N qual scope f cd A outer s H E) c:=by rfl)(i:(c==("__debug__":Str))=MZ:=by decide) (he:Jz (e::es) (bg (cQ P w) P w K mg base N qual scope f cd A outer s H E).env=(MZ,eval e (bg (cQ P w) P w K mg base N qual scope f cd A outer s H E).env)::Jz es (bg (cQ P w) P w K mg base N qual scope f cd A outer s H E).env:=by rfl) (j:(Lh n (Jz es (bg (cQ P w) P w K mg base N qual scope f cd A outer s H E).env)).any (·.1)=MZ:=by rfl) : DSt (bg (cQ P w) P w K mg base N qual scope f cd A outer s H E) (.Raise (MW (.Call (.Name c v) (e::es) [] n)) MX h) (yS R C names t):=by
 let[S,W,fd,ps,M,B,F,I,J]:=M;refine b8 (vZ M B F x I G J ha i he j) λD σ H1 ⟨δ,L,hs,a0,X,ok,q⟩=>#[δ,L,_,hs,a0,q,λY Z vs H1 g1 l u z=>?_];let[l1,l2,O,Q]:=z;let[T,U]:=rX (names:=names) l O;refine #[by rw[<-l.length];exact K0 l2 ⋯,λa ha=>#[a,vs,8,by rw[<-l.length,l1],U,az,λg d=>#[8,a,MW g,8,?_,hE C (MW g) _ _ ?_ (Q g ?_)]]]
 .have ne:g≠a:=λz=>by subst z;rw[az]at d;cases d
  rw[ay ne.symm,az]
 .have ne:g≠a:=λz=>by subst z;rw[az]at d;cases d
  let m:H1 g=MX:=by rw[ay ne]at d;exact d
  let V:fW (upd (upd (upd H1 a (.ext (fH a C MX))) a (.ext (fH a C (MW g)))) g (.ext (kQ g (names.zip vs)))) a=upd H1 g (.ext (kQ g (names.zip vs))):=by
   funext b
   by_cases z:b=a
   .subst z;rw[sP,ay ne.symm];exact ha.symm
   .rw[dG z];by_cases y:b=g
    .subst y;rw[az,az]
    .rw[ay y,ay z,ay z,ay y]
  rw[V];refine u.HC m ?_;rw[<-T];exact IE az
 .have ne:g≠a:=λz=>by subst z;rw[az]at d;cases d
  rw[ay ne]at d;exact u.fresh d
abbrev qQ:=ox->MH->RK->Prop
def xg(K:J1)(sp:qQ):Sp:=λvs H _ E=>∃a M R,aC K H a vs/\Nc K H M/\sp a M R/\∀C b c d,Nc K d c->R C b c->E (.ref C) b d
def mF(P:Jv)(w:JP)(K:J1)(mg:Str->Option J3)(base:lj)(k:Nat)(x:Str)(sp:qQ):Prop:=
 ∃f fd ps,Np P w K mg base (cQ P w) k f fd ps (xg K sp)/\mg x=MW (.ref f)/\Kz K (.ref f)=MY/\Binds K fd ps []
theorem mF.mono{j k:Nat}{x:Str}{sp:qQ}(h:mF P w K mg base j x sp)(l:j<=k):mF P w K mg base k x sp:=let⟨f,fd,ps,F,r⟩:=h;#[f,fd,ps,F.mono l,r]
end
section
variable{P:Jv}{w:JP}{K:J1}{mg:Str->Option J3}{base:lj}
def GX{x:Str}{st:lb}{N ps:nj}{k:Nat}{sp:qQ}(T:Txt K mg x st)(S:N9 N ps (ao st))
 (p:∀(kV e l:J3)(an:Option k_)(cdv ct:J3)(us:List J3),us.length=ps.length->MM (Kp x x (aT st) (aJ st) (ao st) .none kV e l an cdv ct) #[us,[]]=pure (ps.zip us))
 (len:∀b M R,sp b M R->b.length=ps.length)
 (body:∀(f:k_)(cdv:J3)(A:JQ)(outer:List Env)(s:J4)(H:Hp)(E:XK)(R:RK),Nd k (A.deeper (MT x (ao st) s.z f cdv))->(∀C m n o,Nc K o n->R C m n->E (.ref C) m o)->
  ∃t,DSs (bg (cQ P w) P w K mg base N x (ao st) f cdv A outer s H E) (aJ st) t/\∀b M,sp b M R->t { nx:=λ_ _=>False,rt:=λ_ _=>False } (cV N b) M):mF P w K mg base (k+1) x sp:=by
 let[f,fd,F,r]:=T
 let g:=F.binds p
 let h:=F.kp
 let[oc,od,kV,e,l,an,cdv,ct,osl,8,lk,i]:=F.ex
 refine #[f,_,ps,yl lk i S (λvs H Q E c=>by let[b,M,R,j,_,q,_]:=c;rw[<-j.length];exact len _ _ _ q) (λA outer s H vs Q E u d=>?_),r,h,g]
 let[b,M,R,j,a,q,hE]:=d
 let[t,ht,v]:=body f cdv A outer s H E R u hE
 exact #[_,ht,cV N b,M,gc j,a,{ nx:=λ_ _=>False,rt:=λ_ _=>False },#[λ_ _ _ _ _ _ _ z=>z.elim,λ_ _ _ _ _ _ _ z=>z.elim,λ_ _ _ _ _ _ _ z=>z,λ_ _ _ _ _ _ _ z=>z],v b M q]
end
abbrev Bi:=DS->MH->RK->Prop
def qR(K:J1)(t:Bi):TR:=λσ H E=>∃δ M R,Slots K H δ σ/\Nc K H M/\t δ M R/\∀C a b H1 c,Nb K H H1->Nc K c b->R C a b->E H1 (.ref C) a c
def B7(sp:qQ)(t:Ny):Bi:=λδ M R=>t δ M λa b=>sp a b R
section
variable{Y:Cx}
def vB{k:Nat}{x:Str}{sp:qQ}{p a:Pos}{e:l_}{es:m3}{t:Ny}(C:mF Y.prog Y.w Y.K Y.mg Y.base k x sp)(g:Nd k Y.A)(ha:DA Y.nox (e::es) t)(h:Gl Y.nox x:=by rfl)(b:(x==("__debug__":Str))=MZ:=by decide) (he:Jz (e::es) Y.env=(MZ,eval e Y.env)::Jz es Y.env:=by rfl) (c:(Lh a (Jz es Y.env)).any (·.1)=MZ:=by rfl):EZ Y.nox (.Call (.Name x p) (e::es) [] a) (qR Y.K (B7 sp t)):=by let[f,fd,ps,F,i,j,l]:=C;intro NK s σ H E I ⟨δ,M,R,hs,m,q,d⟩;exact xu F g h i j l ha b he c NK s σ H E I #[δ,M,_,hs,m,q,λn o vs H1 g1 r u v=>#[n,o,R,r,u,v,λC y z B D G=>d C y z H1 B g1 D G]]
def E1(K:J1)(S:k_)(j:Nat)(tb:OH)(tR:Bi)(th:OH):OH:=λB δ M=>tb B δ M\/
 tR δ M λC c b=>Kc K (.ref C) (.ref S)=MW MY/\∀a,b a=MX->th (Dj j B) (δ.set j (MW (.ref a))) (av b a (jX C c))
theorem BA{body:mv}{b:lb}{bs:mv}{c n:Str}{E F m:Pos}{S:k_}{tb:OH}{tR:Bi}{th:OH}(j:Nat)(G:Y.N.Nodup)(cl:ClsE Y.K c S)(I:Y.mg c=MW (.ref S))(J:Kc Y.K (.ref S) (.type "BaseException")=MW MY)
 (L:DSs Y.nox body tb) (O:EW Y.nox body (qR Y.K tR)) (P:∀a,DSs (hold Y.nox a) (b::bs) th)
 (Q:Y.N[j]?=MW n:=by rfl) (R:Y.env.scope.names.lookup n=MW .local:=by rfl) (T:Gl Y.nox c:=by rfl) (o:(c==("__debug__":Str))=MZ:=by decide) (p:Y.stack=Y.env::Y.outer:=by rfl) (s:Y.env.frame=MW Y.env.locals:=by rfl) (t:Y.ex=[]:=by rfl) :
 DSt Y.nox (.Try body [.ExceptHandler (MW (.Name c E)) (MW n) (b::bs) F] [] [] m) (E1 Y.K S j tb tR th):=
 b8 (BP (tb:=tP Y.K tb) (tR:=qR Y.K tR) (th:=tP Y.K th) p s t G Q R T I o cl.ex J L O P) λD σ H ⟨δ,M,hs,a,B,ok,q⟩=>by
  rcases q with q|q
  .exact .inl #[δ,M,hs,a,B,ok,q]
  .refine .inr #[δ,M,_,hs,a,q,λC y U H1 V g1 A z=>#[C,8,z.1,λW x hx=>?_]]
   let g:Nb Y.K H (upd V x (.ext (pN x C y))):=(g1.trans W).trans (.new hx)
   refine #[δ.set j (MW (.ref x)),av U x (jX C y),(hs.mono g).set (by rw[Rep]) j,A.HC hx (Ij az λh z=>z),Dj j B,?_,z.2 x (A.fresh hx)]
   exact #[λi u k w e l f z=>ok.nx _ _ _ _ (g.trans e) (l.gone j) f z,λd u v w e r f z=>ok.rt _ _ _ _ (g.trans e) r f z,λi u k w e l f z=>ok.bk _ _ _ _ (g.trans e) (l.gone j) f z,λi u k w e l f z=>ok.ct _ _ _ _ (g.trans e) (l.gone j) f z]
end
section
variable{X:Cx}{e:l_}{es:m3}{c1 c2:L2.St->Hp->Prop}
theorem parts_nil:Parts X [] (λ_ _=>True):=λ_ _=>trivial
theorem lJ(h1:Part X e c1)(h2:Parts X es c2):Parts X (e::es) (λσ H=>c1 σ H/\c2 σ H):=#[c1,c2,h1,h2,λ_ _ z=>z]
end
section
variable{P:Jv}{w:JP}{K:J1}{mg:Str->Option J3}{base:lj}{C S fI:k_}{n1 n2:Str}{N:nj}{vs:n7}{H:Hp}{Q:VK}{E:XK}{c:L2.St->Hp->Prop}
def Gn(M:ClsI K C S fI)(h1:findIn K (.ref C) n1=MW MX)(d:N.length=2)(h:ZF C [n1] vs H Q E)(f:∀a y,Small y->c [MW (.ref a),MW y] H) :
 Hw (CY (CU K S (Aj (Av 0) (Aj (GR c) GJ)))) (Dr K (Av 0) (Av 1) n1) { nx:=λ_ g=>Q .non g,rt:=Q } (L2.start N vs) H:=by
 let[a,i,8,hl,j,hx,q]:=h
 match i,hl with
 |[y],_=>
  let e:L2.start N [.ref a,y]=[MW (.ref a),MW y]:=by unfold L2.start;rw[d];rfl
  rw[e]
  refine #[7,f a y (j y (_)).1,λm=>#[a,m,C,fI,MX,8,M,hx,?_]]
  exact #[7,7,a,C,S,fI,8,M,h1,.inl #[az,λb hd=>by
   let ne:b≠a:=λz=>by subst z;rw[az]at hd;cases hd
   rw[Ca];rw[ay ne]at hd;exact q b hd]]
end
section
variable{K:J1}{mg:Str->Option J3}{x y qual:Str}{st:lb}{C S fI:k_}
def D4{n:Str}(a:Kb K JR x=MW (MW (.ref C)))(h:findIn K (.ref C) n=MW MX):findIn K (.ref (cl K x)) n=MW MX:=by rw[cR a];exact h
def zo{n:String}(h:MJ K S PX n=MY):PySem.W.tailIn K PX (.ref S::PX)=MY:=by
 unfold MJ at h;split at h
 .rename_i dct cd sl hl;split at h
  .simp only[Kq,beq_iff_eq]at h;unfold PySem.W.tailIn;simp only[hl,Bool.or_eq_true,Kq,beq_iff_eq];refine .inr #[#[h.1.2,h.2],?_];unfold PySem.W.tailIn;simp
  .cases h
 .cases h
def Cj{h i:Str}{c fI:k_}{j:List J3}{k:Bool}{m:nj}{sub:List J3}{ab:Bool}{d:Option Bool}{n:Option k_}{o p q r s:Option J3}{t:J3}{nd:Option k_}{es:Array KH}{u:Nat}{ns:Array (Option J3)}{oc:J3}{od an:Option k_}{osl:Array (Option J3)}{kV f v cdv ct:J3}
 (a:Kb K JR x=MW (MW (.ref C))) (b:Kb K JR y=MW (MW (.ref S))) (l:K.lookup C=MW (excClassObj h i C c j (.ref S::PX) k m sub ab d n o p q r s "ValueError.__new__")) (lN:K.lookup c=MW #[t,nd,.dict es u,ns]) (ok:(es.toList.all λe=>match e.key with|.str _ _=>MY|_=>MZ)=MY) (ni:Kb K c "__init__"=MW (MW (.ref fI)))
 (e:MJ K S PX "ValueError.__new__"=MY) (fn:PySem.W.typeIn K (.ref fI)=MW (.type "function")) (kp:Kz K (.ref C)=MY) (hd:KJ K C=MY) (sa:findIn K (.ref C) "__setattr__"=MW (MW (.builtin "object.__setattr__"))) (ob:Kc K (.ref C) (.type "object")=MW MY)
 (lf:K.lookup fI=MW #[oc,od,.func (Kp "__init__" qual (aT st) (aJ st) (ao st) .none kV f v an cdv ct),osl]) (cf:LS K cdv qual=MY) (kf:Kz K (.ref fI)=MY):∃fI fd,ClsI K (cl K x) (cl K y) fI/\Fun K "__init__" qual st fI fd:=by
 rw[cR a,cR b]
 let g:PySem.W.nsOkIn K c=MY:=by unfold PySem.W.nsOkIn;rw[lN];show(es.all _)=MY;rw[<-Array.all_toList];exact ok
 exact #[fI,_,#[#[_,_,_,_,_,_,_,_,_,_,_,_,_,_,_,l,g,ni],zo e,fn,kp,hd,sa,ob],nX lf cf kf]
def B8(a:Kb K JR x=MW (MW (.ref C)))(h1:PySem.W.specialIn K (.ref C) "__getattribute__"=MW (MW (.builtin "type.__getattribute__")))(h2:PySem.W.readsIn K C (.type "type")=MY)(b:PySem.W.findCls K (.ref C) (.type "type") "__init__"=MW (.val (.builtin "ValueError.__init__"))):ClsB K (cl K x):=by rw[cR a];exact #[h1,h2,b]
def HH(a:Kb K JR x=MW (MW (.ref C)))(h:KJ K C=MY):KJ K (cl K x)=MY:=by rw[cR a];exact h
end
section
variable{X:Cx}
theorem pU{K:J1}{H:Hp}:∀{a:m_}{xs:n7},aC K H (a.map D.ref) xs->xs=a.map V.ref
 |[],xs,h=>by rw[L7,aC]at h;exact h
 |c::a,xs,h=>by
  rw[J9,aC]at h
  let[x,r,8,h1,h2]:=h
  rw[Rep]at h1
  rw[h1,pU h2];rfl
theorem p5:∀{a:m_}{us:List J3},Vals (a.map V.ref) us->us=a.map JV
 |[],_,.nil=>rfl
 |c::a,_,.cons h t=>by rw[p5 t];cases (show _=JV c from h);rfl
def xR(K:J1):RC:=λc M Q=>pO K c M Q\/∃(a C:k_) (e:Option k_) (d:m_) (b:Bool),c=[.ref a,.tup (d.map D.ref)]/\M a=MW (jX C e)/\ErrK K C/\PySem.W.kitAny K (.ref C) (d.map JV)=MW b/\Q (.bl b) M
def cx{K:J1}(j:X.K=K):cK X (.builtin "isinstance") (xR K):=by
 subst j;intro NK s σ H vs us Q I f k;let[l,M,R,h,a,q,d]:=k;rcases q with q|⟨x,C,O,P,b,m,t,z,w,q⟩
 .exact qK rfl NK s σ H vs us Q I f #[l,M,R,h,a,q,d]
 .subst m;let[v,u,8,r,i]:=dQ h;rw[Rep]at r;subst r;rw[Rep]at i;let[p,xs,8,h1,h2]:=i;cases pU h2;let[y,A,8,e,B]:=vals2 f;cases (show y=JV x from e);cases (show A=JV p from B);obtain⟨D,r,⟨o,e1,e2,n,e3⟩,_⟩:=I.tuple h1;cases p5 r;obtain⟨⟨S,ea,E⟩,_⟩:=a _ _ t;let[g,_]:=I.hok x _ ea;let[G,g1,J,_]:=E _ g;let[oc,od,L,osl]:=o;cases e2;cases e3;exact PySem.W.kia_tup (tK F.excAttr_ValueError.ga z.c z.s) I.kIn #[G,g1,J] e1 w (λz=>nomatch z) λN=>#[.bl b,H,I.tok N,8,d _ _ _ _ .refl (by rw[Rep]) a q]
theorem uc{K:J1}{t:J3}:∀{a:List J3},(∀c∈a,JY K t c=MW MZ)->PySem.W.kitAny K t a=MW MZ
 |[],_=>rfl
 |c::a,h=>by rw[PySem.W.kitAny,h c (_)];exact uc λc b=>h c (by simp[b])
end
open PySem PySem.SetTable
theorem sub_len'{b:Type}[DecidableEq b]:∀{l m:List b},l.Nodup->(∀x∈l,x∈m)->l.length<=m.length
 |[],_,_,_=>Kh _
 |a::l,m,h,s=>by
  rw[Md]at h
  let ha:=s a JW
  have:=sub_len' (m:=m.erase a) h.2 λx hx=>(List.mem_erase_of_ne (λe=>by subst e;exact h.1 hx)).mpr (s x (JC _ hx))
  rw[List.length_erase_of_mem ha]at this
  have:=List.length_pos_of_mem ha
  rw[JE];omega
def ad(t:Kg):Nat->Probe->Probe
 |0,p=>p
 |n+1,p=>ad t n (t.advance p)
theorem lL(t:Kg):∀(n m:Nat)(p:Probe),ad t (n+m) p=ad t m (ad t n p)
 |0,m,p=>by rw[Nat.zero_add];rfl
 |n+1,m,p=>by rw[show n+1+m=(n+m)+1 by omega];exact lL t n m (t.advance p)
theorem oK(t:Kg)(n:Nat)(p:Probe):ad t (n+1) p=t.advance (ad t n p):=lL t n 1 p
def wI(t:Kg)(p:Probe):(t.advance p).dummy=p.dummy:=by unfold SetTable.advance;split<;>rfl
def xB{t u:Kg}(e:t.mask=u.mask)(p:Probe):t.advance p=u.advance p:=by unfold SetTable.advance;rw[e]
theorem oz{t u:Kg}(e:t.mask=u.mask):∀(n:Nat)(p:Probe),ad t n p=ad u n p
 |0,_=>rfl
 |n+1,p=>by rw[ad,ad,xB e,oz e n]
def l6{t u:Kg}(e:t.mask=u.mask)(h:Int):t.probeStart h=u.probeStart h:=by unfold SetTable.probeStart;rw[e]
def Nn(m:Nat)(h:Int):Nat->Nat×Nat
 |0=>(bits h%(m+1),bits h)
 |K+1=>leap m (Nn m h K).1 (Nn m h K).2
def RR(m:Nat)(h:Int)(K:Nat):Probe:={ j:=(Nn m h K).1,more:=runEnd m (Nn m h K).1-(Nn m h K).1,i:=(Nn m h K).1,perturb:=(Nn m h K).2,dummy:=MX }
def sD(m i:Nat):runEnd m i-i<=9:=by unfold SetTable.runEnd;split<;>omega
theorem gJ(t:Kg):∀(r:Nat)(p:Probe),r<=p.more->ad t r p={ p with j:=p.j+r,more:=p.more-r }
 |0,p,_=>rfl
 |r+1,p,h=>by
  rw[oK,gJ t r p ()]
  unfold SetTable.advance
  rw[NB (by show p.more-r>0;omega)]
  show({ p with j:=p.j+r+1,more:=p.more-r-1 }:Probe)=_
  congr 1
theorem uf(t:Kg)(h:Int):∀K,∃n,n<=10*K/\ad t n (t.probeStart h)=RR t.mask h K
 |0=>#[0,Jo _,rfl]
 |K+1=>by
  let[n,a,e]:=uf t h K
  let b:=sD t.mask (Nn t.mask h K).1
  refine #[n+((RR t.mask h K).more+1),by show n+(runEnd t.mask (Nn t.mask h K).1-(Nn t.mask h K).1+1)<=_;omega,?_]
  rw[lL,e,oK,gJ t _ _ (Jo _)]
  unfold SetTable.advance
  rw[NA (by show ¬(RR t.mask h K).more-(RR t.mask h K).more>0;omega)]
  rfl
theorem uQ(m:Nat)(h:Int):∀K,(Nn m h K).2=bits h/32^K
 |0=>by simp[Nn]
 |K+1=>by
  show(Nn m h K).2/32=_
  rw[uQ m h K,Nat.div_div_eq_div_mul,Nat.pow_succ]
def BQ(h:Int):bits h<2^64:=by unfold SetTable.bits;have:=Int.emod_lt_of_pos h (show(0:Int)<2^64 by decide);have:=Int.emod_nonneg h (show(2^64:Int)≠0 by decide);omega
def BO(m:Nat)(h:Int){K:Nat}(a:13<=K):(Nn m h K).2=0:=by rw[uQ];refine Nat.div_eq_of_lt (JF (BQ h) ?_);exact K0 (⋯:2^64<=32^13) (MD ⋯ a)
def Rj(m:Nat):Nat->Nat->Nat
 |0,x=>x
 |k+1,x=>(Rj m k x*5+1)%(m+1)
theorem rn(m:Nat)(h:Int):∀k,(Nn m h (13+k)).1=Rj m k (Nn m h 13).1
 |0=>rfl
 |k+1=>by
  show((Nn m h (13+k)).1*5+1+(Nn m h (13+k)).2/32)%(m+1)=(Rj m k (Nn m h 13).1*5+1)%(m+1)
  rw[rn m h k,BO m h ()]
def zL(m:Nat)(h:Int)(K:Nat):(Nn m h K).1<m+1:=by
 cases K with
 |zero=>exact Nat.mod_lt _ ()
 |succ K=>exact Nat.mod_lt _ ()
def Rn(m:Nat):Prop:=m=7\/m=31
def Hy:∀x<8,∀j<8,∃k<8,Rj 7 k x=j:=by decide +kernel
def CL:∀x<32,∀j<32,∃k<32,Rj 31 k x=j:=by decide +kernel
def FK{t:Kg}(c:Rn t.mask)(h:Int){j:Nat}(a:j<=t.mask):∃n,n<10*turns t.mask/\(ad t n (t.probeStart h)).j=j:=by
 let l:=zL t.mask h 13
 obtain⟨k,b,e⟩:∃k,k<=t.mask/\Rj t.mask k (Nn t.mask h 13).1=j:=by
  rcases c with q|q
  .rw[q]at l a ⊢;let[k,b,e]:=Hy _ l j ();exact #[k,(),e]
  .rw[q]at l a ⊢;let[k,b,e]:=CL _ l j ();exact #[k,(),e]
 let[n,f,d]:=uf t h (13+k);refine #[n,by unfold SetTable.turns;omega,?_];rw[d];show(Nn t.mask h (13+k)).1=j;rw[rn,e]
theorem lr{xs:Array Nat}{j:Nat}(up:xs.toList.Pairwise (· < ·)):∀(f lo hi:Nat),hi<=lo+f->lo<=hi->hi<=xs.size->(∀i x,i<lo->xs[i]?=MW x->x<j)->(∀i x,hi<=i->xs[i]?=MW x->j<=x)->
 below.go xs j f lo hi<=xs.size/\(∀i x,i<below.go xs j f lo hi->xs[i]?=MW x->x<j)/\∀i x,below.go xs j f lo hi<=i->xs[i]?=MW x->j<=x
 |0,lo,hi,h1,h2,h3,a,b=>by
  obtain rfl:lo=hi:=()
  exact #[h3,a,b]
 |f+1,lo,hi,h1,h2,h3,a,b=>by
  rw[SetTable.below.go]
  by_cases l:lo<hi
  .rw[NB l]
   let k:(lo+hi)/2<xs.size:=()
   let c:xs[(lo+hi)/2]?=MW xs[(lo+hi)/2]:=JT k
   let n:xs.getD ((lo+hi)/2) j=xs[(lo+hi)/2]:=by simp[Array.getD,k]
   let mono:∀i d x g,i<d->xs[i]?=MW x->xs[d]?=MW g->x<g:=λi d x g l e m=>by
    rw[<-JX]at e m
    let[l1,e1]:=Jp.mp e
    let[l2,e2]:=Jp.mp m
    have:=Kd.mp up i d l1 l2 l
    rw[e1,e2]at this;exact this
   dsimp only
   rw[n]
   by_cases q:xs[(lo+hi)/2]<j
   .rw[NB q]
    refine lr up f _ _ () () h3 (λi x h e=>?_) b
    by_cases z:i=(lo+hi)/2
    .subst z;rw[c]at e;cases e;exact q
    .exact Nat.lt_trans (mono i _ x _ () e c) q
   .rw[NA q]
    refine lr up f _ _ () () () a λi x h e=>?_
    by_cases z:i=(lo+hi)/2
    .subst z;rw[c]at e;cases e;omega
    .have:=mono _ i _ x () c e;omega
  .rw[NA l]
   obtain rfl:lo=hi:=()
   exact #[h3,a,b]
theorem below_at{xs:Array Nat}{j:Nat}(up:xs.toList.Pairwise (· < ·)):below xs j<=xs.size/\(∀i x,i<below xs j->xs[i]?=MW x->x<j)/\∀i x,below xs j<=i->xs[i]?=MW x->j<=x:=
 lr up xs.size 0 xs.size () (Kh _) (Jo _) (λi x h=>()) λi x h e=>by
  rw[Mn h]at e;cases e
def yr{xs:Array Nat}{i j:Nat}(up:xs.toList.Pairwise (· < ·))(e:xs[i]?=MW j):below xs j=i:=by
 let[_,a,b]:=below_at (j:=j) up;let h1:¬i<below xs j:=λl=>by have:=a i j l e;omega
 let d:i<xs.size:=(Mu.mp e).1;by_cases l:below xs j<i
 .have c:below xs j<xs.size:=()
  have:=b _ _ (Jo _) (JT c);rw[<-JX]at e;let[l2,e2]:=Jp.mp e;have:=Kd.mp up (below xs j) i ‹c› l2 l;rw[e2]at this;simp at this;omega
 .omega
def vc{t:Kg}(up:t.place.toList.Pairwise (· < ·)){i j:Nat}(e:t.place[i]?=MW j):t.slot j=.live i:=by unfold SetTable.slot;rw[yr up e];dsimp only;rw[e,NB (_)]
def kP{t:Kg}(up:t.place.toList.Pairwise (· < ·))(hd:t.dummies=#[]){j:Nat}(n:j∉t.place.toList):t.slot j=.empty:=by
 unfold SetTable.slot;dsimp only;rw[NA,NA]
 .unfold SetTable.has;rw[hd];simp
 .intro q;let q:t.place[below t.place j]?=MW j:=‹q›
  exact n (by rw[<-JX]at q;exact JN q)
def Cs{t:Kg}(up:t.place.toList.Pairwise (· < ·))(hd:t.dummies=#[])(j:Nat):(t.slot j=.empty/\j∉t.place.toList)\/∃i,t.slot j=.live i/\t.place[i]?=MW j:=by
 by_cases h:j∈t.place.toList
 .obtain⟨i,hi,e⟩:=Mj h;let a:t.place[i]?=MW j:=by rw[<-JX,JB hi,e]
  exact .inr #[i,vc up a,a]
 .exact .inl #[kP up hd h,h]
theorem room{t:Kg}(h:t.place.size<=t.mask):∃j,j<=t.mask/\j∉t.place.toList:=Classical.byContradiction λn=>by have:=sub_len' (l:=JM (t.mask+1)) (m:=t.place.toList) List.nodup_range λx hx=>Classical.byContradiction λq=>n #[x,by rw[KI]at hx;omega,q];rw[MG,JG]at this;omega
theorem qd{t:Kg}{hashAt:nq}{h:Int}:∀(n f:Nat)(p:Probe),n<f->p.dummy=MX->(∀m,m<n->∃i,t.slot (ad t m p).j=.live i/\(hashAt i==h)=MZ)->t.slot (ad t n p).j=.empty->
 probe.go t hashAt h f p=MW (.empty (ad t n p).j MX)
 |0,f+1,p,_,hd,_,e=>by
  rw[SetTable.probe.go]
  let e:t.slot p.j=.empty:=e
  rw[e]
  dsimp only
  rw[hd];rfl
 |n+1,f+1,p,hf,hd,hl,e=>by
  rw[SetTable.probe.go]
  let[i,a,e1]:=hl 0 ()
  let a:t.slot p.j=.live i:=a
  rw[a]
  dsimp only
  rw[e1,NA ⋯]
  exact qd n f (t.advance p) () (by rw[wI];exact hd) (λm b=>hl (m+1) ()) e
structure RA(t:Kg)(es:Array (Int×J3)):Prop where
 ms:Rn t.mask
 dm:t.dummies=#[]
 sz:t.place.size=es.size
 up:t.place.toList.Pairwise (· < ·)
 le:es.size<=t.mask
 way:∀(i:Nat)(e:Int×J3)(j:Nat),es[i]?=MW e->t.place[i]?=MW j->∃n,n<10*turns t.mask/\(ad t n (t.probeStart e.1)).j=j/\∀m,m<n->(ad t m (t.probeStart e.1)).j∈t.place.toList
def RA.fits{t:Kg}{es:Array (Int×J3)}(T:RA t es):t.fits es.size=MY:=by
 have:=T.sz;have:=T.le;have:=T.dm
 simp[SetTable.fits,SetTable.fill,T.sz,T.dm];omega
def RA.first{t:Kg}{es:Array (Int×J3)}(T:RA t es)(h:Int):∃N,N<10*turns t.mask/\(ad t N (t.probeStart h)).j∉t.place.toList/\∀m,m<N->(ad t m (t.probeStart h)).j∈t.place.toList:=by
 let[j,f,d]:=room (t:=t) (by rw[T.sz];exact T.le);let[n,k,e]:=FK T.ms h f;let ex:∃n,(ad t n (t.probeStart h)).j∉t.place.toList:=#[n,by rw[e];exact d]
 let a:∀n,(ad t n (t.probeStart h)).j∉t.place.toList->∃N,N<=n/\(ad t N (t.probeStart h)).j∉t.place.toList/\∀m,m<N->(ad t m (t.probeStart h)).j∈t.place.toList:=λn=>by
  induction n using Nat.strongRecOn with
  |ind n g=>
   intro i
   by_cases z:∃m,m<n/\(ad t m (t.probeStart h)).j∉t.place.toList
   .obtain⟨m,b,q⟩:=z;let[N,h1,h2,c]:=g m b q;exact #[N,(),h2,c]
   .exact #[n,Jo _,i,λm b=>Classical.byContradiction λq=>z #[m,b,q]]
 let[N,h1,h2,c]:=a n (by rw[e];exact d);exact #[N,(),h2,c]
theorem EA{a:Type}(xs:Array a)(p:Nat)(x:a):(KY xs p x).toList=bT xs.toList p x:=SetTable.toList_insertAt xs p x
def gK{a:Type}(l:List a)(p:Nat)(x:a)(b:p<=l.length)(i:Nat):(bT l p x)[i]?=if i<p then l[i]? else if i=p then MW x else l[i-1]?:=by
 unfold bT;let lt:(l.take p).length=p:=by rw[La];omega
 by_cases h1:i<p
 .rw[NB h1,K7 (),List.getElem?_take_of_lt h1]
 .rw[NA h1,K4 (),lt];by_cases h2:i=p
  .subst h2;rw[NB rfl,Nat.sub_self];rfl
  .rw[NA h2];obtain⟨d,rfl⟩:∃d,i=p+d+1:=#[i-p-1,()];rw[show p+d+1-p=d+1 by omega,List.getElem?_cons_succ,List.getElem?_drop]
   congr 1
def RA.put{t:Kg}{es:Array (Int×J3)}(T:RA t es){h:Int}(x:J3){N:Nat}(G:N<10*turns t.mask)(g:(ad t N (t.probeStart h)).j∉t.place.toList)(o:∀m,m<N->(ad t m (t.probeStart h)).j∈t.place.toList)(H:es.size+1<=t.mask) :
 RA (t.put (ad t N (t.probeStart h)).j).1 (KY es (t.put (ad t N (t.probeStart h)).j).2 (h,x)):=by
 generalize I:(ad t N (t.probeStart h)).j=j at g
 let[r,b1,A]:=below_at (j:=j) T.up
 let J:(t.put j).2=below t.place j:=rfl
 let d:(t.put j).1.place=KY t.place (below t.place j) j:=rfl
 let f:(t.put j).1.mask=t.mask:=rfl
 let hd:(t.put j).1.dummies=#[]:=by
  show(if has t.dummies j=MY then _ else t.dummies)=#[]
  rw[T.dm]
  have:has (#[]:Array Nat) j=MZ:=by unfold SetTable.has;simp
  rw[this];rfl
 generalize (t.put j).1=u at d f hd ⊢
 rw[J]
 generalize below t.place j=p at r b1 A d ⊢
 let k:u.place.toList=bT t.place.toList p j:=by rw[d];exact EA _ _ _
 let s:(KY es p (h,x)).toList=bT es.toList p (h,x):=EA _ _ _
 let pt:p<=t.place.toList.length:=by rw[JG];exact r
 let K:p<=es.toList.length:=by rw[JG,<-T.sz];exact r
 let L:∀n q,ad u n q=ad t n q:=λn q=>oz f n q
 let M:∀q,u.probeStart q=t.probeStart q:=λq=>l6 f q
 let sub:∀z,z∈t.place.toList->z∈u.place.toList:=λz c=>by
  rw[k];unfold bT
  rw[<-Mv p t.place.toList]at c
  rcases K5.mp c with q|q
  .exact K5.mpr (.inl q)
  .exact K5.mpr (.inr (JC _ q))
 let v:∀{B:Type}(l:List B)(y:B),(bT l p y).length=l.length+1:=λl y=>by unfold bT;simp;omega
 refine #[by rw[f];exact T.ms,hd,?_,?_,?_,λi e C he a=>?_]
 .rw[<-JG,<-JG,k,s,v,v,JG,JG,T.sz]
 .rw[k]
  let hs:(t.place.toList.take p++t.place.toList.drop p).Pairwise (· < ·):=by rw[Mv];exact T.up
  rw[List.pairwise_append]at hs
  let O:∀z∈t.place.toList.take p,z<j:=λz c=>by
   let[i,hi,e]:=Mj c
   rw[La]at hi
   rw[List.getElem_take]at e
   exact b1 i z () (by rw[<-JX,JB (),e])
  let P:∀z∈t.place.toList.drop p,j<z:=λz c=>by
   let[i,hi,e]:=Mj c
   rw[List.length_drop]at hi
   rw[List.getElem_drop]at e
   let Q:t.place[p+i]?=MW z:=by rw[<-JX,JB (),e]
   have:=A (p+i) z () Q
   have:j≠z:=λq=>g (by rw[q,<-e];exact Lc _)
   omega
  unfold bT
  rw[List.pairwise_append,List.pairwise_cons]
  refine #[hs.1,#[P,hs.2.1],λy D z c=>?_]
  rcases JU.mp c with q|q
  .rw[q];exact O y D
  .exact hs.2.2 y D z q
 .rw[<-JG,s,v,JG,f];exact H
 .rw[<-JX,s,gK _ _ _ K]at he
  rw[<-JX,k,gK _ _ _ pt]at a
  rw[f]
  simp only[L,M]
  by_cases E:i<p
  .rw[NB E,JX]at he a
   let[n,h1,h2,w]:=T.way i e C he a
   exact #[n,h1,h2,λm b=>sub _ (w m b)]
  .rw[NA E]at he a
   by_cases F:i=p
   .rw[NB F]at he a
    cases he;cases a
    exact #[N,G,I,λm b=>sub _ (o m b)]
   .rw[NA F,JX]at he a
    let[n,h1,h2,w]:=T.way (i-1) e C he a
    exact #[n,h1,h2,λm b=>sub _ (w m b)]
def nK(m:Nat)(h:Int):Nat->Nat
 |0=>0
 |K+1=>nK m h K+(runEnd m (Nn m h K).1-(Nn m h K).1)+1
theorem xb(t:Kg)(h:Int):∀K,ad t (nK t.mask h K) (t.probeStart h)=RR t.mask h K
 |0=>rfl
 |K+1=>by
  let e:=xb t h K
  show ad t (nK t.mask h K+((RR t.mask h K).more+1)) (t.probeStart h)=_
  rw[lL,e,oK,gJ t _ _ (Jo _)]
  unfold SetTable.advance
  rw[NA (by show ¬(RR t.mask h K).more-(RR t.mask h K).more>0;omega)]
  rfl
theorem Dg(m:Nat)(h:Int):∀K,nK m h K<=10*K
 |0=>Jo _
 |K+1=>by
  have:=Dg m h K
  have:=sD m (Nn m h K).1
  show nK m h K+(runEnd m (Nn m h K).1-(Nn m h K).1)+1<=_
  omega
theorem CZ(m:Nat)(h:Int){K:Nat}:∀d,nK m h K<nK m h (K+d+1)
 |0=>by show _<nK m h K+_+1;omega
 |d+1=>by
  have:=CZ m h (K:=K) d
  show _<nK m h (K+d+1)+_+1
  omega
def AW{m:Nat}(c:Rn m)(h:Int){j:Nat}(a:j<=m):∃K,K<=13+m/\(Nn m h K).1=j:=by
 let l:=zL m h 13
 obtain⟨k,b,e⟩:∃k,k<=m/\Rj m k (Nn m h 13).1=j:=by
  rcases c with q|q
  .rw[q]at l a ⊢;let[k,b,e]:=Hy _ l j ();exact #[k,(),e]
  .rw[q]at l a ⊢;let[k,b,e]:=CL _ l j ();exact #[k,(),e]
 exact #[13+k,(),by rw[rn,e]]
def Gr{m i:Nat}(h:i<=m):runEnd m i<=m/\i<=runEnd m i:=by unfold SetTable.runEnd;split<;>omega
theorem tE{u:Kg}(g:Rn u.mask){owner:Array (Option Nat)}(so:owner.size=u.mask+1)(h:Int){js:Nat}(i:js<=u.mask)(o:owner[js]?=MW MX) :
 ∀f K,K+f=turns u.mask->(∀m,m<nK u.mask h K->∃k,owner[(ad u m (u.probeStart h)).j]?=MW (MW k))->
  ∃n,n<10*turns u.mask/\layClean.free u.mask owner f (Nn u.mask h K).1 (Nn u.mask h K).2=MW (ad u n (u.probeStart h)).j/\owner[(ad u n (u.probeStart h)).j]?=MW MX/\∀m,m<n->∃k,owner[(ad u m (u.probeStart h)).j]?=MW (MW k)
 |0,K,e,occ=>by
  exfalso
  let[a,A,w]:=AW g h i
  let lt:nK u.mask h a<nK u.mask h K:=by
   have:=CZ u.mask h (K:=a) (K-a-1)
   rw[show a+(K-a-1)+1=K by unfold SetTable.turns at e;omega]at this
   exact this
  let[k,q]:=occ _ lt
  rw[xb u h a]at q
  let q:owner[(Nn u.mask h a).1]?=MW (MW k):=q
  rw[w,o]at q;cases q
 |f+1,K,e,occ=>by
  rw[layClean.free]
  let B:=zL u.mask h K
  let[C,D]:=Gr (show(Nn u.mask h K).1<=u.mask by omega)
  let at':∀r,r<=runEnd u.mask (Nn u.mask h K).1-(Nn u.mask h K).1->(ad u (nK u.mask h K+r) (u.probeStart h)).j=(Nn u.mask h K).1+r:=λr p=>by
   rw[lL,xb u h K,gJ u r _ p];rfl
  let gd:∀r,r<=runEnd u.mask (Nn u.mask h K).1-(Nn u.mask h K).1->∃v,owner[(Nn u.mask h K).1+r]?=MW v/\owner.getD ((Nn u.mask h K).1+r) (MW 0)=v:=λr p=>by
   let l:(Nn u.mask h K).1+r<owner.size:=()
   exact #[_,JT l,by simp[Array.getD,l]]
  cases s:(JM (runEnd u.mask (Nn u.mask h K).1+1-(Nn u.mask h K).1)).find? λk=>(owner.getD ((Nn u.mask h K).1+k) (MW 0)).isNone with
  |some k=>
   let[t,x,y]:=List.find?_range_eq_some.mp s
   rw[KI]at x
   let c:k<=runEnd u.mask (Nn u.mask h K).1-(Nn u.mask h K).1:=()
   refine #[nK u.mask h K+k,?_,by dsimp only;rw[at' k c],?_,λm b=>?_]
   .have:=Dg u.mask h K
    have:=sD u.mask (Nn u.mask h K).1
    unfold SetTable.turns at e ⊢
    omega
   .rw[at' k c]
    let[v,e1,e2]:=gd k c
    rw[e2]at t
    rw[e1]
    cases v with
    |none=>rfl
    |some _=>cases t
   .by_cases z:m<nK u.mask h K
    .exact occ m z
    .obtain⟨r,rfl⟩:∃r,m=nK u.mask h K+r:=#[m-nK u.mask h K,()]
     rw[at' r ()]
     let[v,e1,e2]:=gd r ()
     have:=y r ()
     rw[e2]at this
     rw[e1]
     cases v with
     |none=>cases this
     |some d=>exact #[d,rfl]
  |none=>
   let no:=List.find?_eq_none.mp s
   dsimp only
   refine tE g so h i o f (K+1) () λm b=>?_
   let b:m<nK u.mask h K+(runEnd u.mask (Nn u.mask h K).1-(Nn u.mask h K).1)+1:=b
   by_cases z:m<nK u.mask h K
   .exact occ m z
   .obtain⟨r,rfl⟩:∃r,m=nK u.mask h K+r:=#[m-nK u.mask h K,()]
    rw[at' r ()]
    let[v,e1,e2]:=gd r ()
    have:=no r (KI.mpr ())
    rw[e2]at this
    rw[e1]
    cases v with
    |none=>exact absurd rfl this
    |some d=>exact #[d,rfl]
structure Px(u:Kg)(owner:Array (Option Nat))(hs:ml):Prop where
 so:owner.size=u.mask+1
 all:∀k,k<hs.length->∃j:Nat,owner[j]?=MW (MW k)
 lt:∀(j k:Nat),owner[j]?=MW (MW k)->k<hs.length
 inj:∀(j j' k:Nat),owner[j]?=MW (MW k)->owner[j']?=MW (MW k)->j=j'
 way:∀(j k:Nat)(h:Int),owner[j]?=MW (MW k)->hs[k]?=MW h->∃n,n<10*turns u.mask/\(ad u n (u.probeStart h)).j=j/\∀m,m<n->∃k',owner[(ad u m (u.probeStart h)).j]?=MW (MW k')
def Px.step{u:Kg}(v:Rn u.mask){owner:Array (Option Nat)}{hs:ml}(O:Px u owner hs)(h:Int)(hl:hs.length<=u.mask):∃j,layClean.free u.mask owner (turns u.mask) (bits h%(u.mask+1)) (bits h)=MW j/\Px u (owner.setIfInBounds j (MW hs.length)) (hs++[h]):=by
 obtain⟨js,f,w⟩:∃js,js<=u.mask/\owner[js]?=MW MX:=Classical.byContradiction λno=>by
  let tot:∀j,j<=u.mask->∃k,owner[j]?=MW (MW k):=λj f=>by
   let l:j<owner.size:=by rw[O.so];omega
   cases e:owner[j]with
   |none=>exact absurd #[j,f,by rw[JT l,e]] no
   |some k=>exact #[k,by rw[JT l,e]]
  let nd:((JM (u.mask+1)).map λj=>((owner[j]?).getD MX).getD 0).Nodup:=by
   refine LY.mpr (List.Pairwise.imp_of_mem (λ{a b} ha y p q=>?_) List.nodup_range)
   rw[KI]at ha y
   let[k,e1]:=tot a ()
   let[r,e2]:=tot b ()
   rw[e1,e2]at q
   let q:k=r:=q
   subst q
   exact p (O.inj a b k e1 e2)
  have:=sub_len' (m:=JM hs.length) nd λx hx=>by let[j,f,8]:=JZ.mp hx;rw[KI]at f;let[k,e]:=tot j ();rw[e];exact KI.mpr (O.lt j k e)
  rw[J7,MG,MG]at this;omega
 let[n,n1,n2,n3,A]:=tE v O.so h f w (turns u.mask) 0 () (λm c=>absurd c (Nat.not_lt_zero _));exists _,n2;generalize B:(ad u n (u.probeStart h)).j=j at n3;let C:j<owner.size:=(Mu.mp n3).1
 let get:∀i,(owner.setIfInBounds j (MW hs.length))[i]?=if i=j then MW (MW hs.length)else owner[i]?:=λi=>by
  rw[Array.getElem?_setIfInBounds];by_cases z:j=i
  .subst z;rw[NB rfl,NB C,NB rfl]
  .rw[NA z,NA (λq=>z q.symm)]
 let g:∀(i k:Nat),owner[i]?=MW (MW k)->∃r,(owner.setIfInBounds j (MW hs.length))[i]?=MW (MW r):=λi k e=>by
  rw[get];split
  .exact #[_,rfl]
  .exact #[k,e]
 refine #[by rw[Array.size_setIfInBounds];exact O.so,λk s=>?_,λi k e=>?_,λi D k e d=>?_,λi k E e o=>?_]
 .rw[Ki]at s;let s:k<hs.length+1:=s;by_cases z:k=hs.length
  .subst z;exact #[j,by rw[get,NB rfl]]
  .obtain⟨i,e⟩:=O.all k ();exists i;rw[get,NA (λq=>by subst q;rw[n3]at e;cases e)];exact e
 .rw[Ki];show k<hs.length+1;rw[get]at e;split at e
  .cases e;omega
  .have:=O.lt i k e;omega
 .rw[get]at e d;split at e
  .cases e;split at d
   .rename_i a b;rw[a,b]
   .exact absurd (O.lt _ _ d) (KS _)
  .split at d
   .cases d;exact absurd (O.lt _ _ e) (KS _)
   .exact O.inj i D k e d
 .rw[get]at e;split at e
  .rename_i q;cases e;rw[K4 (Jo _),Nat.sub_self]at o;cases o;exact #[n,n1,by rw[B,q],λm c=>let⟨k,t⟩:=A m c;g _ k t]
  .rw[K7 (O.lt i k e)]at o;let[F,m1,m2,G]:=O.way i k E e o;exact #[F,m1,m2,λm c=>let⟨k,t⟩:=G m c;g _ k t]
def FV{u:Kg}(i:Rn u.mask){hashes:Array Int}(hl:hashes.size<=u.mask):∃owner,layClean u.mask hashes=MW owner/\Px u owner hashes.toList:=by
 let l:Px u (Array.replicate (u.mask+1) MX) []:=by
  let b:∀(j k:Nat),(Array.replicate (u.mask+1) (MX:Option Nat))[j]?≠MW (MW k):=λj k e=>by rw[Array.getElem?_replicate]at e;split at e<;>cases e
  exact #[by simp,λk m=>absurd m (Nat.not_lt_zero _),λj k e=>absurd e (b j k),λj p k e=>absurd e (b j k),λj k h e=>absurd e (b j k)]
 let run:∀(a done:ml)(owner:Array (Option Nat)),Px u owner done->done.length+a.length<=u.mask+1->done.length+a.length<=u.mask->
  ∃c,a.foldl (λ(f:Option (Array (Option Nat)×Nat)) h=>do
   let __x <-f
   match __x with
    |(owner,k)=>do
     let j <-layClean.free u.mask owner (turns u.mask) (bits h%(u.mask+1)) (bits h)
     pure (owner.setIfInBounds j (MW k),k+1)) (MW (owner,done.length))=MW (c,done.length+a.length)/\Px u c (done++a):=λa=>by
  induction a with
  |nil=>intro done owner O _ _;exact #[owner,8,by rw[KP];exact O]
  |cons h a n=>
   intro done owner O l1 l2
   rw[JE]at l1 l2
   let[j,e,o]:=O.step i h ()
   let[c,g,d]:=n (done++[h]) _ o (by rw[Ki];show done.length+1+_<=_;omega) (by rw[Ki];show done.length+1+_<=_;omega)
   refine #[c,?_,by rw[List.append_assoc]at d;exact d]
   rw[List.foldl_cons]
   have:(do
    let __x <-MW (owner,done.length)
    match __x with
     |(owner,k)=>do
      let j <-layClean.free u.mask owner (turns u.mask) (bits h%(u.mask+1)) (bits h)
      pure (owner.setIfInBounds j (MW k),k+1):Option (Array (Option Nat)×Nat))=MW (owner.setIfInBounds j (MW done.length),done.length+1):=by
    show((layClean.free u.mask owner (turns u.mask) (bits h%(u.mask+1)) (bits h)).bind λj=>MW (owner.setIfInBounds j (MW done.length),done.length+1))=_
    rw[e];rfl
   rw[this]
   rw[Ki]at g
   rw[JE,show done.length+(a.length+1)=done.length+[h].length+a.length by show _=done.length+1+a.length;omega]
   exact g
 let[c,e,O]:=run hashes.toList [] _ l (by simp;omega) ‹hl›;refine #[c,?_,‹O›];unfold layClean;rw[<-Array.foldl_toList];let e:List.foldl _ (MW (Array.replicate (u.mask+1) MX,0)) hashes.toList=MW (c,0+hashes.toList.length):=e;rw[e];rfl
theorem xI{a:Type}(g:Nat->Option a):∀(l:ma),(∀k∈l,(g k).isSome=MY)->∀i:Nat,(l.filterMap g)[i]?=l[i]?.bind g
 |[],_,i=>by simp
 |k::l,h,i=>by
  let[v,e]:=Option.isSome_iff_exists.mp (h k JW)
  rw[List.filterMap_cons_some e]
  cases i with
  |zero=>simp[e]
  |succ i=>simp only[List.getElem?_cons_succ];exact xI g l (λb c=>h b (JC _ c)) i
theorem An{a:Type}(g:Nat->Option a):∀(l:ma),(∀k∈l,(g k).isSome=MY)->(l.filterMap g).length=l.length
 |[],_=>rfl
 |k::l,h=>by
  let[v,e]:=Option.isSome_iff_exists.mp (h k JW)
  rw[List.filterMap_cons_some e,JE,JE,An g l λb c=>h b (JC _ c)]
def AL{M:Nat}(B:Rn M)(es:Array (Int×J3))(hl:es.size<=M)(fi t:Nat)(led plain:Bool) :
 ∃(u:Kg) (d:Array Nat),laid M fi t led plain (es.map (·.1))=MW (u,d)/\u.plain=plain/\u.led=led/\u.mask=M/\RA u (d.filterMap (es[·]?))/\d.toList.Perm (JM es.size):=by
 let[owner,G,O]:=FV (u:={ mask:=M,place:=#[],dummies:=#[],finger:=fi,led:=led,moves:=t,plain:=plain }) B (hashes:=es.map (·.1)) ‹hl›
 let so:owner.size=M+1:=O.so
 let gd:∀(j k:Nat),owner.getD j MX=MW k↔owner[j]?=MW (MW k):=λj k=>by
  by_cases l:j<owner.size
  .simp[Array.getD,l]
  .simp[Array.getD,l]
 generalize f:(JM (M+1)).filterMap (λj=>(owner.getD j MX).map (j,·))=c
 let mem:∀(j k:Nat),(j,k)∈c↔owner[j]?=MW (MW k):=λj k=>by
  rw[<-f,List.mem_filterMap]
  constructor
  .rintro⟨g,r,e⟩
   let[o,e1,e2]:=LH.mp e
   cases e2
   exact(gd _ _).mp e1
  .intro e
   let l:j<M+1:=by rw[<-so];exact(Mu.mp e).1
   exact #[j,KI.mpr l,by rw[(gd _ _).mpr e];rfl]
 let up:c.Pairwise (λp q=>p.1<q.1):=by
  rw[<-f]
  refine List.Pairwise.filterMap _ (λa L H b I N x=>?_) (List.pairwise_lt_range (n:=M+1))
  let[_,_,8]:=LH.mp I
  let[_,_,8]:=LH.mp x
  exact H
 let hs:∀k:Nat,(es.map (·.1)).toList[k]?=es[k]?.map (·.1):=λk=>by simp
 let v:(es.map (·.1)).toList.length=es.size:=by simp
 let lt:∀(j k:Nat),(j,k)∈c->k<es.size:=λj k h=>by
  have:=O.lt j k ((mem j k).mp h);rw[v]at this;exact this
 let w:∀k∈c.map (·.2),(es[k]?).isSome=MY:=λk s=>by
  obtain⟨⟨j,o⟩,h,rfl⟩:=JZ.mp s
  rw[JT (lt _ _ h)];rfl
 exists _,(c.map (·.2)).toArray,by unfold laid;rw[G];dsimp only[Option.bind_eq_bind,Option.bind_some,Option.pure_def];rw[f],8,8,8,?_
 .have C:((c.map (·.2)).toArray.filterMap (es[·]?)).toList=(c.map (·.2)).filterMap (es[·]?):=by rw[Array.toList_filterMap]
  let sz:((c.map (·.2)).toArray.filterMap (es[·]?)).size=c.length:=by
   rw[<-JG,C,An _ _ w,J7]
  let J:c.length<=M:=by
   let nd:(c.map (·.2)).Nodup:=by
    refine LY.mpr (up.imp_of_mem λ{p q} y z h e=>?_)
    let[j,k]:=p
    let[g,o]:=q
    let e:k=o:=e
    subst e
    have:=O.inj j g k ((mem j k).mp y) ((mem g k).mp z)
    let h:j<g:=h
    omega
   have:=sub_len' (m:=JM es.size) nd λk s=>by
    obtain⟨⟨j,o⟩,h,rfl⟩:=JZ.mp s
    exact KI.mpr (lt _ _ h)
   rw[J7,MG]at this
   omega
  refine #[B,8,?_,?_,?_,λi e j he r=>?_]
  .rw[sz];simp
  .show((c.map (·.1)).toArray).toList.Pairwise _
   exact LY.mpr up
  .rw[sz];exact J
  .rw[<-JX,C,xI _ _ w,JI]at he
   let r:((c.map (·.1)).toArray)[i]?=MW j:=r
   rw[<-JX]at r
   let r:(c.map (·.1))[i]?=MW j:=r
   rw[JI]at r
   obtain⟨⟨g,k⟩,D,rfl⟩:=LH.mp r
   rw[D]at he
   let he:es[k]?=MW e:=he
   let own:=(mem g k).mp (JN D)
   let[n,n1,n2,n3]:=O.way g k e.1 own (by rw[hs,he];rfl)
   let E:∀n q,ad { mask:=M,place:=(c.map (·.1)).toArray,dummies:=#[],finger:=fi,led:=led,moves:=t,plain:=plain } n q=ad { mask:=M,place:=#[],dummies:=#[],finger:=fi,led:=led,moves:=t,plain:=plain } n q:=λn q=>oz (by rfl) n q
   let F:∀q,probeStart { mask:=M,place:=(c.map (·.1)).toArray,dummies:=#[],finger:=fi,led:=led,moves:=t,plain:=plain } q=probeStart { mask:=M,place:=#[],dummies:=#[],finger:=fi,led:=led,moves:=t,plain:=plain } q:=λq=>l6 (by rfl) q
   refine #[n,n1,by rw[E,F];exact n2,λm A=>?_]
   rw[E,F]
   let[o,K]:=n3 m A
   show _∈c.map (·.1)
   exact JZ.mpr #[(_,o),(mem _ _).mpr K,rfl]
 .show(c.map (·.2)).Perm _
  let nd:(c.map (·.2)).Nodup:=by
   refine LY.mpr (up.imp_of_mem λ{p q} y z h e=>?_)
   let[j,k]:=p
   let[g,o]:=q
   let e:k=o:=e
   subst e
   have:=O.inj j g k ((mem j k).mp y) ((mem g k).mp z)
   let h:j<g:=h
   omega
  refine(List.perm_ext_iff_of_nodup nd List.nodup_range).mpr λk=>#[λs=>?_,λs=>?_]
  .obtain⟨⟨j,o⟩,h,rfl⟩:=JZ.mp s
   exact KI.mpr (lt _ _ h)
  .rw[KI]at s
   let[j,e]:=O.all k (by rw[v];exact s)
   exact JZ.mpr #[(j,k),(mem j k).mpr e,rfl]
theorem b6:Slot "set_iterator" "__next__" "set_iterator.__next__":=
 .of (owner:="set_iterator") (n:="__next__") (by rw[typeLookup_type,builtinLookup_eq_fast];kernel_rfl) (by decide +kernel) (by decide +kernel) (by decide +kernel)
  (by first|exact .inl (by decide +kernel)|exact .inr (by decide +kernel)) (by rw[isSubtype_type];kernel_rfl)
theorem iX:Slot "set_iterator" "__iter__" "set_iterator.__iter__":=
 .of (owner:="set_iterator") (n:="__iter__") (by rw[typeLookup_type,builtinLookup_eq_fast];kernel_rfl) (by decide +kernel) (by decide +kernel) (by decide +kernel)
  (by first|exact .inl (by decide +kernel)|exact .inr (by decide +kernel)) (by rw[isSubtype_type];kernel_rfl)
theorem gY:entryFor table "set_iterator.__next__"=MW LD.«set_iterator.__next__»:=entryFor_of_tree (by kernel_rfl)
def pS:Manifest.owners.lookup (String.ofList ['r','o','t','a','r','e','t','i','_','t','e','s'].reverse)=MW Manifest.sig_set_iterator:=by kernel_rfl
def iK(a:J3):argsOk "set_iterator.__next__" #[[a],[]]:=by unfold argsOk;rw[signature?_of (id:="set_iterator.__next__") (n:=['_','_','t','x','e','n','_','_']) (o:=['r','o','t','a','r','e','t','i','_','t','e','s']) (by kernel_rfl) pS];kernel_rfl
def oq(a:J3):argsOk "set_iterator.__iter__" #[[a],[]]:=by unfold argsOk;rw[signature?_of (id:="set_iterator.__iter__") (n:=['_','_','r','e','t','i','_','_']) (o:=['r','o','t','a','r','e','t','i','_','t','e','s']) (by kernel_rfl) pS];kernel_rfl
theorem nY:entryFor table "set.__iter__"=MW LD.«frozenset.__iter__»:=entryFor_alias (id':="frozenset.__iter__") (by kernel_rfl) rfl (by decide +kernel) (by kernel_rfl)
theorem tH{a:Type}:∀(l:List a)(i:Nat)(h:i<l.length),(l[i]::l.eraseIdx i).Perm l
 |x::l,0,_=>.rfl
 |x::l,i+1,h=>by
  rw[List.getElem_cons_succ,List.eraseIdx_cons_succ]
  exact(List.Perm.swap _ _ _).trans (List.Perm.cons x (tH l i ‹h›))
theorem uz{a:Type}(next:Nat->Nat):∀(f k:Nat)(left:List a)(out:Array a),left.length<=f->(pickOrder.go next f k left out).toList.Perm (out.toList++left)
 |0,k,left,out,h=>by
  obtain rfl:left=[]:=KR.mp ()
  rw[KP];exact .rfl
 |f+1,k,left,out,h=>by
  rw[pickOrder.go]
  cases e:left[next k%left.length]? with
  |none=>
   dsimp only
   have:=List.getElem?_eq_none_iff.mp e
   have:left.length=0:=by
    rcases Nat.eq_zero_or_pos left.length with z|z
    .exact z
    .have:=Nat.mod_lt (next k) z;omega
   obtain rfl:=KR.mp this
   rw[KP]
  |some x=>
   dsimp only
   let[l,b]:=Jp.mp e
   have:=uz next f (k+1) (left.eraseIdx (next k%left.length)) (out.push x) (by rw[List.length_eraseIdx_of_lt l];omega)
   refine this.trans ?_
   rw[Array.toList_push,List.append_assoc]
   refine List.Perm.append_left _ ?_
   let p:=tH left _ l
   rw[b]at p
   exact p
def BM{a:Type}(next:Nat->Nat)(xs:Array a):(pickOrder next xs).toList.Perm xs.toList:=by have:=uz next xs.size 0 xs.toList #[] (_);unfold pickOrder;simpa using this
def Qz(w:JP)(a ep:Nat)(es:Array (Int×J3)):Array (Int×J3):=if w.params.followText "set-order" then pickOrder (w.params.setOrder a ep) es else es
def t5(w:JP)(a ep:Nat)(es:Array (Int×J3)):(Qz w a ep es).toList.Perm es.toList:=by
 unfold Qz;split
 .exact BM _ _
 .exact .rfl
def kn(w:JP)(a ep:Nat)(es:Array (Int×J3)):(Qz w a ep es).size=es.size:=by have:=(t5 w a ep es).length_eq;simpa using this
structure OY(w:JP)(h:lj)(a:k_)(o:Obj)(es:Array (Int×J3))(ep:Nat)(t:Kg):Prop where
 get:h.get? a=MW o
 ex:o.ExactSet
 data:o.data=.set es ep t
 fits:t.fits es.size=MY
 pl:t.plain=MY
 led:t.led=!w.params.followText "set-order"
 up:t.place.toList.Pairwise (· < ·)
 sz:t.place.size=es.size
def ZG(t:Kg):Nat->Nat
 |0=>0
 |i+1=>(t.place[i]?).getD 0+1
def QH(w:JP)(t:Kg)(i:Nat):Nat:=if w.params.followText "set-order" then 0 else ZG t i
def RL(w:JP)(h:lj)(it a:k_)(i n ep:Nat)(t:Kg):Prop:=∃o,h.get? it=MW o/\o.cls=.type "set_iterator"/\o.data=.fields (List.toArray [Lw (QH w t i),Lw i,.ref a,Lw n,Lw ep])
section
variable{prog:Jv}{w:JP}{A:JQ}{E:J3->J4->Prop}{s:J4}{a it:k_}{o:Obj}{es:Array (Int×J3)}{ep i:Nat}{t:Kg}
theorem OY.ty(h:OY w s.heap a o es ep t):s.TypeIs (.ref a) "set":=#[o,h.get,h.ex.1]
theorem OY.kept{h h':lj}(q:OY w h a o es ep t)(k:∀o,h.get? a=MW o->h'.get? a=MW o):OY w h' a o es ep t:={ q with get:=k o q.get }
theorem OY.lt{h:lj}(q:OY w h a o es ep t):a<h.objs.size:=Js q.get
theorem RL.ty{n:Nat}(h:RL w s.heap it a i n ep t):s.TypeIs (.ref it) "set_iterator":=let⟨o,g,c,_⟩:=h;#[o,g,c]
theorem RL.at{h h':lj}{n:Nat}(q:RL w h it a i n ep t)(k:∀o,h.get? it=MW o->h'.get? it=MW o):RL w h' it a i n ep t:=let⟨o,g,r⟩:=q;#[o,k o g,r]
def vC{Q:J3->J4->Prop}(b:OY w s.heap a o es ep t)
 (q:Q (.ref s.z) { s with heap:=s.heap.push { cls:=.type "set_iterator",data:=.fields (List.toArray [Lw 0,Lw 0,.ref a,Lw es.size,Lw ep]) } }):Jq (Ju prog w) A (pyIter (.ref a)) Q E s:=by
 let c:=b.ty
 refine wpAny_pyIter_slot c F.slot_set_iter (KQ F.slot_set_iter c nY ?_ (F.args_set_iter_1 _))
 unfold LD.«frozenset.__iter__» Builtin.Frozenset.slot0 slotArgs
 simp only[List.isEmpty_nil,KD,JD,↓reduceIte,MK,Me,bne_self_eq_false]
 unfold Builtin.Frozenset.addrOf Builtin.Frozenset.sizeOf
 refine J0 (J5 ?_)
 try dsimp only
 refine J0 (J5 ?_)
 refine J0 (J0 (wpAny_setEntries_of b.get b.data b.fits (J5 ?_)))
 unfold setDrawn
 refine J0 (J0 (wpAny_setState_of b.get b.data b.fits ?_))
 dsimp only
 unfold setsByText
 refine J0 (J0 (Mr (J5 (J5 ?_))))
 show Jq _ _ _ _ _ _
 let hd:(!t.plain&&decide (es.size>1))=MZ:=by rw[b.pl];rfl
 refine wpAny_ite_split (λd=>absurd d ?_) λ_=>J0 (J5 ?_)
 .show ¬(!_&&(!t.plain&&decide (es.size>1)))=MY
  rw[hd,Bool.and_false];exact JO
 refine J0 (wpAny_setEpoch_of b.get b.data b.fits ?_)
 unfold newFields
 refine J0 (Kf (J5 #[7,"set_iterator",_,#[_,Jt _ rfl,rfl],b6.lookup,?_]))
 exact q
end
theorem x8{t:Kg}(up:t.place.toList.Pairwise (· < ·)):∀i,i<=t.place.size->below t.place (ZG t i)=i
 |0,_=>by
  let[b,b1,a]:=below_at (j:=0) up
  show below t.place 0=0
  rcases Nat.eq_zero_or_pos (below t.place 0)with z|z
  .exact z
  .have:=b1 0 _ z (JT ());omega
 |i+1,h=>by
  let hi:i<t.place.size:=()
  let e:t.place[i]?=MW t.place[i]:=JT hi
  show below t.place ((t.place[i]?).getD 0+1)=i+1
  rw[e,Option.getD_some]
  let[b,b1,a]:=below_at (j:=t.place[i]+1) up
  rcases ME (below t.place (t.place[i]+1)) (i+1)with z|z|z
  .have:=a i _ () e;omega
  .exact z
  .have l:i+1<t.place.size:=()
   have:=b1 (i+1) _ z (JT l)
   have:=Kd.mp up i (i+1) ‹hi› ‹l› ()
   simp at this
   omega
section
variable{prog:Jv}{w:JP}{A:JQ}{E:J3->J4->Prop}{s:J4}{a it:k_}{o:Obj}{es:Array (Int×J3)}{ep i:Nat}{t:Kg}
def lC{Q:Option (J3×Nat)->J4->Prop}(b:OY w s.heap a o es ep t)(hi:i<=es.size)
 (q:Q (((Qz w a ep es)[i]?).map λe=>(e.2,QH w t (i+1))) s):Jq (Ju prog w) A (setNext a (QH w t i) i ep) Q E s:=by
 unfold setNext
 refine J0 (wpAny_setState_of b.get b.data b.fits ?_)
 dsimp only
 unfold setsByText
 refine J0 (J0 (Mr (J5 ?_)))
 show Jq _ _ (if w.params.followText "set-order"=MY then _ else _) _ _ _
 by_cases c:w.params.followText "set-order"=MY
 .rw[NB c,NA (_)]
  unfold setWalk
  refine J0 (J0 (wpAny_setState_of b.get b.data b.fits ?_))
  dsimp only
  unfold setsByText
  refine J0 (J0 (Mr (J5 ?_)))
  show Jq _ _ (if w.params.followText "set-order"=MY then _ else _) _ _ _
  rw[NB c]
  refine J0 (Mr (J5 (J5 ?_)))
  unfold Qz QH at q
  rw[NB c,NB c]at q
  unfold QH
  rw[NB c]
  exact q
 .rw[NA c]
  let d:w.params.followText "set-order"=MZ:=‹c›
  show Jq _ _ (if(!t.plain&&decide (es.size>1))=MY then _ else _) _ _ _
  rw[b.pl]
  simp only[KD,Bool.false_and,JD,if_false,Lb]
  show Jq _ _ ((if(!t.led&&!es.isEmpty)=MY then unsupported "set:maker-not-led" else pure PUnit.unit) >>= _) _ _ _
  rw[b.led,d]
  simp only[Bool.not_false,KD,Bool.false_and,JD,if_false,Lb]
  refine J5 ?_
  unfold Qz QH at q
  rw[NA c,NA c]at q
  unfold QH
  rw[NA c,x8 b.up i (by rw[b.sz];exact hi)]
  let q:Q (es[i]?.map λe=>(e.2,(t.place[i]?).getD 0+1)) s:=q
  by_cases l:i<es.size
  .have f:i<t.place.size:=by rw[b.sz];exact l
   rw[JT l,JT f]at q ⊢
   exact q
  .rw[Mn (():es.size<=i),Mn (show t.place.size<=i by rw[b.sz];omega)]at q ⊢
   exact q
def wm{Q:Option J3->J4->Prop}(b:RL w s.heap it a i es.size ep t)(c:OY w s.heap a o es ep t){e:Int×J3}(hi:(Qz w a ep es)[i]?=MW e)
 (h:∀h':lj,RL w h' it a (i+1) es.size ep t->LN it s.heap h'->Q (MW e.2) { s with heap:=h' }):Jq (Ju prog w) A (MU (.ref it)) Q E s:=by
 let[k,d,j,hd]:=id b
 let g:=b.ty
 let l:i<es.size:=by rw[<-kn w a ep es];exact(Mu.mp hi).1
 unfold MU
 refine J0 (wpAny_attempt (Lz (name:=Km "__next__") g b6 (KQ b6 g gY ?_ (iK _))))
 unfold LD.«set_iterator.__next__» slotArgs
 simp only[List.isEmpty_nil,KD,JD,↓reduceIte,Me,bne_self_eq_false,Lb]
 refine J0 (wpAny_fieldsOf d hd ?_)
 simp only[Lw]
 refine J0 (wpAny_setEntries_of c.get c.data c.fits ?_)
 simp only[bne_self_eq_false,JD,if_false,Lb,Lf]
 refine J0 (lC c () ?_)
 rw[hi]
 dsimp only[Option.map_some]
 refine J0 (wpAny_setField d hd (_) ?_)
 let g1:=KC (Obj.mapFields (·.setIfInBounds 0 (Lw (QH w t (i+1))))) d (Obj.isFreed_of_fields (Mt hd _))
 let f:=Mt hd (·.setIfInBounds 0 (Lw (QH w t (i+1))))
 refine J0 (wpAny_setField (s:={ s with heap:=s.heap.update it (Obj.mapFields (·.setIfInBounds 0 (Lw (QH w t (i+1))))) }) g1 f (_) ?_)
 let n1:((s.heap.update it (Obj.mapFields (·.setIfInBounds 0 (Lw (QH w t (i+1)))))).update it (Obj.mapFields (·.setIfInBounds 1 (Lw ((i:Int)+1))))).get? it=MW _:=
  KC _ g1 (Obj.isFreed_of_fields (Mt f _))
 refine J5 #[7,J5 (h _ #[_,n1,?_,?_] ((Heap.SameBut.update ..).trans (Heap.SameBut.update ..)))]
 .exact(Obj.cls_mapFields ..).trans ((Obj.cls_mapFields ..).trans j)
 .rw[Mt f];simp[Lw]
def Af{Q:Option J3->J4->Prop}(g:A.handled=MX)(c:RL w s.heap it a es.size es.size ep t)(d:OY w s.heap a o es ep t)
 (h:∀h',Heap.ExtBut it s.heap h'->Q MX { s with heap:=h' }):Jq (Ju prog w) A (MU (.ref it)) Q E s:=by
 let[j,e,k,hd]:=id c
 let f:=c.ty
 unfold MU
 refine J0 (wpAny_attempt (Lz (name:=Km "__next__") f b6 (KQ b6 f gY ?_ (iK _))))
 unfold LD.«set_iterator.__next__» slotArgs
 simp only[List.isEmpty_nil,KD,JD,↓reduceIte,Me,bne_self_eq_false,Lb]
 refine J0 (wpAny_fieldsOf e hd ?_)
 simp only[Lw]
 refine J0 (wpAny_setEntries_of d.get d.data d.fits ?_)
 simp only[bne_self_eq_false,JD,if_false,Lb,Lf]
 refine J0 (lC d (Jo _) ?_)
 rw[Mn (by rw[kn];exact Jo _)]
 dsimp only[Option.map_none]
 refine J0 (wpAny_setField e hd (_) ?_)
 refine J0 ?_
 simp only[newExc,newTuple]
 refine J0 (Kf ?_ (by size_fits))
 refine J0 (m:=firstArgMember _ _) (wpAny_of_eq (a:=Lg) (by first|rfl|(simp only[firstArgMember];rfl)) ?_)
 refine Kf ?_ (by size_fits)
 simp only[raiseNew]
 refine J0 (wpAny_handled ?_)
 rw[show A.in1.handled=MX from g]
 refine J0 (J5 (wpAny_throw ?_))
 refine J0 (Mp (T:="StopIteration") (b:=MY) #[_,Jt _ rfl,rfl] isSubtype_stop ?_)
 exact J5 (h _ (((Heap.SameBut.update ..).extBut.push _).push _))
end
theorem mC:entryFor table "set_iterator.__iter__"=MW LD.«dict_keyiterator.__iter__»:=entryFor_alias (id':="dict_keyiterator.__iter__") (by kernel_rfl) rfl (by decide +kernel) (by kernel_rfl)
section
variable{prog:Jv}{w:JP}{A:JQ}{E:J3->J4->Prop}{s:J4}{a it:k_}{o:Obj}{es:Array (Int×J3)}{ep i:Nat}{t:Kg}
def zb{Q:Bool->J4->Prop}(d:s.TypeIs (.ref a) "set")(h:Q MZ s):Jq (Ju prog w) A (Builtin.List.listLengthHint (.ref a)) Q E s:=by
 unfold Builtin.List.listLengthHint;refine J0 (wpAny_specialOf d PySem.F.slot_set_len.lookup ?_);generalize c:("set.__len__":String)=e
 wp_delta
 rw[show splitId e=MW ("set","__len__")from by subst c;decide +kernel];subst c;refine J0 (Mp (T:="set") (b:=MY) d (by rw[isSubtype_type];kernel_rfl) ?_);refine wpAny_ite_split (λhab=>absurd hab ⋯) (λ_=>?_);refine wpAny_ite_split (λ_=>?_) (λhab=>absurd (by decide +kernel) hab);refine J0 (wpAny_typeOf d ?_);exact J5 h
theorem sG(m:A.handled=MX)(I a:k_)(g:a≠I):Walks prog w A I [I,a] [I] es.size (λi v=>∃e,(Qz w a ep es)[i]?=MW e/\v=e.2) (λi h=>RL w h I a i es.size ep t/\OY w h a o es ep t) where
 sub:=λb c=>by simp at c;simp[c]
 frame:=λ_ _ _ st k=>#[st.1.at λo e=>k I (_) o e,st.2.kept λo e=>k a (_) o e]
 item:=λi s Q E hi st d=>by
  let f:i<(Qz w a ep es).size:=by rw[kn];exact hi
  exact wm st.1 st.2 (JT f) λj n1 l=>d _ j s.toks #[_,JT f,rfl] #[n1,st.2.kept λo e=>(l.2 a g).trans e] λb o c e=>l.extBut b o (λh=>c (by simp[h])) e
 done:=λs Q E st d=>Af m st.1 st.2 λj he=>d j s.toks λb o c e=>he b o (λh=>c (by simp[h])) e
 self:=λ_ _ _ _ st d=>by
  refine wpAny_pyIter_slot st.1.ty iX (KQ iX st.1.ty mC ?_ (oq _))
  show Jq _ _ (ret (.ref I)) _ _ _
  exact J5 #[7,"set_iterator",_,st.1.ty,b6.lookup,d]
theorem xM:PySem.W.KdlSrc prog w "set" a a es.size (λi v=>∃e,(Qz w a ep es)[i]?=MW e/\v=e.2) (λh=>OY w h a o es ep t) where
 type:=λ_ b=>b.ty
 there:=λ_ b=>#[b.lt,b.lt]
 keep:=λ_ _ b d=>b.kept λo e=>d a (.inl rfl) o e
 notList:=⋯
 notTuple:=⋯
 hint:=λ_ _ _ _ b c=>zb b.ty c
 iter:=λ_ _ f b=>#[_,_,(λ_ _ c=>vC b c),sG f _ a (JH b.lt),#[#[_,Jt _ rfl,8,by unfold QH;split<;>rfl],b.kept λo e=>J6 _ e]]
end
open PySem PySem.SetTable PyProof.Rows PySem.F
section
variable{P:Jv}{w:JP}{A:JQ}{E:J3->J4->Prop}{s:J4}
abbrev gQ(w:JP):Bool:=!w.params.followText "set-order"
end
section
variable{prog:Jv}{w:JP}{A:JQ}{E:J3->J4->Prop}{s:J4}{T:String}{r d:k_}{n:Nat}{P:Nat->J3->Prop}{OK:lj->Prop}
def zF{Q:List J3->J4->Prop}(K:PySem.W.KdlSrc prog w T r d n P OK)(m:A.handled=MX)(hok:OK s.heap)(p:n<=JJ)
 (h:∀h' tk (a:Array J3),(∀b o,s.heap.get? b=MW o->h'.get? b=MW o)->s.z<h'.objs.size->ItemsOf P a n->Q a.toList { s with heap:=h',toks:=tk }):Jq (Ju prog w) A (collect (.ref r)) Q E s:=by
 unfold collect
 refine J0 (wpAny_runValue (codeAny_builtin entry_proto_collect' ?_))
 show Jq _ _ (do again (.builtin "list.__iadd__" #[[<-newList [],.ref r],[]])) _ _ s
 refine J0 (wpAny_newList (J5 #[Code.quiet_builtin _ (by decide +kernel),codeAny_builtin entry_list_iadd' ?_]))
 show Jq _ _ (Builtin.List.listExtendWith (.ref s.z) (.ref r) (.ref s.z)) _ _ { s with heap:=s.heap.push (K9 "list" #[] 0) }
 let g:=K.there _ hok
 let i:(s.heap.push (K9 "list" #[] 0)).get? s.z=MW { cls:=.type "list",data:=.seq #[] 0 }:=Jt _ rfl
 rw[Around.under_plain rfl rfl]
 refine Jx (PySem.W.kdl_extend (s:={ s with heap:=s.heap.push (K9 "list" #[] 0) }) (R:=λr j=>r=.ok (.ret (.ref s.z))/\Jq (Ju prog w) A (do
  let o <-load s.z
  match o.data with
  |.seq xs _=>pure xs.toList
  |_=>unsupported "internal:collect") Q E j) K m (K.keep _ _ hok λb _ o e=>J6 _ e) s.z (Nat.ne_of_gt g.1) (Nat.ne_of_gt g.2) (.ref s.z) 0 i (λh' tk a c q l it=>#[8,?_]) p) (λk j z=>?_) (λe j z=>by cases z.1)
 .exact J0 (wpAny_load l (J5 (h h' tk a (λb o e=>q b o (JH (Js e)) (J6 _ e)) (Js l) it)))
 .cases k with
  |done f=>
   let[t,u]:=z
   cases t
   exact u
  |again x=>exact #[z.1,MB z.2 λr B y=>by let[y1,v]:=y;subst y1;exact v]
end
def me{d i:Type}{f:d->i}{l m:List i}(p:l.Perm m):∀xs:List d,m=xs.map f->∃c:List d,c.Perm xs/\l=c.map f:=by
 induction p with
 |nil=>intro xs e;exact #[xs,.rfl,e]
 |cons x _ j=>
  intro xs e
  cases xs with
  |nil=>cases e
  |cons y xs=>
   rw[J9]at e
   injection e with e1 e2
   let[c,p,e3]:=j xs e2
   exact #[y::c,p.cons y,by rw[J9,e1,e3]]
 |swap x y l=>
  intro xs e
  match xs,e with
  |a::b::xs,e=>
   rw[J9,J9]at e
   injection e with e1 e2
   injection e2 with e2 e3
   exact #[b::a::xs,.swap a b xs,by rw[J9,J9,e1,e2,e3]]
 |trans _ _ g h=>
  intro xs e
  let[c,p,e1]:=h xs e
  let[k,q,e2]:=g c e1
  exact #[k,q.trans p,e2]
section
variable{P:Jv}{w:JP}{A:JQ}{E:J3->J4->Prop}{s:J4}
abbrev RM:=Int×Tok
def oV(x:RM):Int×J3:=(hashInt x.1,.int x.1 x.2)
structure RH(h:lj)(a:k_)(o:Obj)(es:Array (Int×J3))(ep:Nat)(t:Kg)(xs:List RM):Prop where
 get:h.get? a=MW o
 ex:o.ExactSet
 data:o.data=.set es ep t
 ents:es.toList=xs.map oV
 ok:RA t es
 pl:t.plain=MY
 nd:(xs.map (·.1)).Nodup
 lo:t.mask=7->es.size<=4
 hi:es.size<=18
def RH.len{h:lj}{a:k_}{o:Obj}{es:Array (Int×J3)}{ep:Nat}{t:Kg}{xs:List RM}(S:RH h a o es ep t xs):es.size=xs.length:=by rw[<-JG,S.ents,J7]
theorem XA(k:Int)(t:Tok):(LC P w).is k (.int k t)=MY:=intKind_is _ _ _ _
theorem ED(xs:List RM):ElemsOf (LC P w) (xs.map oV):=λe he=>by let[x,_,8]:=JZ.mp he;exact #[#[x.1,XA _ _,rfl],rfl]
def Ee{xs:List RM}{k:Int}:((∃j,(xs.map oV).findIdx? (λe=>(LC P w).is k e.2)=MW j)/\k∈xs.map (·.1))\/((xs.map oV).findIdx? (λe=>(LC P w).is k e.2)=MX/\k∉xs.map (·.1)):=by
 let key:∀x:RM,(LC P w).is k (oV x).2=decide (k=x.1):=λx=>KeyKind.is_eq_decide (XA x.1 x.2) k;cases b:(xs.map oV).findIdx? (λe=>(LC P w).is k e.2)with
 |some j=>
  let[c,a,_]:=List.findIdx?_eq_some_iff_getElem.mp b
  refine .inl #[#[j,rfl],?_]
  rw[J7]at c
  rw[List.getElem_map,key]at a
  exact JZ.mpr #[xs[j],Lc c,(NF a).symm]
 |none=>
  refine .inr #[8,λm=>?_]
  let[x,hx,e]:=JZ.mp m
  have:=List.findIdx?_eq_none_iff.mp b _ (JZ.mpr #[x,hx,rfl])
  rw[key,ND e.symm]at this
  cases this
def RH.store{h:lj}{a:k_}{o:Obj}{es es':Array (Int×J3)}{ep:Nat}{t t':Kg}(get:h.get? a=MW o)(data:o.data=.set es ep t) :
 (h.update a (Obj.putSet es' t')).get? a=MW { o with data:=.set es' (ep+1) t' }:=by
 have:=KC (Obj.putSet es' t') get (by rw[putSet_of es' t' data];rfl)
 rw[putSet_of es' t' data]at this;exact this
def Fu{t:Kg}{es:Array (Int×J3)}(T:RA t es)(h:Int):∃N,N<10*turns t.mask/\(ad t N (t.probeStart h)).j∉t.place.toList/\(∀m,m<N->(ad t m (t.probeStart h)).j∈t.place.toList)/\t.freeSlot h=MW ((ad t N (t.probeStart h)).j,MZ):=by
 let[N,c,a,b]:=T.first h;exists N,c,a,b
 let d:∀m,m<N->∃i,t.slot (ad t m (t.probeStart h)).j=.live i/\((λ_:Nat=>h+1) i==h)=MZ:=λm f=>by
  rcases Cs T.up T.dm (ad t m (t.probeStart h)).j with⟨_,q⟩|⟨i,g,_⟩
  .exact absurd (b m f) q
  .exact #[i,g,beq_eq_false_iff_ne.mpr (():h+1≠h)]
 let e:t.probe (λ_=>h+1) h (t.probeStart h)=MW (.empty (ad t N (t.probeStart h)).j MX):=qd (hashAt:=λ_=>h+1) (h:=h) N (10*turns t.mask) (t.probeStart h) c rfl d (kP T.up T.dm a);unfold SetTable.freeSlot;rw[e];rfl
def add_int{a:k_}{o:Obj}{es:Array (Int×J3)}{ep:Nat}{t:Kg}{xs:List RM}(S:RH s.heap a o es ep t xs){k:Int}{tk:Tok}(n:k∉xs.map (·.1)->xs.length+1<=18){Q:Bool->J4->Prop}
 (h:∀r h' X es' G t' y,LN a s.heap h'->RH h' a X es' G t' y->t'.led=t.led->(k∈xs.map (·.1)/\y=xs\/k∉xs.map (·.1)/\y.Perm ((k,tk)::xs))->Q r { s with heap:=h' }) :
 Jq (Ju P w) A (setAddHashed a (.int k tk) (hashInt k)) Q E s:=by
 let B:ElemsOf (LC P w) es.toList:=by rw[S.ents];exact ED xs
 let Y:es.size<scanBound:=by have:=S.hi;unfold scanBound;omega
 let L:=S.ok.fits
 unfold setAddHashed setAddHashedIn
 refine Kl (J0 (wpAny_setState_of S.get S.data L ?_))
 dsimp only
 rw[byScan_of (knd:=LC P w) (x:=.int k tk) rfl Y B]
 simp only[↓reduceIte]
 unfold setAddByScan
 refine J0 ?_
 refine J0 (wpAny_rule ?_)
 refine J0 (wpAny_setScan_of (knd:=LC P w) (k:=k) (XA k tk) S.get S.data L B ?_)
 rw[S.ents]
 rcases Ee (P:=P) (w:=w) (xs:=xs) (k:=k)with⟨⟨j,e⟩,mem⟩|⟨e,nm⟩
 .rw[e]
  dsimp only
  refine J5 (J5 ?_)
  exact h _ s.heap _ _ _ _ _ (Heap.SameBut.refl a s.heap) S rfl (.inl #[mem,rfl])
 .rw[e]
  dsimp only
  let rm:=n nm
  let Z:=S.len
  let r1:es.size+1<=t.mask:=by
   rcases S.ok.ms with q|q
   .have:=S.lo q;omega
   .omega
  let[N,hN,H,I,fr]:=Fu S.ok (hashInt k)
  let T:=S.ok.put (.int k tk) hN H I r1
  let O:layNew t es (hashInt k) (.int k tk)=(KY es (t.put (ad t N (t.probeStart (hashInt k))).j).2 (hashInt k,.int k tk),(t.put (ad t N (t.probeStart (hashInt k))).j).1,MZ,MZ):=by
   unfold layNew
   rw[fr]
   dsimp only
   unfold SetTable.orStandIn
   rw[T.fits]
   rfl
  rw[O]
  clear O fr
  generalize hj:(ad t N (t.probeStart (hashInt k))).j=j at T
  let f:(t.put j).1.plain=MY:=S.pl
  let l:(t.put j).1.led=t.led:=rfl
  let g:(t.put j).1.mask=t.mask:=rfl
  generalize t.put j=tp at T f l g
  let[u,p]:=tp
  dsimp only at T f l g ⊢
  refine J0 (J5 ?_)
  rw[f,NB rfl]
  rw[hashByValue_scannable 8 rfl]
  refine J0 (J5 ?_)
  rw[show plainKind (KZ k tk)=MY from rfl,NB rfl]
  let D:(KY es p (hashInt k,KZ k tk)).toList=(bT xs p (k,tk)).map oV:=by
   rw[EA,S.ents]
   unfold bT
   rw[Kr,J9,List.map_take,List.map_drop];rfl
  let F:(bT xs p (k,tk)).Perm ((k,tk)::xs):=by
   unfold bT
   have:=List.perm_middle (a:=(k,tk)) (l₁:=xs.take p) (l₂:=xs.drop p)
   rw[Mv]at this;exact this
  let sz:(KY es p (hashInt k,KZ k tk)).size=es.size+1:=by
   rw[<-JG,D,J7,F.length_eq,JE,Z]
  let nd:((bT xs p (k,tk)).map (·.1)).Nodup:=(F.map (·.1)).nodup_iff.mpr (Md.mpr #[nm,S.nd])
  let g1:=RH.store (es':=KY es p (hashInt k,KZ k tk)) (t':=u) S.get S.data
  refine J0 (wpAny_storeSet_of S.get S.data ?_ (fits_of_scanBound (by rw[sz];unfold scanBound;omega)))
  let R:=Heap.SameBut.update s.heap a (Obj.putSet (KY es p (hashInt k,KZ k tk)) u)
  let m:u.fill=es.size+1:=by unfold SetTable.fill;rw[T.dm,T.sz,sz];rfl
  by_cases d:t.mask=7/\es.size=4
  .have J:u.tooFull=MY:=by unfold SetTable.tooFull;rw[m,g,d.1,d.2];rfl
   rw[J]
   simp only[Bool.not_false,Bool.and_self,if_true]
   rw[show SetTable.grown (KY es p (hashInt k,KZ k tk)).size=20 by rw[sz,d.2];rfl]
   generalize a0:KY es p (hashInt k,KZ k tk)=c at *
   let[v,b,e,e1,e2,e3,U,V]:=AL (M:=31) (.inr rfl) c () u.finger (u.movedTo 31) u.led u.plain
   let er:u.relaid (c.map (·.1)) 20=MW (v,b):=e
   let l1:c.size=(bT xs p (k,tk)).length:=by rw[<-JG,D,J7]
   let W:(b.filterMap (c[·]?)).toList=(b.toList.filterMap ((bT xs p (k,tk))[·]?)).map oV:=by
    rw[Array.toList_filterMap,List.map_filterMap]
    congr 1
    funext i
    rw[<-JX,D,JI]
   let K:(b.toList.filterMap ((bT xs p (k,tk))[·]?)).Perm (bT xs p (k,tk)):=by
    have:=V.filterMap ((bT xs p (k,tk))[·]?)
    rw[l1,List.filterMap_getElem?_range_length]at this
    exact this
   let C:(b.filterMap (c[·]?)).size=c.size:=by
    rw[<-JG,W,J7,K.length_eq,l1]
   let eR:relayAll u c 20=(b.filterMap (c[·]?),v,MZ):=by
    unfold relayAll
    rw[er]
    dsimp only
    rw[show coversAll b c.size=MY from List.isPerm_iff.mpr V,U.fits]
    rfl
   rw[eR]
   dsimp only
   refine J0 (J5 ?_)
   let g2:=RH.store (es':=b.filterMap (c[·]?)) (t':=v) g1 rfl
   refine J0 (wpAny_storeSet_of g1 rfl ?_ (fits_of_scanBound (by rw[C,sz];unfold scanBound;omega)))
   refine J5 (J5 (h _ _ _ _ _ _ _ (R.trans (Heap.SameBut.update _ a _)) #[g2,S.ex,8,W,U,by rw[e1];exact f,(K.map (·.1)).nodup_iff.mpr nd,(λq=>by rw[e3]at q;cases q),by rw[C,sz];omega] (e2.trans l) (.inr #[nm,K.trans F])))
  .have J:u.tooFull=MZ:=by
    unfold SetTable.tooFull;rw[m,g,decide_eq_false_iff_not]
    rcases S.ok.ms with q|q
    .have:=S.lo q
     have:es.size≠4:=λz=>d #[q,z]
     rw[q];omega
    .rw[q];omega
   rw[J]
   simp only[Bool.and_false,JD,if_false,Lb]
   refine J5 (J5 (h _ _ _ _ _ _ _ R #[g1,S.ex,8,D,T,f,nd,λq=>?_,by rw[sz];omega] l (.inr #[nm,F])))
   rw[g]at q
   have:=S.lo q
   have:es.size≠4:=λz=>d #[q,z]
   rw[sz];omega
end
section
variable{P:Jv}{w:JP}
def Iy(h:lj)(a:k_)(ks:ml)(i:Nat)(L:Bool):Prop:=∃o es ep t xs,RH h a o es ep t xs/\t.led=L/\∀y,y∈xs.map (·.1)↔y∈ks.take i
theorem sM{h:lj}{a:k_}{ks:ml}{L:Bool}(b:h.get? a=MW { cls:=.type "set",dict:=MX,data:=.set #[] 0 (.fresh 0 0 L) }):Iy h a ks 0 L:=#[_,_,_,_,[],#[b,#[8,8,rfl],8,8,#[.inl rfl,8,8,by simp[SetTable.fresh],Kh _,λi e j he=>by simp at he],8,List.nodup_nil,λ_=>Kh _,Kh _],8,λy=>by simp]
variable{A:JQ}{R:Result->J4->Prop}{I:k_}{fp wr:m_}{G:Array GenState->Array GenState->Prop}{St:Nat->J4->Prop}
end
section
variable{prog:Jv}{w:JP}{A:JQ}{E:J3->J4->Prop}{s:J4}{T:String}{r d:k_}{n:Nat}{P:Nat->J3->Prop}{OK:lj->Prop}
def zN{vs:List J3}{ns:ml}{Q:J3->J4->Prop}(K:PySem.W.KdlSrc prog w T r d n P OK)(k:A.handled=MX)(hok:OK s.heap)(p:n<=JJ)(g:∀c,ItemsOf P c n->c.toList=vs)(t:L6 vs ns)(i:vs.length<64)
 (h:∀(h':lj)(tk:Nat)(l:k_)(e:Nat)(out:Array J3)(a:ml),(∀b o,s.heap.get? b=MW o->h'.get? b=MW o)->s.z<=l->h'.get? l=MW (K9 "list" out e)->L6 out.toList a->a.Perm ns->a.Pairwise (·<=·)->Q (.ref l) { s with heap:=h',toks:=tk }):Jq (Ju prog w) A (call (.builtin "sorted") [.ref r]) Q E s:=by
 refine Calls.call_function_entry kind_sorted plain_sorted entry_sorted (args_sorted1 _) ?_
 unfold LD.«sorted»
 refine J0 (m:=checkCount "sorted" 1 1 _) (J5 (J0 (zF K k hok p λh1 tk c kp lt it=>?_)))
 rw[g c it]
 refine J0 (wpAny_newList ?_ (by rw[Ku];omega))
 let f:(h1.push (K9 "list" vs.toArray 0)).get? h1.objs.size=MW (K9 "list" vs.toArray 0):=Jt _ rfl
 show Jq _ _ _ _ _ { s with heap:=h1.push (K9 "list" vs.toArray 0),toks:=tk }
 refine J0 (Kl (KQ PyProof.Rows.slot_list_sort #[_,f,rfl] PyProof.Rows.entry_list_sort (list_sort_tree (s:={ s with heap:=h1.push (K9 "list" vs.toArray 0),toks:=tk }) f t i λout a u v x=>#[7,J5 #[7,?_]]) (args_list_sort _)))
 let[e,he]:=sortedHeap_at (out:=out) f
 refine h _ tk h1.objs.size e out a (λb o q=>?_) (Mm lt) he u v x
 let j:=Js (kp b o q)
 rw[sortedHeap_old (JH j) (by rw[size_push'];exact KL j)]
 exact J6 _ (kp b o q)
end
section
variable{X:Cx}
theorem pG:∀xs:List RM,L6 (xs.map λx=>KZ x.1 x.2) (xs.map (·.1))
 |[]=>.nil
 |x::xs=>.cons _ _ (pG xs)
variable{e:l_}{t:TD}{p1 p2 NU NV:Pos}
end
def bj(L:Bool)(a:k_)(ks:ml):lj->Prop:=λh=>∃o es ep t,∃xs:List RM,RH h a o es ep t xs/\t.led=L/\∀k,k∈xs.map (·.1)↔k∈ks
def bj.kept{L:Bool}{a:k_}{ks:ml}{h h':lj}(q:bj L a ks h)(k:∀o,h.get? a=MW o->h'.get? a=MW o):bj L a ks h':=by let[o,es,ep,t,xs,S,r]:=q;exact #[o,es,ep,t,xs,{ S with get:=k o S.get },r]
theorem qa{P:Jv}{w:JP}{H:Hp}{h:lj}{L:Bool}{a:k_}{ks:ml}(q:bj L a ks h):bB P w H h a (.ext (bj L a ks)):=#[q,let⟨o,_,_,_,_,S,_⟩:=q;#[o,S.get],λ_ _ x y=>x.kept y]
theorem vV{h:lj}{a:k_}{L:Bool}(b:h.get? a=MW { cls:=.type "set",dict:=MX,data:=.set #[] 0 (.fresh 0 0 L) }):bj L a [] h:=
 let⟨o,es,ep,t,xs,S,l,m⟩:=sM (ks:=[]) b
 #[o,es,ep,t,xs,S,l,λy=>by rw[m y];simp]
section
variable{X:Cx}{NK:l'}{σ:L2.St}{H:Hp}{s:J4}
def yA{L:Bool}{a:k_}{ks us:ml}{k:Int}{tk:Tok}{Q:J3->J4->Prop}{E:J3->J4->Prop}(I:Inv X NK σ H s)(e:H a=MW (.ext (bj L a ks)))(j:us.length<=18)(g:∀z∈k::ks,z∈us)
 (h:∀i,Inv X NK σ (upd H a (.ext (bj L a (k::ks)))) i->Q .none i):Jq (Ju X.prog X.w) X.A (call (.builtin "set.add") [.ref a,.int k tk]) Q E s:=by
 obtain⟨⟨o,es,ep,t,xs,S,l,m⟩,_⟩:=I.hok a _ e
 let n:s.TypeIs (.ref a) "set":=#[o,S.get,S.ex.1]
 refine KQ PySem.F.slot_set_add n PySem.F.entry_set_add ?_ (PySem.F.args_set_add_2 _ _)
 unfold LD.«set.add» Builtin.Frozenset.oneOther
 simp only[List.isEmpty_nil,MK]
 unfold Builtin.Frozenset.addrOf setAdd
 refine J0 (J5 ?_)
 try dsimp only
 refine J0 (J5 ?_)
 try dsimp only
 refine J0 ?_
 refine Kl ?_
 refine J0 ((LC X.prog X.w).pyHash (k:=k) (XA k tk) ?_)
 refine add_int (s:={ s with toks:=s.toks+1 }) S (λnm=>?_) λr D p c d u f v b x hx=>?_
 .have:=sub_len' (m:=us) (l:=k::xs.map (·.1)) (Md.mpr #[nm,S.nd]) λy B=>by
   rcases JU.mp B with q|q
   .rw[q];exact g _ (_)
   .exact g _ (JC _ ((m y).mp q))
  rw[JE,J7]at this
  omega
 .show Jq _ _ (ret Lg) _ _ _
  refine J5 #[7,h _ ?_]
  refine ki (I.tok (s.toks+1)) (by rw[e];exact Lm) v #[_,b.get] (qa #[p,c,d,u,f,b,x.trans l,λy=>?_])
  rcases hx with⟨hx,rfl⟩|⟨hx,C⟩
  .rw[m y,JU]
   exact #[.inr,λq=>q.elim (λe=>by rw[e];exact(m k).mp hx) id]
  .rw[(C.map (·.1)).mem_iff,J9,JU,JU,m y]
end
theorem oN{env:Env}(b gens scope a):eval (.SetComp b gens scope a) env = comprehension (.SetComp b gens scope a) scope env (firstIterPos gens a) (newSet (.type "set")) (firstAsync gens) (firstIter gens env):=rfl
section
variable{prog:Jv}{w:JP}{A:JQ}{R:Result->J4->Prop}{s:J4}
def fJ{c a b d rest scope e it f env}
 (h0:L5 (Ju prog w) A (.compLoop (.SetComp c (#[a,b,d,0]::rest) scope e) 0 it f env) R s)
 (h:Jq (Ju prog w) A (pyIter it) (λg i=>L5 (Ju prog w) A (.compLoop (.SetComp c (#[a,b,d,0]::rest) scope e) 0 g f env) R i)
  (notedBy (Ju prog w) A env λx i=>R (.error x) i) s) :
 L5 (Ju prog w) A (.compStart (.SetComp c (#[a,b,d,0]::rest) scope e) 0 it f env) R s:=by
 refine codeAny_of_tree ?_
 show Jq _ _ ((compStart (.SetComp c (#[a,b,d,0]::rest) scope e) 0 it f env).onRaise (λx=>do noteFrame x env;ML theWindowsPlace)) _ _ s
 refine wpAny_notedAt ?_
 unfold compStart
 show Jq _ _ (ask >>= _) _ _ s
 refine J0 (Mr (wpAny_ite ?_))
 split
 .first
   |exact J0 (J5 (J5 (And.intro rfl h0)))
   |exact J5 (And.intro rfl h0)
 .first
   |exact J0 (wpAny_rule (J0 (KN (J0 (Jx h (λg i j=>J5 (And.intro rfl j)) λ_ _ x=>x)))))
   |(refine J0 (wpAny_rule ?_);show Jq _ _ (ML b.pos >>= _) _ _ s;exact J0 (KN (J0 (Jx h (λg i j=>J5 (And.intro rfl j)) λ_ _ x=>x))))
end
def eY(a t1 c d e:l_)(scope:Lq)(b:Pos):l_:=.SetComp a [#[t1,c,[],0],#[d,e,[],0]] scope b
def Fw(a t1 e f d:l_)(scope:Lq)(b:Pos)(it c:J3)(env:Env):compTurn (eY a t1 e f d scope b) 0 it c env=(do
 ML e.pos
 match <-MU it with
 |none=>pure (.done .next)
 |some v=>
  LK t1 it v
  assign t1 env v
  let x <-eval d env
  ML d.pos
  let x <-K6 d env x
  let _ <-runOwn (.compStart (eY a t1 e f d scope b) 1 (<-holding [x] (pyIter x)) c env) env
  again (.compLoop (eY a t1 e f d scope b) 0 it c env)):=by rfl
def Fn(a t1 f d e:l_)(scope:Lq)(c:Pos)(it b:J3)(env:Env):compTurn (eY a t1 f d e scope c) 1 it b env=(do
 ML e.pos
 match <-MU it with
 |none=>pure (.done .next)
 |some v=>
  LK d it v
  assign d env v
  (do let v <-eval a env;ML a.pos;let _ <-call (.builtin "set.add") [b,v])
  again (.compLoop (eY a t1 f d e scope c) 1 it b env)):=by rfl
section
variable{prog:Jv}{w:JP}{A:JQ}{R:Result->J4->Prop}{s:J4}{elt t1 i1 t2 i2:l_}{scope:Lq}{pos:Pos}{it acc:J3}{env:Env}
def BR(h0:L5 (Ju prog w) A (.compLoop (eY elt t1 i1 t2 i2 scope pos) 1 it acc env) R s)
 (h:Jq (Ju prog w) A (pyIter it) (λa b=>L5 (Ju prog w) A (.compLoop (eY elt t1 i1 t2 i2 scope pos) 1 a acc env) R b) (notedBy (Ju prog w) A env λx b=>R (.error x) b) s) :
 L5 (Ju prog w) A (.compStart (eY elt t1 i1 t2 i2 scope pos) 1 it acc env) R s:=by
 refine codeAny_of_tree ?_
 show Jq _ _ ((compStart (eY elt t1 i1 t2 i2 scope pos) 1 it acc env).onRaise (λx=>do noteFrame x env;ML theWindowsPlace)) _ _ s
 refine wpAny_notedAt ?_
 unfold compStart
 show Jq _ _ (ask >>= _) _ _ s
 refine J0 (Mr (wpAny_ite ?_))
 split
 .first
   |exact J0 (J5 (J5 (And.intro rfl h0)))
   |exact J5 (And.intro rfl h0)
 .refine J0 (wpAny_rule ?_)
  show Jq _ _ (ML i2.pos >>= _) _ _ s
  exact J0 (KN (J0 (Jx h (λa b c=>J5 (And.intro rfl c)) λ_ _ x=>x)))
def Fi(J:Nat->J4->Prop)
 (step:∀n s,J n s->Jq (Ju prog w) A (MU it) (λr a=>match r with
  |none=>R (.ok .next) a
  |some v=>Jq (Ju prog w) A (LK t2 it v) (λ_ b=>Jq (Ju prog w) A (assign t2 env v) (λ_ c=>
   Jq (Ju prog w) A (eval elt env) (λx d=>Jq (Ju prog w) A (call (.builtin "set.add") [acc,x]) (λ_ f=>∃m,m<n/\J m f) OM d) OM c) OM b) OM a) OM s)
 (n:Nat) (h:J n s):L5 (Ju prog w) A (.compLoop (eY elt t1 i1 t2 i2 scope pos) 1 it acc env) R s:=by
 let no:∀{E:J3->J4->Prop} e g,OM e g->E e g:=λ_ _ z=>z.elim
 refine codeAny_loop rfl J (λn s i=>?_) n h
 show Jq _ _ (Sem.onRaise (compTurn (eY elt t1 i1 t2 i2 scope pos) 1 it acc env) (λx=>do noteFrame x env;theTreesLotGoes x)) _ _ s
 refine wpAny_noted ?_
 rw[Fn]
 refine J0 (KN (J0 (Jx (step n s i) (λr a h1=>?_) no)))
 cases r with
 |none=>exact J5 h1
 |some v=>
  refine J0 (Jx h1 (λ_ b h2=>J0 (Jx h2 (λ_ c j=>?_) no)) no)
  exact J0 (J0 (Jx j (λx d k=>J0 (KN (J0 (Jx k (λ_ f l=>J5 (J5 #[8,l])) no)))) no))
def FU(J:Nat->J4->Prop)(b:∀x,K6 i2 env x=pure x)
 (step:∀n s,J n s->Jq (Ju prog w) A (MU it) (λr c=>match r with
  |none=>R (.ok .next) c
  |some v=>Jq (Ju prog w) A (LK t1 it v) (λ_ d=>Jq (Ju prog w) A (assign t1 env v) (λ_ g=>
   Jq (Ju prog w) A (eval i2 env) (λx i=>Jq (Ju prog w) A (pyIter x) (λa j=>L5 (Ju prog w) A (.compStart (eY elt t1 i1 t2 i2 scope pos) 1 a acc env) (λr k=>match r with
    |.ok _=>∃m,m<n/\J m k
    |.error e=>False) j) OM i) OM g) OM d) OM c) OM s)
 (n:Nat) (h:J n s):L5 (Ju prog w) A (.compLoop (eY elt t1 i1 t2 i2 scope pos) 0 it acc env) R s:=by
 let no:∀{E:J3->J4->Prop} e l,OM e l->E e l:=λ_ _ z=>z.elim
 refine codeAny_loop rfl J (λn s p=>?_) n h
 show Jq _ _ (Sem.onRaise (compTurn (eY elt t1 i1 t2 i2 scope pos) 0 it acc env) (λx=>do noteFrame x env;theTreesLotGoes x)) _ _ s
 refine wpAny_noted ?_
 rw[Fw]
 refine J0 (KN (J0 (Jx (step n s p) (λr c h1=>?_) no)))
 cases r with
 |none=>exact J5 h1
 |some v=>
  refine J0 (Jx h1 (λ_ d h2=>J0 (Jx h2 (λ_ g q=>J0 (Jx q (λx i t=>?_) no)) no)) no)
  refine J0 (KN ?_)
  rw[b]
  refine J0 (J5 ?_)
  refine J0 (Kl (Jx t (λa j u=>?_) no))
  refine J0 (wpAny_runOwn (MB u (λr k o=>?_)))
  cases r with
  |ok f=>exact J5 #[8,o]
  |error e=>exact o.elim
end
def Dc(L:Bool)(js:ma)(wi2:TI)(te:TE)(σ:L2.St)(J:It)(H1:Hp)(Q:VK):Prop:=∀D,H1 D=MX->∃W:Nat->Nat->Hp->Prop,(∃m,W 0 m (upd H1 D (.ext (bj L D []))))/\∀i m H,W i m H->
 (J.stop i H/\Q (.ref D) H)\/(J.go i H/\∀y d,J.yld i H y d->∀o,wi2 (cσ [MW y,o] js σ) d λb l=>∃U:Nat->Nat->Hp->Prop,(∃n,U 0 n l)/\∀j n a,U j n a->
  (b.stop j a/\∃e,e<m/\W (i+1) e a)\/(b.go j a/\∀z f,b.yld j a z f->te (cσ [MW y,MW z] js σ) f λv g=>∃(k:Int) (c us:ml),v=.int k/\g D=MW (.ext (bj L D c))/\us.length<=18/\(∀z∈k::c,z∈us)/\∃h,h<n/\U (j+1) h (upd g D (.ext (bj L D (k::c))))))
def y9(L:Bool)(js:ma)(a wi2:TI)(te:TE):TE:=λσ H Q=>a σ H λJ H1=>Dc L js wi2 te σ J H1 Q
section
variable{X:Cx}{x y:Str}{px py pos:Pos}{js:ma}{scope:Lq}{elt i1 i2:l_}{te:TE}{wi wi2:TI}{NK:l'}{σ:L2.St}{H:Hp}{s:J4}{fp:m_}{it:k_}{tn:Nat->lj->Prop}{J:It}
def yO(c:Na X [x,y] js scope)(hc:X.calm=MY)(k1:∀C s H fp,PI (Nh X [x,y] js scope C s H fp) (.Name y py) i2 wi2)(m1:∀(env:Env) x,K6 i2 env x=pure x)(he:∀C s H fp,PE (Nh X [x,y] js scope C s H fp) elt te)
 {R:J3->k_->Result->J4->Prop} {E:J3->J4->Prop} {Q:VK}
 (I:Inv X NK σ H s) (T:Turn X.prog X.w X.K (.Name x px) J fp it tn) (st:tn 0 s.heap) (hf:∀b∈fp,cP X NK H b) (wc:Dc (gQ X.w) js wi2 te σ J H Q)
 (hR:∀D C g G,Inv X NK σ g G->cP X NK g C->(∃m,G.heap.Ns C m)->Q (.ref D) g->R (.ref D) C (.ok .next) G) :
 Jq (Ju X.prog X.w) X.A (newSet (.type "set")) (λq0 r0=>Jq (Ju X.prog X.w) X.A (MP scope X.env.globals (dW scope.names X.env) [] X.env.qual MX .none (MW X.env)) (λO s0=>
  L5 (Ju X.prog X.w) X.A (.compStart (eY elt (.Name x px) i1 (.Name y py) i2 scope pos) 0 (.ref it) q0 { O with scope:=relabel scope X.env }) (R q0 O.locals) s0) E r0) E s:=by
 let n1:∀C s H fp,PG (Nh X [x,y] js scope C s H fp) (.Name x px) (f9 0):=λ_ _ _ _=>jJ c 0 rfl
 let p1:∀C s H fp,PG (Nh X [x,y] js scope C s H fp) (.Name y py) (f9 1):=λ_ _ _ _=>jJ c 1 rfl
 let t0:∀b∈fp,b<s.z:=λb a=>let⟨o,e,_⟩:=T.obj 0 _ st b a;Js e
 let hD:H s.z=MX:=I.hok.fresh (Jo _)
 unfold newSet setsByText
 refine J0 (J0 (Mr (J5 ?_)))
 dsimp only
 refine Kf (oY ?_)
 generalize hh:s.heap.push { cls:=.type "set",dict:=MX,data:=.set #[] 0 (.fresh 0 0 !(Ju X.prog X.w).w.params.followText "set-order") }=f
 generalize v0:pushCells (({ s with heap:=f }:J4).heap.push { cls:=.type "dict",data:=.dict #[] }) scope.names=h
 let k3:∀b o,s.heap.get? b=MW o->f.get? b=MW o:=λb o e=>by rw[<-hh];exact J6 _ e
 let I3:Inv X NK σ (upd H s.z (.ext (bj (gQ X.w) s.z []))) { s with heap:=f }:=by
  refine I.laid (t':=s.toks) k3 (Jo _) ?_
  refine qa (vV ?_)
  rw[<-hh]
  exact Jt _ rfl
 let l:∀b∈fp,cP X NK (upd H s.z (.ext (bj (gQ X.w) s.z []))) b:=λb a=>#[by rw[ay (JH (t0 b a))];exact(hf b a).1,(hf b a).2]
 let q1:f.objs.size=s.z+1:=by rw[<-hh,Li]
 let x0:∀b∈fp,b<f.objs.size:=λb a=>by rw[q1];exact KL (t0 b a)
 let k4:∀b o,f.get? b=MW o->h.get? b=MW o:=λb o e=>by rw[<-v0];exact pushCells_keeps _ _ b o (J6 _ e)
 let I4:=kY c I3 l x0 (h':=h) v0.symm k4
 obtain⟨W,⟨m0,w0⟩,y0⟩:=wc _ hD
 let PY:tn 0 h:=T.keep 0 _ _ st λb a o e=>k4 b o (k3 b o e)
 generalize hX:Nh X [x,y] js scope f.objs.size { s with heap:=f } (upd H s.z (.ext (bj (gQ X.w) s.z []))) fp=X' at I4
 let Y:∀{pins':l'}{g:Hp}{t:L2.St}{G:J4},Inv X' [] t g G->(∀b∈fp,g b=MX)->∀b∈fp,cP X' [] g b:=λ{pins' g t G} J' hn b a=>by
  subst hX
  let[a1,a2]:=J'.ok.exf b a
  exact #[hn b a,a1,J'.ok.exfs b a,.inl a,a2,λp hp=>absurd (show p∈([]:l')from hp) (_)]
 let P:L5 (Ju X.prog X.w) X.A (.compLoop (eY elt (.Name x px) i1 (.Name y py) i2 scope pos) 0 (.ref it) (.ref s.z) (j7 scope f.objs.size X.env)) (R (.ref s.z) f.objs.size)
  { s with heap:=h }:=by
  refine FU (λn G=>∃i os g,os.length=2/\Inv X' [] (cσ os js σ) g G/\tn i G.heap/\(∀b∈fp,g b=MX)/\W i n g) (λx=>m1 _ x) ?_ m0 #[0,_,_,by simp,I4,PY,λb a=>(l b a).1,w0]
  rintro n s5 ⟨i,os,H5,r1,I5,Ot,z0,w5⟩
  rcases y0 i n H5 w5 with⟨stop,q⟩|⟨go,step⟩
  .subst hX
   refine Jx (T.done (Nh X [x,y] js scope f.objs.size { s with heap:=f } (upd H s.z (.ext (bj (gQ X.w) s.z []))) fp) rfl rfl rfl hc i [] s5 _ H5 OM I5 (Y (pins':=[]) I5 z0) Ot stop) (λr s6 z6=>?_) λ_ _ z=>z
   let[Z,I6]:=z6
   subst Z
   refine hR _ _ H5 s6 (I3.pD I6.os I6.base I6.hok I6.bare λb a=>#[(l b a).2.2.2.1,(l b a).2.1,(l b a).2.2.2.2.1,(l b a).2.2.2.2.2]) (I3.sS (Jo _) I6.free) (let⟨m,hm,_⟩:=I6.loc;#[m,hm]) q
  .subst hX
   refine Jx (T.item (Nh X [x,y] js scope f.objs.size { s with heap:=f } (upd H s.z (.ext (bj (gQ X.w) s.z []))) fp) rfl rfl rfl hc i [] s5 _ H5 OM I5 (Y (pins':=[]) I5 z0) Ot go) (λr s6 z6=>?_) λ_ _ z=>z
   let[u,Z,h6]:=z6
   subst Z
   refine Jx h6 (λ_ s7 z7=>?_) λ_ _ z=>z
   let[yv,H7,I7,r7,y7,Oo,s1]:=z7
   let t1:=I7.pinned (Y (pins':=[]) I7 s1) (T.obj _ _ Oo)
   obtain⟨o0,o1,rfl⟩:∃o0 o1,os=[o0,o1]:=by
    exact vm r1
   refine Jx (n1 _ _ _ _ _ s7 _ H7 yv u (λt g=>t=cσ [MW yv,o1] js σ/\g=H7) t1 r7 #[8,rfl]) (λ_ s8 a0=>?_) λ_ _ z=>z
   let[b3,H8,I8,e8,u1]:=a0
   subst e8 u1
   let back:∀{m':Nat}{o2:Option V}{B:Hp}{F:J4},Inv (Nh X [x,y] js scope f.objs.size { s with heap:=f } (upd H s.z (.ext (bj (gQ X.w) s.z []))) fp) ([]++gF fp s7.heap) (cσ [MW yv,o2] js σ) B F->m'<n->W (i+1) m' B->
    ∃m,m<n/\∃i os g,os.length=2/\Inv (Nh X [x,y] js scope f.objs.size { s with heap:=f } (upd H s.z (.ext (bj (gQ X.w) s.z []))) fp) [] (cσ os js σ) g F/\tn i F.heap/\(∀b∈fp,g b=MX)/\W i m g:=λ{m' o2 B F} L b0 v1=>by
    refine #[m',b0,i+1,_,B,8,L.dS,T.keep _ _ _ Oo λb a o e=>(L.pin (b,o) (JL _ (JL _ (bF a e)))).1,λb a=>?_,v1]
    let[o',e,d]:=T.obj _ _ Oo b a
    exact(L.pin (b,o') (JL _ (JL _ (bF a e)))).2.1
   refine Jx (k1 _ _ _ _ _ s8 _ _ _ I8 (step yv H8 y7 o1)) (λv2 s9 h9=>Jx h9 (λc3 F w1=>?_) λ_ _ z=>z) λ_ _ z=>z
   obtain⟨x1,y1,z1,J2,B,b2,L,T2,Qq,N,U,⟨n0,u0⟩,c0⟩:=w1
   subst b2
   let M:L5 (Ju X.prog X.w) X.A (.compLoop (eY elt (.Name x px) i1 (.Name y py) i2 scope pos) 1 (.ref x1) (.ref s.z) (j7 scope f.objs.size X.env)) (λr s6=>match r with
    |.ok _=>∃m,m<n/\∃i os g,os.length=2/\Inv (Nh X [x,y] js scope f.objs.size { s with heap:=f } (upd H s.z (.ext (bj (gQ X.w) s.z []))) fp) [] (cσ os js σ) g s6/\tn i s6.heap/\(∀b∈fp,g b=MX)/\W i m g
    |.error e=>False) F:=by
    refine Fi (λn2 G=>∃j o2 g,Inv (Nh X [x,y] js scope f.objs.size { s with heap:=f } (upd H s.z (.ext (bj (gQ X.w) s.z []))) fp) ([]++gF fp s7.heap) (cσ [MW yv,o2] js σ) g G/\z1 j G.heap/\(∀b∈y1,g b=MX)/\U j n2 g) ?_ n0 #[0,o1,B,L,Qq,λb a=>(N b a).1,u0]
    rintro n2 b1 ⟨j,o2,d0,c1,PZ,S,c2⟩
    rcases c0 j n2 d0 c2 with⟨e0,m',b0,w'⟩|⟨d2,f0⟩
    .refine Jx (T2.done (Nh X [x,y] js scope f.objs.size { s with heap:=f } (upd H s.z (.ext (bj (gQ X.w) s.z []))) fp) rfl rfl rfl hc j _ b1 _ d0 OM c1 (λb a=>#[S b a,(N b a).2]) PZ e0) (λr e2 g0=>?_) λ_ _ z=>z
     let[Z,f2]:=g0
     subst Z
     exact back f2 b0 w'
    .refine Jx (T2.item (Nh X [x,y] js scope f.objs.size { s with heap:=f } (upd H s.z (.ext (bj (gQ X.w) s.z []))) fp) rfl rfl rfl hc j _ b1 _ d0 OM c1 (λb a=>#[S b a,(N b a).2]) PZ d2) (λr e2 h0=>?_) λ_ _ z=>z
     let[u2,Z,g2]:=h0
     subst Z
     refine Jx g2 (λ_ h2 i0=>?_) λ_ _ z=>z
     let[zv,d1,j2,k2,m2,PH,e1]:=i0
     let f1:=j2.pinned (λb a=>#[e1 b a,(N b a).2]) (T2.obj _ _ PH)
     refine Jx (p1 _ _ _ _ _ h2 _ d1 zv u2 (λt g=>t=cσ [MW yv,MW zv] js σ/\g=d1) f1 k2 #[8,rfl]) (λ_ p2 j0=>?_) λ_ _ z=>z
     let[a3,q2,r2,s2,g1]:=j0
     subst s2 g1
     refine Jx (he _ _ _ _ _ p2 _ _ _ r2 (f0 zv q2 m2)) (λv e3 k0=>?_) λ_ _ z=>z
     let[vv,f3,t2,w2,k,zs,us,ek,h1,x2,j1,n',y2,z2]:=k0
     subst ek
     let[tk,8]:=w2
     refine yA (X:=Nh X [x,y] js scope f.objs.size { s with heap:=f } (upd H s.z (.ext (bj (gQ X.w) s.z []))) fp) t2 h1 x2 j1 λg3 l0=>?_
     refine #[n',y2,j+1,_,_,l0.dS,T2.keep _ _ _ PH λb a o e=>(l0.pin (b,o) (JL _ (JL _ (bF a e)))).1,λb a=>?_,z2]
     let[o',e,d]:=T2.obj _ _ PH b a
     exact(l0.pin (b,o') (JL _ (JL _ (bF a e)))).2.1
   exact BR M (T2.self X.A 0 _ _ _ Qq M)
 exact fJ P (T.self X.A 0 _ _ _ PY P)
def BY(c:Na X [x,y] js scope)(l:X.calm=MY)(hi:PI X (.Name x px) i1 wi)(g:∀C s H fp,PI (Nh X [x,y] js scope C s H fp) (.Name y py) i2 wi2)(he:∀C s H fp,PE (Nh X [x,y] js scope C s H fp) elt te) (hs:∀x,K6 i1 X.env x=pure x:=by intro _;rfl) (i:∀(env:Env) x,K6 i2 env x=pure x:=by intro _ _;rfl) : PE X (eY elt (.Name x px) i1 (.Name y py) i2 scope pos) (y9 (gQ X.w) js wi wi2 te):=by intro NK s σ H Q I h;unfold eY;rw[oN];refine wpAny_comprehension_free (use:=MX) rfl hs (c.B3 I.ok) c.kind c.names (Nf (hi NK s σ H _ I h) λv E h1=>Nf h1 λn F a=>?_);let[it,fp,tn,J,G,e,p,T,st,r,w]:=a;subst e;refine yO (R:=λj C=>compPost (Ju X.prog X.w) X.A X.xe MX (EP X NK σ Q) j C) c l g i he p T st r w λD C t u z f d q=>?_;let[m,B]:=d;exact #[m,B,λK k=>#[.ref D,t,z.turned (t':=u.toks) (λb o ne e=>k.extBut b o ne e) f.1 f.2.1 f.2.2.2.1 f.2.2.2.2.1 f.2.2.2.2.2,8,q]]
end
def QI(L:Bool)(ks:ml):MO:=.gen λK H a=>H a=MW (.ext (bj L a ks))
section
variable{K:J1}{H:Hp}{M:MH}{a p:k_}{L:Bool}{ks:ml}
theorem ZH(h:H a=MW (.ext (bj L a ks))):iI K H a (QI L ks):=#[h,by rw[h];simp,λb g e=>e.trans h]
theorem Nc.Hx(h:Nc K H M)(b:H p=MX):Nc K (upd H p (.ext (bj L p []))) (av M p (QI L [])):=λa u e=>by
 by_cases ne:a=p
 .subst ne;rw[aj]at e;cases e;exact ZH az
 .rw[ak ne]at e;exact(h a u e).dg (.new b) (ay ne)
theorem Nc.GU{b:lj->Prop}(h:Nc K H M)(hx:H a=MW (.ext b)):Nc K (upd H a (.ext (bj L a ks))) (av M a (QI L ks)):=λc u e=>by
 by_cases ne:c=a
 .subst ne;rw[aj]at e;cases e;exact ZH az
 .rw[ak ne]at e;exact(h c u e).dg (.put (λxs e=>by rw[hx]at e;cases e) (λu xs e=>by rw[hx]at e;cases e)) (ay ne)
end
section
variable{X:Cx}
def pY(A:X.calm=MY):bo X (.builtin "sorted") (λvs H Q=>∃(p:k_) (ks us:ml),vs=[.ref p]/\H p=MW (.ext (bj (gQ X.w) p ks))/\us.length<=18/\(∀z∈ks,z∈us)/\∀(l:k_)(a:ml),H l=MX->(∀k,k∈a↔k∈ks)->a.Nodup->a.Pairwise (·<=·)->Q (.ref l) (upd H l (.lst (a.map V.int)))):=by
 intro NK s σ H vs B Q I r C;let[p,ks,us,D,E,O,F,q]:=C;subst D;let[u,8,G]:=vals1 r;cases G;obtain⟨⟨o,es,ep,t,d,S,l,m⟩,_⟩:=I.hok p _ E;let R:OY X.w s.heap p o es ep t:=#[S.get,S.ex,S.data,S.ok.fits,S.pl,l,S.ok.up,S.ok.sz];let[xs,g,h]:=me (f:=oV) (t5 X.w p ep es) d S.ents;let pn:(xs.map (·.1)).Perm (d.map (·.1)):=g.map _;let j:es.size=xs.length:=by rw[<-kn X.w p ep es,<-JG,h,J7]
 let J:xs.length<=18:=by
  let h1:=sub_len' S.nd λy K=>F y ((m y).mp K)
  let h2:=g.length_eq
  rw[J7]at h1
  omega
 let h2:xs.length<=JJ:=by rw[Ku];omega
 refine zN (vs:=xs.map λx=>KZ x.1 x.2) (xM (o:=o) (es:=es) (ep:=ep) (t:=t)) (I.ok.hd A) R (by rw[j];exact h2) (λb it=>?_) (pG xs) (by rw[J7];omega) λP L l e out a kp hl he M n N=>?_
 .apply List.ext_getElem?;intro i;by_cases hi:i<es.size
  .have c:i<b.size:=by rw[it.1];exact hi
   let[e,e1,e2]:=it.2 i b[i] (by simp[c]);rw[<-JX,h,JI]at e1;let[x,ex,8]:=LH.mp e1;rw[JI,ex,JX,JT c,e2];rfl
  .have c:¬i<b.size:=by rw[it.1];exact hi
   rw[j]at hi;rw[List.getElem?_eq_none (by rw[JG];omega),List.getElem?_eq_none (by rw[J7];omega)]
 .have v:=n.trans pn;refine #[.ref l,_,I.laid (t':=L) kp hl (show bB X.prog X.w _ _ _ (.lst _)from #[?_,_,e,eT M,by rw[Array.toArray_toList];exact he]),8,q _ a (I.hok.fresh hl) (λk=>by rw[v.mem_iff,m k]) (v.nodup_iff.mpr S.nd) N];rw[J7,n.length_eq,J7];exact h2
end
def HJ(I:RE)(js:ma)(g:Ou)(te:TD)(δ:DS)(f:MH)(Q:DK):Prop:=I.n<=1000/\∀p L,f p=MX->∃(us:ml) (W:Nat->ml->MH->Prop),us.length<=18/\W 0 [] (av f p (QI L []))/\(∀i ks M,i<=I.n->W i ks M->I.C M)/\
 (∀i ks d M,i<I.n->I.item i=MW d->W i ks M->g (cδ [MW d,MX] js δ) M λb h=>b.n<=1000/\∃U:Nat->ml->MH->Prop,U 0 ks h/\(∀j a M,j<=b.n->U j a M->b.C M)/\
  (∀j a e M,j<b.n->b.item j=MW e->U j a M->te (cδ [MW d,MW e] js δ) M λv l=>∃k c,v=.int k/\Sub c l/\c p=MW (QI L a)/\(∀z∈k::a,z∈us)/\U (j+1) (k::a) (av c p (QI L (k::a))))/\∀a M,U b.n a M->W (i+1) a M)/\
 ∀ks M,W I.n ks M->M p=MW (QI L ks)/\(∀z∈ks,z∈us)/\∀(z:k_)(ns:ml),M z=MX->(∀k,k∈ns↔k∈ks)->ns.Nodup->ns.Pairwise (·<=·)->Q (.ref z) (av M z (.lst (ns.map D.int)))
def zr(a:Ou)(js:ma)(b:Ou)(te:TD):TD:=λδ M Q=>a δ M λI c=>HJ I js b te δ c Q
def wB{K:J1}{wd NW:Ou}{js:ma}{te:TD}{σ:L2.St}{H:Hp}{Q:VK}(L:Bool)(h:lift K (zr wd js NW te) σ H Q):y9 L js (lU K wd) (lU K NW) (lift K te) σ H λx a=>∃(p:k_) (ks us:ml),[x]=[.ref p]/\a p=MW (.ext (bj L p ks))/\us.length<=18/\(∀z∈ks,z∈us)/\∀(l:k_)(b:ml),a l=MX->(∀k,k∈b↔k∈ks)->b.Nodup->b.Pairwise (·<=·)->Q (.ref l) (upd a l (.lst (b.map V.int))):=by
 let[δ,M,R,hs,hM,q,T]:=h;refine #[δ,M,_,hs,hM,q,λI M1 H1 J g1 a1 X Y p Z=>?_];let[hn,X]:=X;let[us,W,N,w0,hC,O,done]:=X p L (a1.fresh Z);refine #[λi m a=>m=I.n-i/\i<=I.n/\Nb K H1 a/\∃ks M,Nc K a M/\W i ks M,#[I.n,by simp,Kh _,.new Z,[],_,a1.Hx Z,w0],?_];rintro i m a ⟨rfl,hi,g,ks,C,D,w2⟩;by_cases c:i<I.n
 .refine .inr #[Y.go i a C c g D (hC _ _ _ hi w2),λv H3 hy o=>?_];let[g3,a3,d,ed,rd]:=Y.yld i a C v H3 c g D (hC _ _ _ hi w2) hy;let q3:=O i ks d C c ed w2;refine #[cδ [MW d,MX] js δ,C,_,kq (js:=js) (hs.mono ((g1.trans g).trans g3)) (sk o rd),a3,q3,λE M4 H4 J2 g4 a4 a0 r=>?_];let[e0,U,u0,s,t,w]:=a0;refine #[λj n F=>n=E.n-j/\j<=E.n/\Nb K H4 F/\∃y M,Nc K F M/\U j y M,#[E.n,by simp,Kh _,.refl,ks,M4,a4,u0],?_];rintro j n F ⟨rfl,hj,A,y,G,S,P⟩;by_cases f:j<E.n
  .refine .inr #[r.go j F G f A S (s _ _ _ hj P),λu H6 b0=>?_];let[g6,a6,e,ee,re]:=r.yld j F G u H6 f A S (s _ _ _ hj P) b0;let s6:=kq (js:=js) (hs.mono (((((g1.trans g).trans g3).trans g4).trans A).trans g6)) (rk (rd.mono ((g4.trans A).trans g6)) re);refine #[cδ [MW d,MW e] js δ,G,_,s6,a6,t j y e G f ee P,λvv M' uu H7 g7 r7 a7 B=>?_];let[k,M8,ek,s8,e8,c0,w8]:=B;subst ek;rw[Rep]at r7;subst r7;let hx:H7 p=MW (.ext (bj L p y)):=((a7.sub s8) _ _ e8).1;exact #[k,y,us,8,hx,N,c0,E.n-(j+1),(),8,f,((A.trans g6).trans g7).trans (.put (λxs e=>by rw[hx]at e;cases e) (λu xs e=>by rw[hx]at e;cases e)),k::y,_,(a7.sub s8).GU hx,w8]
  .obtain rfl:j=E.n:=()
   exact .inl #[r.stop F G A S (s _ _ _ hj P),I.n-(i+1),(),8,c,((g.trans g3).trans g4).trans A,y,G,S,w _ _ P]
 .obtain rfl:i=I.n:=()
  let[e9,d0,k9]:=done ks C w2;refine .inl #[Y.stop a C g D (hC _ _ _ hi w2),p,ks,us,8,(D _ _ e9).1,N,d0,λl ns hl mm nd up=>?_];exact T _ _ _ _ ((g1.trans g).trans (.new hl)) (by rw[Rep]) (D.mB hl (cA ns)) (k9 l ns (D.fresh hl) mm nd up)
section
variable{X:Cx}{x y:Str}{px py pos p1 NU:Pos}{js:ma}{scope:Lq}{elt i1 i2:l_}{te:TD}{wd NW:Ou}
theorem v8(g1:Gl X "sorted")(m1:X.mg "sorted"=MX)(c:Na X [x,y] js scope)(e:X.calm=MY)(hi:DI X (.Name x px) i1 wd)(b:∀C s H fp,DI (Nh X [x,y] js scope C s H fp) (.Name y py) i2 NW)(he:∀C s H fp,DE (Nh X [x,y] js scope C s H fp) elt te) (hs:∀x,K6 i1 X.env x=pure x:=by intro _;rfl) (d:∀(env:Env) x,K6 i2 env x=pure x:=by intro _ _;rfl) (a:Jz [Expr.SetComp elt [#[.Name x px,i1,[],0],#[.Name y py,i2,[],0]] scope pos] X.env=(MZ,eval (.SetComp elt [#[.Name x px,i1,[],0],#[.Name y py,i2,[],0]] scope pos) X.env)::Jz [] X.env:=by rfl) : DE X (.Call (.Name "sorted" p1) [.SetComp elt [#[.Name x px,i1,[],0],#[.Name y py,i2,[],0]] scope pos] [] NU) (zr wd js NW te):=aQ (qr (pY e) g1 m1 jq (iS (BY (te:=lift X.K te) (wi2:=lU X.K NW) c e hi b he hs d) oA a) (he:=a)) λ_ _ _ h=>wB (gQ X.w) h
end
abbrev CK:=ml×ml
section
variable{P:Jv}{w:JP}
abbrev xp(P:Jv)(w:JP)(h:lj)(ns:ml)(a:k_):Prop:=IsTupleKey (LC P w) h ns a
def fT(P:Jv)(w:JP)(h:lj)(k:CK)(a:k_):Prop:=∃o b c m,h.get? a=MW o/\o.cls=.type "tuple"/\o.data=.seq (List.toArray [.ref b,.ref c]) m/\xp P w h k.1 b/\xp P w h k.2 c
def fT.inj{h:lj}{a:k_}{x y:CK}(p:fT P w h x a)(q:fT P w h y a):x=y:=by
 let[o,b,c,m,h1,h2,f,g,i]:=p;let[r,j,k,s,g1,t,d,l,n]:=q;rw[h1]at g1;cases g1;rw[f]at d;injection d with e _;let e1:b=j/\c=k:=‹e›
 let[8,8]:=e1;exact Prod.ext (IsTupleKey.inj g l) (IsTupleKey.inj i n)
def fT.keeps{h h':lj}{k:CK}{a d:k_}{o:Obj}{es:Array KH}{ep:Nat}(p:fT P w h k a)(hd:h.get? d=MW o)(he:o.data=.dict es ep)(e:LN d h h'):fT P w h' k a:=by
 let[g,b,c,m,h1,h2,f,i,j]:=p;let ne:a≠d:=λz=>by rw[z,hd]at h1;cases h1;rw[he]at f;cases f
 exact #[g,b,c,m,(e.2 a ne).trans h1,h2,f,IsTupleKey.keeps i hd he e,IsTupleKey.keeps j hd he e]
def yN(P:Jv)(w:JP)(k:CK):Int:=reduceHash (Builtin.Tuple.tupleHashOf [tupleKeyHash (LC P w) k.1,tupleKeyHash (LC P w) k.2])
def fT.hash{A:JQ}{E:J3->J4->Prop}{s:J4}{k:CK}{a:k_}{Q:Int->J4->Prop}(l:A.units+4<Ky)(p:fT P w s.heap k a)(q:Q (yN P w k) { s with toks:=s.toks+(k.1.length+k.2.length+3) }):Jq (Ju P w) A (pyHash (.ref a)) Q E s:=by
 let[o,b,c,m,h1,h2,h,i,j]:=p;let[n,g,d,f,os]:=s;show Jq _ _ (pyHashByItsType (.ref a)) _ _ _;refine PySem.W.pyHash_slot (T:="tuple") #[o,h1,h2] F.slot_tuple_hash F.entry_tuple_hash (F.args_tuple_hash_1 _) rfl (.inr ()) ?_;unfold LD.«tuple.__hash__»;simp only[<-Ly]
 iterate 4 wp_step
 refine J5 ?_;refine J0 (wpAny_tupleItemsOf h1 h ?_);refine J0 ?_;simp only[Mg,Ms,Lb,MK];refine J0 (wpAny_pyHash_tuple (knd:=LC P w) (by show A.units+1<Ky;omega) i ?_);refine J0 (wpAny_pyHash_tuple (knd:=LC P w) (by show A.units+1<Ky;omega) j ?_);refine J5 ?_;unfold retInt
 wp_walk
 exists _,7;let e:∀x y:Nat,f+(x+1)+(y+1)+1=f+(x+y+3):=λx y=>()
 first|exact q|(simp only[e];exact q)|(let e2:=e k.1.length k.2.length;simp only[Nat.add_assoc]at q e2 ⊢;rw[e2];exact q)
def vd(ns:ml):MN:=.tuple (ns.map PyData.int)
def j9(k:CK):MN:=.tuple [vd k.1,vd k.2]
theorem Ar{h:lj}:∀{ns:ml}{vs:List J3},ItemsAre (LC P w) ns vs->∃a,ReadsAll h vs (ns.map PyData.int) a
 |[],vs,r=>by cases r;exact #[_,.nil]
 |n::ns,vs,r=>by
  cases r with
  |cons hx r=>
   let[t,8]:=fZ hx
   let[a,q]:=Ar r
   exact #[_,.cons (.int _ _) q]
def qD{h:lj}{ns:ml}{a:k_}(p:xp P w h ns a):∃c,Reads h (.ref a) (vd ns) c:=by let[o,b,m,h1,h2,d,e]:=p;let[c,q]:=Ar (h:=h) e;exact #[_,.tuple h1 h2 d q]
def fT.reads{h:lj}{k:CK}{a:k_}(p:fT P w h k a):∃d,Reads h (.ref a) (j9 k) d:=by let[o,b,c,m,h1,h2,e,f,g]:=p;let[d,i]:=qD f;let[bs,j]:=qD g;exact #[_,.tuple h1 h2 e (.cons i (.cons j .nil))]
theorem xk:∀x y:ml,KU (x.map PyData.int) (y.map PyData.int)=decide (x=y)
 |[],[]=>by simp[KU]
 |[],y::ys=>by simp[KU]
 |x::xs,[]=>by simp[KU]
 |x::xs,y::ys=>by
  rw[J9,J9,KU,xk xs ys,Mh]
  simp[KA]
def xX(x y:CK):(j9 x).eqv (j9 y)=decide (x=y):=by simp only[j9,vd,KA,KU,Bool.and_true,xk];rw[Mh];simp[Prod.ext_iff]
theorem kJ:∀ns:ml,My (ns.map PyData.int)<=1
 |[]=>by simp[My]
 |n::ns=>by
  have:=kJ ns
  rw[J9]
  simp only[My,PyData.depth]
  omega
theorem zD:∀ns:ml,KW (ns.map PyData.int)=MY
 |[]=>by simp[KW]
 |n::ns=>by simp[KW,PyData.canLay0,zD ns]
def Ab(k:CK):(j9 k).depth<=4:=by let a:=kJ k.1;let b:=kJ k.2;simp only[j9,vd,PyData.depth,My];omega
def zG(k:CK):(j9 k).canLay0=MY:=by simp[j9,vd,PyData.canLay0,KW,zD]
def fT.eq{A:JQ}{E:J3->J4->Prop}{s:J4}{x y:CK}{a b:k_}{Q:Bool->J4->Prop}(g:A.units+4<Ky)(p:fT P w s.heap x a)(c:fT P w s.heap y b)(q:Q (decide (x=y)) s):Jq (Ju P w) A (eqBool (.ref a) (.ref b)) Q E s:=by let[d,e]:=p.reads;let[bs,f]:=c.reads;let hd:min (j9 x).depth (j9 y).depth<=4:=K0 (Nat.min_le_left _ _) (Ab x);have:=SeqAt.eqAt_reads (j9 x) (j9 y) A s (.ref a) (.ref b) d bs e f (zG x) (zG y) ();rw[xX]at this;exact this P w E Q q
def qf{A:JQ}{E:J3->J4->Prop}{s:J4}{ns:ml}{a:k_}{Q:Bool->J4->Prop}(i:Nat)(j:xp P w s.heap ns a)(h:Q MY s):Jq (Ju P w) A (eqIsQuiet (i+1) (.ref a)) Q E s:=by
 let k:=IsTupleKey.typeIs j;let[o,d,n,l,_,hd,hi]:=j;rw[eqIsQuiet.eq_2];refine J0 (wpAny_specialOf k F.slot_tuple_eq.lookup ?_);refine J0 (Mp k isSubtype_tuple_tuple ?_);simp only[KD,JD,if_false];refine J0 (MQ l hd ?_);refine J0 ?_;show Jq _ _ (forIn d _ _) _ _ s;rw[<-Ly];refine wpAny_forIn_list _ (λb r e=>r.1=MX/\e=s/\∀v∈b,carriedByValue v=MY) _ ?_ ?_ _ _ #[8,8,hi.byValue]
 .rintro v b r e ⟨f,rfl,c⟩;rw[eqIsQuiet_byValue _ (c v JW)];refine J0 (J5 ?_);simp only[KD,JD,if_false];exact J5 #[8,8,λu g=>c u (JC _ g)]
 .rintro⟨m,p⟩ e ⟨f,rfl,_⟩;simp only at f;subst f;exact J5 h
def fT.quiet{A:JQ}{E:J3->J4->Prop}{s:J4}{k:CK}{a:k_}{Q:Bool->J4->Prop}(p:fT P w s.heap k a)(q:Q MY s):Jq (Ju P w) A (eqIsQuiet 8 (.ref a)) Q E s:=by let[o,b,c,m,h1,h2,d,e,f]:=p;rw[eqIsQuiet.eq_2];refine J0 (wpAny_specialOf #[o,h1,h2] F.slot_tuple_eq.lookup ?_);refine J0 (Mp #[o,h1,h2] isSubtype_tuple_tuple ?_);simp only[KD,JD,if_false];refine J0 (MQ h1 d ?_);simp only[Option.getD_some,<-Ly];refine J0 ?_;simp only[Mg,Ms,Lb,MK];refine J0 (qf 6 e ?_);simp only[KD,JD,if_false,Lb];refine J0 (qf 6 f ?_);simp only[KD,JD,if_false,Lb];refine J5 ?_;exact J5 q
def k6(P:Jv)(w:JP):HeapKind P w CK where
 is:=fT P w
 hash:=yN P w
 draws:=λk=>k.1.length+k.2.length+3
 room:=λA=>A.units+4<Ky
 inj:=λp q=>p.inj q
 keeps:=λp hd he b=>p.keeps hd he b
 pyHash:=λa p q=>p.hash a q
 eqBool:=λa p c q=>p.eq a c q
 quiet:=λp q=>p.quiet q
end
section
variable{X:Cx}{NK:l'}{σ:L2.St}{H:Hp}{s:J4}{a b:k_}{k:CK}
def d9(K:J1)(H:Hp)(b:k_)(k:CK):Prop:=∃f g,Nl K H b [.ref f,.ref g]/\Nl K H f (k.1.map V.int)/\Nl K H g (k.2.map V.int)
theorem lM{P:Jv}{w:JP}:∀{ns:ml}{its:List J3},Vals (ns.map V.int) its->ItemsAre (LC P w) ns its
 |[],its,h=>by cases h;exact .nil
 |n::ns,its,h=>by
  rw[J9]at h
  cases h with
  |cons r q=>
   let[t,8]:=r
   exact .cons (by show((n==n)=MY);simp) (lM q)
def C6{ns:ml}{f:k_}(I:L2.Inv X NK σ H s)(h:Nl X.K H f (ns.map V.int)):xp X.prog X.w s.heap ns f:=by let[c,r,ht,_]:=I.tuple h;let[o,h1,h2,m,d]:=ht;exact #[o,_,m,h1,h2,d,lM r]
def tu(I:L2.Inv X NK σ H s)(h:d9 X.K H b k):fT X.prog X.w s.heap k b:=by
 let[f,g,h1,h2,c]:=h;let[d,r,ht,_]:=I.tuple h1;cases r with
 |cons e r=>cases r with
  |cons i r=>
   cases r
   cases e
   cases i
   let[o,j,l,m,n]:=ht
   exact #[o,f,g,m,j,l,n,C6 I h2,C6 I c]
abbrev O9:=CK×k_×V
def fF(P:Jv)(w:JP)(a:k_)(xs:List O9):lj->Prop:=λh=>(a==LL)=MZ/\xs.length<=JJ/\(xs.map (·.1)).Nodup/\∃c:List (CK×k_×J3),
 Ml (λ(p:O9) (q:CK×k_×J3)=>p.1=q.1/\p.2.1=q.2.1/\RelV p.2.2 q.2.2) xs c/\∃o es ep,h.get? a=MW o/\o.ExactDict/\o.data=.dict es ep/\es.toList=c.map (entryOfKey (k6 P w))
def jt(xs:List O9)(k:CK)(b:k_)(v:V):List O9:=if(xs.any λx=>decide (x.1=k))=MY then xs.map (λx=>if x.1=k then(x.1,x.2.1,v)else x)else xs++[(k,b,v)]
abbrev RJ:=λ(p:O9) (q:CK×k_×J3)=>p.1=q.1/\p.2.1=q.2.1/\RelV p.2.2 q.2.2
def qp{xs:List O9}{c:List (CK×k_×J3)}(r:Ml RJ xs c):c.map (·.1)=xs.map (·.1):=by
 induction r with
 |nil=>rfl
 |cons h t d=>rw[J9,J9,d,h.1]
def uR{xs:List O9}{d:List (CK×k_×J3)}(r:Ml RJ xs d)(k:CK):(xs.any λx=>decide (x.1=k))=(atKey d k).isSome:=by
 induction r with
 |nil=>rfl
 |@cons p q ps qs h t ih=>
  rw[LP]
  by_cases e:p.1=k
  .have c:q.1=k:=h.1.symm.trans e;simp[atKey,JS,e,c]
  .have c:¬q.1=k:=λz=>e (h.1.trans z);rw[NC e,Bool.false_or,ih];simp[atKey,JS,c]
def tF{xs:List O9}{c:List (CK×k_×J3)}(r:Ml RJ xs c)(k:CK)(b:k_){v:V}{u:J3}(d:RelV v u):Ml RJ (jt xs k b v) (storedH c k b u):=by
 unfold jt storedH;rw[uR r k];by_cases e:(atKey c k).isSome=MY
 .rw[NB e,NB e];clear e
  induction r with
  |nil=>exact .nil
  |@cons p q ps qs h t ih=>
   rw[J9,J9]
   refine .cons ?_ ih
   unfold putAt
   by_cases e:p.1=k
   .rw[NB e,NB (h.1.symm.trans e)];exact #[h.1,h.2.1,d]
   .rw[NA e,NA (λz=>e (h.1.trans z))];exact h
 .rw[NA e,NA e];exact Paired.snoc r #[8,8,d]
def BH{xs:List O9}{c:List (CK×k_×J3)}(r:Ml RJ xs c):xs.length=c.length:=by
 induction r with
 |nil=>rfl
 |cons h t d=>rw[JE,JE,d]
def AG{xs:List O9}{c:List (CK×k_×J3)}(r:Ml RJ xs c){q:CK×k_×J3}(h:q∈c):∃p∈xs,p.1=q.1/\p.2.1=q.2.1:=by
 induction r with
 |nil=>cases h
 |cons d t f=>
  rcases JU.mp h with z|z
  .subst z;exact #[_,by simp,d.1,d.2.1]
  .obtain⟨p,g,e⟩:=f z;exact #[p,by simp[g],e]
def yX(xs:List O9)(k:CK)(b:k_)(v:V):(jt xs k b v).length<=xs.length+1:=by
 unfold jt;split
 .rw[J7];omega
 .simp
def sH{xs:List O9}(I:L2.Inv X NK σ H s)(e:H a=MW (.ext (fF X.prog X.w a xs)))(d:∀x∈xs,d9 X.K H x.2.1 x.1):(a==LL)=MZ/\xs.length<=JJ/\∃c,Ml RJ xs c/\s.heap.DictOfH (k6 X.prog X.w) a c:=by obtain⟨⟨h1,h2,f,c,r,o,es,ep,g,h,i,j⟩,_⟩:=I.hok a _ e;refine #[h1,h2,c,r,o,es,ep,g,h,i,j,λx hx=>?_,by rw[qp r];exact f];let[p,l,e1,e2]:=AG r hx;rw[<-e1,<-e2];exact tu I (d p l)
def uB{P:Jv}{w:JP}{xs:List O9}(h1 h2:lj)(h:fF P w a xs h1)(k:∀o,h1.get? a=MW o->h2.get? a=MW o):fF P w a xs h2:=by let[c,d,e,f,r,o,es,ep,g,q]:=h;exact #[c,d,e,f,r,o,es,ep,k o g,q]
def By{A:JQ}{E:J3->J4->Prop}{Q:Unit->J4->Prop}{xs:List O9}{v:V}{u:J3}(z:A.units+8<Ky)(I:L2.Inv X NK σ H s)(e:H a=MW (.ext (fF X.prog X.w a xs)))(i:∀x∈xs,d9 X.K H x.2.1 x.1)(j:d9 X.K H b k)(f:RelV v u)(hl:xs.length<JJ)
 (h:∀g,L2.Inv X NK σ (upd H a (.ext (fF X.prog X.w a (jt xs k b v)))) g->Q .unit g):Jq (Ju X.prog X.w) A (setItem (.ref a) (.ref b) u) Q E s:=by
 let[hd,l,B,r,m]:=sH I e i
 refine wpAny_setItem_heap (knd:=k6 X.prog X.w) (hsz:=by rw[<-BH r];exact l) (show A.in1.units+4<Ky by show A.units+1+4<Ky;omega) (tu I j) m λC c hs=>h _ ?_
 let[q,es,ep,d,n,o,p,_,t]:=c
 refine ki I (by rw[e];exact Lm) hs #[q,d] #[#[hd,?_,?_,_,tF r k b f,q,es,ep,d,n,o,p],#[q,d],λh1 h2 x y=>uB h1 h2 x y]
 .have:=yX xs k b v;omega
 .rw[<-qp (tF r k b f)];exact t
theorem Co(I:L2.Inv X NK σ H s):L2.Inv X NK σ (upd H s.z (.ext (fF X.prog X.w s.z []))) { s with heap:=s.heap.push { cls:=.type "dict",data:=.dict #[] } }:=
 I.laid (a:=s.z) (t':=s.toks) (λ_ _ q=>J6 _ q) (Jo _)
  #[#[beq_eq_false_iff_ne.mpr (Ne.symm (JH I.big)),Kh _,List.nodup_nil,[],.nil,_,#[],0,Jt _ rfl,#[8,8,rfl],8,rfl],#[_,Jt _ rfl],λh1 h2 x y=>uB h1 h2 x y]
def gV(xs:List O9)(k:CK):Option V:=(xs.find? λx=>decide (x.1=k)).map (·.2.2)
def Cm{xs:List O9}{d:List (CK×k_×J3)}(r:Ml RJ xs d){v:V}(h:gV xs k=MW v):∃p:k_×J3,atKey d k=MW p/\RelV v p.2:=by
 induction r with
 |nil=>cases h
 |@cons p q ps qs h' t ih=>
  by_cases e:p.1=k
  .have c:q.1=k:=h'.1.symm.trans e;simp[gV,JS,e]at h;subst h;exact #[q.2,by simp[atKey,JS,c],h'.2.2]
  .have c:¬q.1=k:=λz=>e (h'.1.trans z);let h2:gV ps k=MW v:=by simpa[gV,JS,e]using h
   let[f,g,i]:=ih h2;exact #[f,by simpa[atKey,JS,c]using g,i]
def AA{A:JQ}{E:J3->J4->Prop}{Q:J3->J4->Prop}{xs:List O9}{v:V}(j:A.units+8<Ky)(I:L2.Inv X NK σ H s)(e:H a=MW (.ext (fF X.prog X.w a xs)))(d:∀x∈xs,d9 X.K H x.2.1 x.1)(f:d9 X.K H b k)(g:gV xs k=MW v) (h:∀u c,L2.Inv X NK σ H c->RelV v u->Q u c):Jq (Ju X.prog X.w) A (getItem (.ref a) (.ref b)) Q E s:=by let[hd,l,m,r,i]:=sH I e d;let[p,h1,h2]:=Cm r g;exact wpAny_getItem_heap (knd:=k6 X.prog X.w) (show A.in1.units+4<Ky by show A.units+1+4<Ky;omega) (tu I f) i h1 (h _ _ (I.tok _) h2)
def xr{xs:List O9}{c:List (CK×k_×J3)}(r:Ml RJ xs c)(k:CK):(gV xs k).isSome=(atKey c k).isSome:=by rw[<-uR r k];unfold gV;rw[Option.isSome_map,Mh,List.find?_isSome,Mq]
def wF{A:JQ}{E:J3->J4->Prop}{Q:J3->J4->Prop}{xs:List O9}(i:A.units+8<Ky)(I:L2.Inv X NK σ H s)(e:H a=MW (.ext (fF X.prog X.w a xs)))(d:∀x∈xs,d9 X.K H x.2.1 x.1)(f:d9 X.K H b k)
 (h:∀c,L2.Inv X NK σ H c->Q (.bool (!(gV xs k).isSome)) c):Jq (Ju X.prog X.w) A (K8 .NotIn (.ref b) (.ref a)) Q E s:=by
 let[hd,j,l,r,g]:=sH I e d
 refine wpAny_notIn_heap (knd:=k6 X.prog X.w) (show A.in1.units+4<Ky by show A.units+1+4<Ky;omega) (tu I f) hd g ?_
 rw[<-xr r]
 exact h _ (I.tok _)
end
section
variable{X:Cx}
def DY(X:Cx):TE:=λ_ H Q=>∀p,H p=MX->Q (.ref p) (upd H p (.ext (fF X.prog X.w p [])))
theorem yU{a:Pos}:PE X (.Dict [] [] a) (DY X):=λNK s σ H Q I h=>wpAny_Dict_empty #[.ref s.z,_,Co I,8,h _ (I.hok.fresh (Jo _))]
structure Qy(X:Cx)(H:Hp)(a b:k_)(xs:List O9)(k:CK):Prop where
 d:H a=MW (.ext (fF X.prog X.w a xs))
 ks:∀x∈xs,d9 X.K H x.2.1 x.1
 key:d9 X.K H b k
def Dx(X:Cx)(d ty:TE):TE:=λσ H Q=>d σ H λx H1=>ty σ H1 λy c=>∃a b xs k v,x=.ref a/\y=.ref b/\Qy X c a b xs k/\gV xs k=MW v/\Q v c
def E9{NK:l'}{σ:L2.St}{H:Hp}{s:J4}{a:k_}{xs:List O9}(I:L2.Inv X NK σ H s)(e:H a=MW (.ext (fF X.prog X.w a xs))):s.TypeIs (.ref a) "dict"/\∀b,JV a=.ref b->∃o,s.heap.get? b=MW o/\o.dict=MX:=by obtain⟨⟨_,_,_,_,_,o,_,_,c,d,_⟩,_⟩:=I.hok a _ e;exact #[#[o,c,d.1],λb z=>by cases z;exact #[o,c,d.2.1]]
def yy{o i:l_}{f ty:TE}{e:Pos}(j:X.A.units+8<Ky)(l:PE X o f)(hi:PE X i ty)(hs:Ci i):PE X (.Subscript o i e) (Dx X f ty):=by intro NK s σ H Q I h;refine Subscript_ (Nf (l NK s σ H _ I h) λv m ⟨x,H1,n,p,r⟩=>Nf (hi NK m σ H1 _ n r) λu J c=>?_);let[y,t,g,w,a,b,xs,k,z,ex,B,D,C,q]:=c;subst ex B;cases p;cases w;exact tail_any (E9 g D.d).1 PySem.F.slot_dict_getitem.lookup (AA j g D.d D.ks D.key C λK L E G=>#[z,t,E,G,q]) (hs _ _)
def D3(X:Cx)(d ty e:TE):TS:=λD σ H=>e σ H λv H1=>d σ H1 λx f=>ty σ f λy c=>∃a b xs k,x=.ref a/\y=.ref b/\Qy X c a b xs k/\xs.length<JJ/\D.nx σ (upd c a (.ext (fF X.prog X.w a (jt xs k b v))))
def yM{o i c:l_}{j ty l:TE}{g e:Pos}(m:X.A.units+8<Ky)(n:PE X o j)(hi:PE X i ty)(p:PE X c l)(hs:LW c (MW (.Subscript o i e)) g.line X.env=pure MZ) : PS X (.Assign [.Subscript o i e] c g) (D3 X j ty l):=by intro NK s σ H D I h;refine wpAny_Assign_Subscript (Nf (p NK s σ H _ I h) λr q ⟨v,H1,t,w,z⟩=>Nf (n NK q σ H1 _ t z) λu B ⟨x,C,E,F,G⟩=>Nf (hi NK B σ C _ E G) λO P f=>?_) hs;let[y,Q,J,K,a,b,xs,k,ex,L,A,hl,M]:=f;subst ex L;cases F;cases K;exact By m J A.d A.ks A.key w hl λR N=>#[σ,_,N,M]
end
def Rk(k:CK):D:=.tup [.tup (k.1.map D.int),.tup (k.2.map D.int)]
section
variable{K:J1}{H H':Hp}{M:MH}{a b:k_}{k:CK}
theorem i8{K:J1}{H:Hp}:∀{ns:ml}{vs:n7},aC K H (ns.map D.int) vs->vs=ns.map V.int
 |[],vs,h=>by rw[L7,aC]at h;exact h
 |n::ns,vs,h=>by
  rw[J9,aC]at h
  let[v,r,8,h1,h2]:=h
  rw[Rep]at h1
  rw[h1,i8 h2];rfl
def tW{v:V}(r:Rep K H (Rk k) v):∃b,v=.ref b/\d9 K H b k:=by unfold Rk at r;rw[Rep]at r;let[b,xs,8,hx,i]:=r;let[m,n,8,c,d]:=dQ i;rw[Rep]at c d;let[f,fs,8,e,j]:=c;let[g,o,8,h,l]:=d;rw[i8 j]at e;rw[i8 l]at h;exact #[b,8,f,g,hx,e,h]
def FR(h:d9 K H b k):Rep K H (Rk k) (.ref b):=by
 let[f,g,hx,c,d]:=h;unfold Rk;rw[Rep];exists b,7,hx;rw[aC];exists _,7,?_
 .rw[Rep];exact #[f,7,c,cA _]
 .rw[aC];exists _,7,?_
  .rw[Rep];exact #[g,7,d,cA _]
  .rw[aC]
def d9.mono(g:Nb K H H')(h:d9 K H b k):d9 K H' b k:=by let[c,e,r]:=tW ((FR h).mono g);cases e;exact r
abbrev Of:=List (CK×D)
def R6(kvs:Of):J1->Hp->k_->Prop:=λK H a=>∃xs:List O9,(∀P w,H a=MW (.ext (fF P w a xs)))/\xs.map (·.1)=kvs.map (·.1)/\(∀x∈xs,d9 K H x.2.1 x.1)/\aC K H (kvs.map (·.2)) (xs.map (·.2.2))
def y6{kvs:Of}(h:R6 kvs K H a)(g:Nb K H H')(e:H' a=H a):R6 kvs K H' a:=by let[xs,h1,h2,c,d]:=h;exact #[xs,λP w=>e.trans (h1 P w),h2,λx hx=>(c x hx).mono g,d.mono g]
def Oq(kvs:Of):MO:=.gen (R6 kvs)
theorem Nc.dck{kvs:Of}(h:Nc K H M)(e:M a=MW (Oq kvs)):R6 kvs K H a:=(h a _ e).1
theorem R6.xZ{kvs:Of}(h:R6 kvs K H a)(ne:H a≠MX):iI K H a (Oq kvs):=#[h,ne,λH' g e=>y6 h g e]
theorem Nc.EH{p:k_}(P:Jv)(w:JP)(h:Nc K H M)(c:H p=MX):Nc K (upd H p (.ext (fF P w p []))) (av M p (Oq [])):=λa u e=>by
 by_cases ne:a=p
 .subst ne;rw[aj]at e;cases e;exact R6.xZ #[[],(λP w=>az),8,(λx hx=>by simp at hx),(by simp[aC])] (by rw[az];simp)
 .rw[ak ne]at e;exact(h a u e).dg (.new c) (ay ne)
def dh(kvs:Of)(k:CK):oy:=(kvs.find? λx=>decide (x.1=k)).map (·.2)
def iN(kvs:Of)(k:CK)(d:D):Of:=if(kvs.any λx=>decide (x.1=k))=MY then kvs.map (λx=>if x.1=k then(x.1,d)else x)else kvs++[(k,d)]
theorem k8(k:CK):∀{kvs:Of}{xs:List O9},xs.map (·.1)=kvs.map (·.1)->aC K H (kvs.map (·.2)) (xs.map (·.2.2))->(∀d,dh kvs k=MW d->∃v,gV xs k=MW v/\Rep K H d v)/\(dh kvs k=MX->gV xs k=MX)/\((xs.any λx=>decide (x.1=k))=kvs.any λx=>decide (x.1=k))
 |[],[],_,_=>#[(λd h=>by simp[dh]at h),(λ_=>rfl),rfl]
 |[],x::xs,h,_=>by cases h
 |y::kvs,[],h,_=>by cases h
 |y::kvs,x::xs,h,r=>by
  rw[J9,J9]at h
  injection h with h1 h2
  rw[J9,J9,aC]at r
  let[v,vs,e,g,i]:=r
  injection e with e1 e2
  subst e1 e2
  let[j,l,m]:=k8 k h2 i
  by_cases e:y.1=k
  .have c:x.1=k:=h1.trans e
   refine #[λd hd=>?_,λf=>?_,?_]
   .simp[dh,JS,e]at hd
    subst hd
    exact #[x.2.2,by simp[gV,JS,c],g]
   .simp[dh,JS,e]at f
   .simp[e,c]
  .have c:¬x.1=k:=λz=>e (h1.symm.trans z)
   refine #[λd hd=>?_,λf=>?_,?_]
   .obtain⟨v,n,o⟩:=j d (by simpa[dh,JS,e]using hd)
    exact #[v,by simpa[gV,JS,c]using n,o]
   .have:=l (by simpa[dh,JS,e]using f)
    simpa[gV,JS,c]using this
   .rw[LP,LP,m,NC e,NC c]
theorem uO(k:CK){d:D}{v:V}(r:Rep K H d v):∀{kvs:Of}{xs:List O9},xs.map (·.1)=kvs.map (·.1)->aC K H (kvs.map (·.2)) (xs.map (·.2.2))->
 (xs.map λx=>if x.1=k then(x.1,x.2.1,v)else x).map (·.1)=(kvs.map λx=>if x.1=k then(x.1,d)else x).map (·.1)/\aC K H ((kvs.map λx=>if x.1=k then(x.1,d)else x).map (·.2)) ((xs.map λx=>if x.1=k then(x.1,x.2.1,v)else x).map (·.2.2))
 |[],[],_,h=>#[8,h]
 |[],x::xs,h,_=>by cases h
 |y::kvs,[],h,_=>by cases h
 |y::kvs,x::xs,h,q=>by
  rw[J9,J9]at h
  injection h with h1 h2
  rw[J9,J9,aC]at q
  let[l,vs,e,i,j]:=q
  injection e with e1 e2
  subst e1 e2
  let[f,g]:=uO k r h2 j
  by_cases e:y.1=k
  .have c:x.1=k:=h1.trans e
   simp only[J9,NB e,NB c]
   exact #[by rw[f];exact congrArg (·::_) h1,by rw[aC];exact #[_,7,r,g]]
  .have c:¬x.1=k:=λz=>e (h1.symm.trans z)
   simp only[J9,NA e,NA c]
   exact #[by rw[f];exact congrArg (·::_) h1,by rw[aC];exact #[_,7,i,g]]
def EG{kvs:Of}{xs:List O9}{d:D}{v:V}(h1:xs.map (·.1)=kvs.map (·.1))(h2:aC K H (kvs.map (·.2)) (xs.map (·.2.2)))(c:∀x∈xs,d9 K H x.2.1 x.1)(f:d9 K H b k)(r:Rep K H d v) : (jt xs k b v).map (·.1)=(iN kvs k d).map (·.1)/\aC K H ((iN kvs k d).map (·.2)) ((jt xs k b v).map (·.2.2))/\∀x∈jt xs k b v,d9 K H x.2.1 x.1:=by
 unfold jt iN;rw[(k8 k h1 h2).2.2];by_cases e:(kvs.any λx=>decide (x.1=k))=MY
 .rw[NB e,NB e];let[g,h]:=uO k r h1 h2;refine #[g,h,λx hx=>?_];let[y,i,8]:=JZ.mp hx;have:=c y i;by_cases e:y.1=k
  .rw[NB e];exact this
  .rw[NA e];exact this
 .rw[NA e,NA e];refine #[by rw[Kr,Kr,h1];rfl,?_,λx hx=>?_]
  .rw[Kr,Kr];exact h2.append (by rw[J9,J9,L7,L7,aC];exact #[_,7,r,by rw[aC]])
  .rcases K5.mp hx with z|z
   .exact c x z
   .have:x=(k,b,v):=‹z›
    subst this;exact f
theorem Nc.Fm{kvs:Of}{xs:List O9}{d:D}{v:V}(P:Jv)(w:JP)(h:Nc K H M)(hx:∀P w,H a=MW (.ext (fF P w a xs)))(h1:xs.map (·.1)=kvs.map (·.1))(h2:aC K H (kvs.map (·.2)) (xs.map (·.2.2)))(f:∀x∈xs,d9 K H x.2.1 x.1)(i:d9 K H b k)(r:Rep K H d v) :
 Nc K (upd H a (.ext (fF P w a (jt xs k b v)))) (av M a (Oq (iN kvs k d))):=λc u e=>by
 let g:Nb K H (upd H a (.ext (fF P w a (jt xs k b v)))):=.ext (hx P w)
 by_cases ne:c=a
 .subst ne
  rw[aj]at e;cases e
  let[j,l,m]:=EG h1 h2 f i r
  exact R6.xZ #[_,λP w=>az,j,λx hx=>(m x hx).mono g,l.mono g] (by rw[az];simp)
 .rw[ak ne]at e
  exact(h c u e).dg g (ay ne)
end
section
variable{X:Cx}
def AS:TD:=λ_ M Q=>∀p,M p=MX->Q (.ref p) (av M p (Oq []))
theorem Ae{b:Pos}:DE X (.Dict [] [] b) AS:=aQ yU λσ H Q a=>by let[δ,M,R,hs,e,q,c]:=a;exact(λp d=>c _ _ _ _ (.new d) (by rw[Rep]) (e.EH _ _ d) (q p (e.fresh d)))
def Cy(b ty:TD):TD:=λδ M Q=>b δ M λx c=>ty δ c λy a=>∃l kvs k d,x=.ref l/\y=Rk k/\a l=MW (Oq kvs)/\dh kvs k=MW d/\Q d a
theorem xN{o i:l_}{g ty:TD}{e:Pos}(J:X.A.units+66<Ky)(m:DE X o g)(hi:DE X i ty)(hs:Ci i):DE X (.Subscript o i e) (Cy g ty):=
 aQ (yy () m hi hs) λσ H Q a=>by let[δ,M,R,hs,n,q,f]:=a;exact(#[δ,M,_,hs,n,q,λx p v H1 g1 h r s=>#[δ,p,_,hs.mono g1,r,s,λy K u L t w j c=>by
  let[l,kvs,k,d,ex,z,hl,B,C]:=c
  subst ex z
  rw[Rep]at h;subst h
  let[b,8,sp]:=tW w
  let[xs,h1,h2,D,E]:=j.dck hl
  let[F,G,I]:=(k8 k h2 E).1 d B
  exact #[l,b,xs,k,F,8,8,#[h1 _ _,D,sp],G,f _ _ _ _ (g1.trans t) I j C]]])
def CB(b ty c:TD):OH:=λB δ M=>c δ M λd e=>b δ e λx f=>ty δ f λy a=>∃l kvs k,x=.ref l/\y=Rk k/\a l=MW (Oq kvs)/\kvs.length<1000000/\B.nx δ (av a l (Oq (iN kvs k d)))
theorem zz{o i a:l_}{h ty j:TD}{e c:Pos}(T:X.A.units+66<Ky)(z:DE X o h)(hi:DE X i ty)(C:DE X a j)(hs:LW a (MW (.Subscript o i c)) e.line X.env=pure MZ:=by rfl):DSt X (.Assign [.Subscript o i c] a e) (CB h ty j):=
 b8 (yM () z hi C hs) λD σ H ⟨δ,M,hs,E,B,ok,q⟩=>#[δ,M,_,hs,E,q,λd F v H1 g1 G I J=>#[δ,F,_,hs.mono g1,I,J,λx L u U f m N O=>#[δ,L,_,(hs.mono g1).mono f,N,O,λy V W n g P p ⟨l,kvs,k,ex,Q,hl,Y,R⟩=>by
  subst ex Q
  rw[Rep]at m;subst m
  let[b,8,sp]:=tW P
  let[xs,h1,h2,r,S]:=p.dck hl
  let s:xs.length=kvs.length:=by have:=congrArg List.length h2;simpa using this
  let sz:1000000<=JJ:=Ng rfl
  exists l,b,xs,k,8,8,#[h1 _ _,r,sp],()
  let t:Nb X.K n (upd n l (.ext (fF X.prog X.w l (jt xs k b v)))):=.ext (h1 X.prog X.w)
  exact ok.nx _ _ _ _ (((g1.trans f).trans g).trans t) (hs.mono (((g1.trans f).trans g).trans t)) (p.Fm _ _ h1 h2 S r sp (G.mono (f.trans g))) R]]]
def mV(X:Cx)(ty d:TE):TE:=λσ H Q=>ty σ H λy H1=>d σ H1 λx c=>∃a b xs k,x=.ref a/\y=.ref b/\Qy X c a b xs k/\Q (.bl (!(gV xs k).isSome)) c
def rB{i o:l_}{ty e:TE}(f:X.A.units+8<Ky)(hi:PE X i ty)(g:PE X o e):PC X .NotIn i o (mV X ty e):=by intro NK s σ H Q I h;refine Nf (hi NK s σ H _ I h) λz j ⟨y,H1,l,m,n⟩=>Nf (g NK j σ H1 _ l n) λu B c=>?_;let[x,p,q,r,a,b,xs,k,ex,t,D,v]:=c;subst ex t;cases r;cases m;exact wF f q D.d D.ks D.key λC w=>#[.bl _,p,w,8,v]
def pB(ty b:TD):TD:=λδ M Q=>ty δ M λy c=>b δ c λx a=>∃l kvs k,x=.ref l/\y=Rk k/\a l=MW (Oq kvs)/\Q (.bl (!(dh kvs k).isSome)) a
def Cq{ty f:TD}{σ:L2.St}{H:Hp}{Q:VK}(h:lift X.K (pB ty f) σ H Q):mV X (lift X.K ty) (lift X.K f) σ H Q:=by
 let[δ,M,R,hs,o,q,c]:=h;refine #[δ,M,_,hs,o,q,λy p v H1 g1 r s t=>#[δ,p,_,hs.mono g1,s,t,λx C u D g i j a=>?_]];let[l,kvs,k,ex,w,hl,z]:=a;subst ex w;rw[Rep]at i;subst i;let[b,8,sp]:=tW (r.mono g);let[xs,h1,h2,A,m]:=j.dck hl
 let e:(gV xs k).isSome=(dh kvs k).isSome:=by
  cases n:dh kvs k with
  |none=>rw[(k8 k h2 m).2.1 n];rfl
  |some d=>let[v,B,_]:=(k8 k h2 m).1 d n;rw[B];rfl
 exists l,b,xs,k,8,8,#[h1 _ _,A,sp];rw[e];exact c _ _ _ _ (g1.trans g) (by rw[Rep]) j z
theorem rH{e1 e2:l_}{ty i:TD}{f:Pos}(n:X.A.units+66<Ky)(h1:DE X e1 ty)(h2:DE X e2 i)(k:MI .NotIn e2=MZ:=by rfl):DT X (.Compare e1 [.NotIn] [e2] f) (tBD (pB ty i)):=
 ji (Dz (rB () h1 h2) k) λσ H Q b=>by let[δ,M,R,hs,l,q,h]:=b;exact(Cq (Q:=λx j=>∃c,x=.bl c/\Q c j) #[δ,M,_,hs,l,q,λd o v j g r a e=>by
  let[c,m,z]:=e
  subst m
  rw[Rep]at r;subst r
  exact #[c,8,h _ _ _ g a z]])
end
section
variable{X:Cx}
def wH(d:X.calm=MY):bo X (.builtin "min") (λxs H Q=>∃p ns,xs=[.ref p]/\Ni X.K H p (ns.map V.int)/\ns≠[]/\∀n∈ns,Q (.int n) H):=by
 intro NK s σ H xs us Q I r f;let[p,ns,e,g,h,k]:=f;subst e;let[u,8,i]:=vals1 r;cases i;let[j,l,m,_]:=I.list g;let[ps,8,8]:=lF l;let h0:0<ps.length:=List.length_pos_iff.mpr λz=>h (by rw[z];rfl);refine min_intList (xs:=ps.toArray) (I.ok.hd d) (by simpa[intItems]using m.isList) ‹h0› λv t w o q=>?_;let c:=oj (λx y=>decide (numAt ps.toArray x<numAt ps.toArray y)) (ps.toArray.size-1);let a:(intItems ps.toArray)[argBest (λx y=>decide (numAt ps.toArray x<numAt ps.toArray y)) (ps.toArray.size-1)]?=MW v:=o;rw[Jw]at c a;generalize argBest (λx y=>decide (numAt ps.toArray x<numAt ps.toArray y)) (ps.length-1)=b at c a;let hl:b<ps.length:=()
 let z:KZ ps[b].1 ps[b].2=v:=by simpa[intItems,hl]using a
 exact #[.int ps[b].1,H,I.kept q,by rw[<-z];exact #[_,rfl],k _ (List.mem_map_of_mem (Lc hl))]
def CI:RC:=λa M Q=>match a with
 |[.ref l]=>∃ns:ml,M l=MW (.lst (ns.map D.int))/\ns≠[]/\∀n∈ns,Q (.int n) M
 |a=>CS a M Q
theorem Bs(c:X.calm=MY)(f:X.A.units+64<Ky):cK X (.builtin "min") CI:=bN (bo.or (oJ c f) (wH c)) λvs H Q g=>by
 let[j,M,R,d,a,q,b]:=g;unfold CI at q;split at q
 .obtain⟨ns,e,h,q⟩:=q;let[v,8,r]:=bR d;rw[Rep]at r;subst r;let[xs,h1,h2]:=a _ _ e;rw[cG h2]at h1;exact .inr #[_,ns,8,Ni.of h1,h,λn i=>b _ _ _ _ .refl (by rw[Rep]) a (q n i)]
 .exact .inl #[_,M,R,d,a,q,b]
def AZ{es:m3}{k n:Nat}{t:RB}{c:Pos}(i:X.calm=MY)(h:Rc X es t)(j:(Lv es X.env).length=n:=by rfl)(d:(Lv es X.env).findIdx? (·.1)=MX:=by rfl) :
 PG X (.Tuple es k c) (λv σ H Q=>∃a xs,v=.ref a/\Ni X.K H a xs/\xs.length=n/\t xs σ H Q):=by
 intro NK s σ H v u Q I r l
 let[a,xs,m,w,hl,q]:=l
 subst m
 cases r
 let[f,g,p,_]:=I.list w
 let e:(Lv es X.env).length=f.toArray.size:=by rw[j,<-hl,g.length,Jw]
 rw[PyProof.Rows.assign_Tuple]
 refine J0 (KN ?_)
 unfold unpack
 rw[e,d]
 refine J0 (Kl (PySem.W.kun_itemsOf (I.ok.hd i) p.isList λx hx=>?_))
 let y:Inv X NK σ H { s with heap:=x }:=I.kept (t':=s.toks) λb o e=>hx b o (JH (Js e)) e
 exact h NK _ σ H xs _ Q y ‹g› q
def Gm(n:Nat)(t:om):Pq:=λd δ M Q=>∃l a,d=.ref l/\M l=MW (.lst a)/\a.length=n/\t a δ M Q
theorem AO{es:m3}{k n:Nat}{t:om}{b:Pos}(j:X.calm=MY)(h:DGs X es t)(c:(Lv es X.env).length=n:=by rfl)(f:(Lv es X.env).findIdx? (·.1)=MX:=by rfl):DG X (.Tuple es k b) (Gm n t):=
 oX (AZ j h c f) λv σ H Q z=>by
  obtain⟨d,δ,M,R,r,hs,a,⟨l,m,e,hl,c,q⟩,g⟩:=z
  subst e
  rw[Rep]at r;subst r
  let[xs,hx,i]:=a _ _ hl
  exact #[l,xs,8,Ni.of hx,by rw[<-i.length];exact c,m,δ,M,R,i,hs,a,q,g]
end
section
variable{X:Cx}{f:Str}{pos:Pos}{o:l_}{ta:TD}
def gH{K:J1}(a:X.K=K)(he:DE X o ta)(b:LB o f X.env (eval o X.env)=eval o X.env:=by rfl):DE X (.Attribute o f pos) (C1 K ta f):=by subst a;exact kI he b
end
end SD
namespace HT
open PySem PySem.Spec PyProof.Rows
section
variable{prog:Jv}{w:JP}{A:JQ}{E:J3->J4->Prop}{s:J4}
def gP{t sl:k_}{items:Array J3}{e f:J3}{lo hi:mu}{Q:J3->J4->Prop}(ht:IsTup s.heap t items)(hs:s.heap.IsSliceOf sl e f .none)(pl:IsPart e lo)(g:IsPart f hi)
 (hw:sIx items.size 0 lo=0/\sIx items.size items.size hi=items.size) (h:Q (.ref t) s) (hsz:items.size<=JJ):Jq (Ju prog w) A (getItem (.ref t) (.ref sl)) Q E s:=by
 let[os,b,c,i]:=id hs
 let d:s.TypeIs (.ref sl) "slice":=#[os,b,c]
 unfold getItem
 try with_reducible refine Kl ?_
 first|refine J0 (J5 ?_)|skip
 refine J0 (wpAny_sequenceKey ht.typeIs ⋯ ?_)
 refine J0 (Lz (name:=Km "__getitem__") ht.typeIs KO
  (KQ KO ht.typeIs entry_tuple_getitem ?_ (args_tuple_getitem _ _)))
 show Jq _ _ (Builtin.Tuple.tupleItemsOf (.ref t) >>= _) _ _ s
 refine J0 (tupleItemsOf_ ht ?_)
 refine J0 (wpAny_typeOf d ?_)
 rw[NB ⋯]
 refine J0 (eP hs pl g ?_)
 let a:((((sIx items.size 0 lo:Nat):Int)==0&&(1:Int)==1&&(sIx items.size items.size hi-sIx items.size 0 lo)==items.size)=MY):=by
  rw[hw.1,hw.2];simp
 show Jq _ _ (if(((sIx items.size 0 lo:Nat):Int)==0&&(1:Int)==1&&(sIx items.size items.size hi-sIx items.size 0 lo)==items.size)=MY then _ else _) _ _ s
 rw[NB a]
 unfold Builtin.Tuple.tupleIsExact
 refine J0 (J0 (wpAny_typeOf ht.typeIs (J5 ?_)))
 rw[NB ⋯]
 exact J0 (wpAny_rule (J5 #[7,J5 h]))
end
end HT
open HT renaming sIx->N8
namespace SD
open PySem PySem.Spec PyProof.Rows L2
section
variable{X:Cx}
def Ak:R9 X (λx lo hi H Q=>∃a xs,x=.ref a/\Nl X.K H a xs/\(N8 xs.length 0 lo=0/\N8 xs.length xs.length hi=xs.length)/\Q (.ref a) H):=by
 intro NK s σ H x v i j lo hi sl Q I d hs pl e h;let[a,xs,8,hx,f,q]:=h;cases d;let[c,r,ht,g]:=I.tuple hx;let b:c.toArray.size=xs.length:=by rw[Jw];exact r.length.symm
 exists "tuple",_,KO.lookup,ht.typeIs;exact HT.gP ht hs pl e (by rw[b];exact f) #[.ref a,H,I,8,q] (by rw[b];exact g)
def HE:D->mu->mu->MH->DK->Prop:=λx lo hi M Q=>match x with
 |.ref a=>∃b,M a=MW (.lst b)/\∀p,M p=MX->Q (.ref p) (av M p (.lst (cutD b lo hi)))
 |.tup b=>Q (.tup (cutD b lo hi)) M
 |_=>False
def IJ(te:TD)(tl th:Rw):TD:=λδ M Q=>te δ M λx a=>tl δ a λl b=>th δ b λu c=>HE x l u c Q
variable{a:l_}{te:TD}{tl th:Rw}{lo hi:Option l_}{pos p2:Pos}
theorem jm(he:DE X a te)(hl:PO X lo (uq X.K tl))(o:PO X hi (uq X.K th)):DE X (.Subscript a (.Slice lo hi MX p2) pos) (IJ te tl th):=
 aQ (zE ((A6.or Fh).or Ak) he hl o) λσ H Q p=>by
  let[δ,M,R,hs,a,q,d]:=p
  refine #[δ,M,_,hs,a,q,λx r v H1 g1 s t w=>#[δ,r,_,hs.mono g1,t,w,λl y C k A B=>#[δ,y,_,hs.mono (g1.trans k),A,B,λu D E n g c=>?_]]]
  let G:=(g1.trans k).trans n
  let m:=s.mono (k.trans n)
  unfold HE at c
  split at c
  .obtain⟨j,e3,c⟩:=c
   obtain rfl:v=.ref _:=m
   let[xs,hx,h]:=g _ _ e3
   exact .inl (.inl #[_,xs,8,Ni.of hx,λz f=>d _ _ _ _ (G.trans (.new f)) (by rw[Rep]) (g.mB f (h.cut _ _)) (c z (g.fresh f))])
  .rename_i j
   rw[Rep]at m
   let[b,xs,8,hx,h]:=m
   by_cases i:N8 xs.length 0 l=0/\N8 xs.length xs.length u=xs.length
   .refine .inr #[_,xs,8,hx,i,d (.tup j) _ _ _ G (by rw[Rep];exact #[b,xs,8,hx,h]) g ?_]
    let e:cutD j l u=j:=by
     unfold cutD
     rw[<-h.length]at i
     rw[i.1,i.2,List.drop_zero,Nat.sub_zero,List.take_length]
    rw[e]at c;exact c
   .exact .inl (.inr #[_,xs,8,hx,i,λz f=>d _ _ _ _ (G.trans (.new f)) (by rw[Rep];exact #[z,7,Nl.of az,(h.cut _ _).mono (.new f)]) (g.new f) c])
  .exact c.elim
variable{o:l_}{to:TD}{apos NO:Pos}
def Gq(to:TD):TD:=λδ M Q=>to δ M λx c=>∃l b y,x=.ref l/\c l=MW (.lst b)/\b[b.length-1]?=MW y/\Q y (av c l (.lst b.dropLast))
theorem vp(n:DE X o to)(d:LB o "pop" X.env (eval o X.env)=eval o X.env:=by rfl)(e:(apos.endLine==NO.line)=MY:=by rfl):DE X (.Call (.Attribute o "pop" apos) [] [] NO) (Gq to):=
 aQ (E8 PySem.F.plainAttrs_list PySem.F.slot_list_pop PySem.F.type_list_pop Eg n d e) λσ H Q ⟨δ,M,R,h,p,q,i⟩=>by
  refine #[δ,M,_,h,p,q,λx z v H1 g1 j k f=>?_]
  let[l,g,y,ex,hl,r,s]:=f
  subst ex
  rw[Rep]at j
  subst j
  let[vs,b,c]:=k _ _ hl
  let[u,m,t]:=c.get r
  rw[c.length]at m
  let w:g.dropLast=g.take (g.length-1):=List.dropLast_eq_take ..
  let dv:vs.dropLast=vs.take (g.length-1):=by rw[c.length];exact List.dropLast_eq_take ..
  refine #[.inl #[8,vs,Ni.of b],l,vs,u,8,8,b,m,i _ _ _ _ (g1.trans (.lst b)) (t.mono (.lst b)) (k.yJ b ?_) s]
  rw[w,dv]
  exact c.take _
def uA{b:Type}(f:b->D)(l:List b)(i:Nat):cutD (l.map f) MX (MW (i:Int))=(l.take i).map f:=by
 unfold cutD;rw[HT.ub,HT.qk,J7,Nat.sub_zero,List.drop_zero,List.map_take];rcases Nat.le_total i l.length with h|h
 .rw[Nat.min_eq_left h]
 .rw[Nat.min_eq_right h,L8 (by rw[J7];exact Jo _),L8 (by rw[J7];exact h)]
end
section
variable(p q:Int->Int)
def kW(x y w:Int):Nat:=(if x<=p w then 1 else 0)+(if q w<=y-2 then 1 else 0)
def kT(W:ml)(c:Int):Bool:=W.any λw=>decide (p w=c)||decide (q w=c)
def nC(m:Nat)(x y:Int)(W:ml):Nat:=(JM m).countP λc:Nat=>(decide (x<=(c:Int))&&decide ((c:Int)<=y-2))&&kT p q W c
def O5(x y w:Int):Bool:=decide (p w<y-1)&&decide (x<=q w)
structure GG(m:Nat)(x y:Int)(W:ml)(f:Nat):Prop where
 a:W.length+nC p q m x y W+1<=2^f
 k:∀w∈W,1+kW p q x y w<=f
 u:(f:Int)<=W.length+(y-x)
end
theorem fS{c:Type}(P A B C:c->Bool):∀l:List c,(∀a∈l,P a=MY->A a=MY\/B a=MY\/C a=MY)->l.countP P<=l.countP A+l.countP B+l.countP C
 |[],_=>by simp
 |a::l,h=>by
  let f:=fS P A B C l λb d=>h b (JC _ d)
  let h0:=h a (JW ..)
  rw[List.countP_cons,List.countP_cons,List.countP_cons,List.countP_cons]
  cases e:P a with
  |false=>simp;omega
  |true=>
   rcases h0 e with z|z|z<;>simp[z]<;>omega
def jO{l:ml}(nd:l.Nodup)(c:Int):l.countP (λw=>decide (w=c))<=1:=by
 induction l with
 |nil=>simp
 |cons a l d=>
  let[h1,h2]:=Md.mp nd
  rw[List.countP_cons]
  by_cases e:a=c
  .subst e;have:l.countP (λw=>decide (w=a))=0:=List.countP_eq_zero.mpr λb f=>by simp;rintro rfl;exact h1 f
   simp[this]
  .have:=d h2;simp[e];exact this
def ny(m c:Nat):(JM m).countP (λj:Nat=>decide ((j:Int)=(c:Int)))<=1:=by have:=jO (l:=(JM m).map λk:Nat=>(k:Int)) (List.Pairwise.map _ (λa b (h:a≠b) e=>h ()) List.nodup_range) c;rw[List.countP_map]at this;exact this
section
variable{p q:Int->Int}{m:Nat}{x y c:Int}{W:ml}{f1 f2:Nat}
theorem Fp:nC p q m x y []=0:=List.countP_eq_zero.mpr λb a=>by simp[kT]
theorem GG.nil(h:x<=y):GG p q m x y [] 0:=#[by rw[Fp];exact Jo _,(λw a=>nomatch a),(by simp;omega)]
def kL:kT p q W c=MY↔∃w∈W,p w=c\/q w=c:=by unfold kT;rw[Mq];simp
def nO(P:Prop)[Decidable P]:(P/\(if P then 1 else 0:Nat)=1)\/(¬P/\(if P then 1 else 0:Nat)=0):=by
 by_cases h:P
 .exact .inl #[h,NB h]
 .exact .inr #[h,NA h]
def uK{a b f1 f2:Nat}(h1:a<=2^f1)(h2:b<=2^f2):a+b<=2^(1+max f1 f2):=by let e1:2^f1<=2^(max f1 f2):=MD ⋯ (Nat.le_max_left ..);let e2:2^f2<=2^(max f1 f2):=MD ⋯ (Nat.le_max_right ..);rw[Nat.add_comm 1,Nat.pow_succ];omega
def GG.wall{ab:Int->Int->Bool}(nd:W.Nodup)(o:c∈W)(s:p c<x)(t:y-1<=q c)(tot:∀w∈W,w≠c->ab c w=MY\/ab w c=MY)(g:ab c c=MZ)
 (g1:GG p q m x y (W.filter λw=>ab c w) f1) (i:GG p q m x y (W.filter λw=>ab w c) f2):GG p q m x y W (1+max f1 f2):=by
 let l1:W.length<=1+(W.filter λw=>ab c w).length+(W.filter λw=>ab w c).length:=by
  let h:=fS (λ_=>MY) (λw=>decide (w=c)) (λw=>ab c w) (λw=>ab w c) W λw b _=>by
   by_cases e:w=c
   .exact .inl (by simp[e])
   .exact .inr (tot w b e)
  let h1:=jO nd c
  rw[List.countP_true]at h
  rw[<-Mi,<-Mi]
  omega
 let f:∀P:Int->Bool,P c=MZ->(W.filter P).length+1<=W.length:=λP r=>by
  let h2:(W.filter P).length+(W.filter λw=>decide (w=c)).length<=W.length:=by
   let e:∀l:ml,(l.filter P).length+(l.filter λw=>decide (w=c)).length<=l.length:=λl=>by
    induction l with
    |nil=>simp
    |cons a l v=>
     by_cases e:a=c
     .subst e;simp[r];omega
     .cases z:P a<;>simp[z,e]<;>omega
   exact e W
  let A:1<=(W.filter λw=>decide (w=c)).length:=List.length_pos_iff_exists_mem.mpr #[c,Ke.mpr #[o,by simp]]
  omega
 let l2:nC p q m x y W<=nC p q m x y (W.filter λw=>ab c w)+nC p q m x y (W.filter λw=>ab w c):=by
  let h:=fS (λd:Nat=>(decide (x<=(d:Int))&&decide ((d:Int)<=y-2))&&kT p q W d) (λd:Nat=>(decide (x<=(d:Int))&&decide ((d:Int)<=y-2))&&kT p q (W.filter λw=>ab c w) d) (λd:Nat=>(decide (x<=(d:Int))&&decide ((d:Int)<=y-2))&&kT p q (W.filter λw=>ab w c) d) (λ_=>MZ) (JM m) λd _ hd=>by
   simp only[Kq,NH,kL]at hd ⊢
   obtain⟨⟨j,n⟩,w,b,e⟩:=hd
   let ne:w≠c:=by rintro rfl;omega
   rcases tot w b ne with z|z
   .exact .inl #[#[j,n],w,Ke.mpr #[b,z],e]
   .exact .inr (.inl #[#[j,n],w,Ke.mpr #[b,z],e])
  rw[List.countP_false]at h
  exact h
 let B:=f (λw=>ab c w) g
 let C:=f (λw=>ab w c) g
 refine #[?_,λw b=>?_,?_]
 .have:=uK g1.a i.a
  omega
 .by_cases e:w=c
  .subst e
   unfold kW
   rw[NA (),NA ()]
   omega
  .rcases tot w b e with z|z
   .have:=g1.k w (Ke.mpr #[b,z]);omega
   .have:=i.k w (Ke.mpr #[b,z]);omega
 .have:=g1.u
  have:=i.u
  omega
def GG.qV{c:Nat}(f:∀w∈W,p w<q w)(g:∀w∈W,p w<y-1/\x<=q w)(t:x<=(c:Int))(v:(c:Int)<=y-2)
 (g1:GG p q m x (c+1) (W.filter λw=>O5 p q x (c+1) w) f1) (i:GG p q m (c+1) y (W.filter λw=>O5 p q (c+1) y w) f2):GG p q m x y W (1+max f1 f2):=by
 let m1:∀w∈W,p w<(c:Int)->w∈W.filter λw=>O5 p q x (c+1) w:=λw b h=>Ke.mpr #[b,by
  have:=(g w b).2
  unfold O5;rw[ND (),ND ()];rfl]
 let m2:∀w∈W,(c:Int)+1<=q w->w∈W.filter λw=>O5 p q (c+1) y w:=λw b h=>Ke.mpr #[b,by
  have:=(g w b).1
  unfold O5;rw[ND (),ND ()];rfl]
 let j:∀w∈W,p w<(c:Int)\/(c:Int)+1<=q w:=λw b=>by have:=f w b;omega
 let l1:W.length<=(W.filter λw=>O5 p q x (c+1) w).length+(W.filter λw=>O5 p q (c+1) y w).length:=by
  let h:=fS (λ_=>MY) (λw=>O5 p q x (c+1) w) (λw=>O5 p q (c+1) y w) (λ_=>MZ) W λw b _=>by
   rcases j w b with z|z
   .exact .inl (Ke.mp (m1 w b z)).2
   .exact .inr (.inl (Ke.mp (m2 w b z)).2)
  rw[List.countP_true,Mi,Mi]at h
  let h0:W.countP (λ_=>MZ)=0:=by rw[List.countP_false];rfl
  omega
 let l2:nC p q m x y W<=1+nC p q m x (c+1) (W.filter λw=>O5 p q x (c+1) w)+nC p q m (c+1) y (W.filter λw=>O5 p q (c+1) y w):=by
  let h:=fS (λd:Nat=>(decide (x<=(d:Int))&&decide ((d:Int)<=y-2))&&kT p q W d) (λd:Nat=>decide ((d:Int)=(c:Int))) (λd:Nat=>(decide (x<=(d:Int))&&decide ((d:Int)<=(c:Int)+1-2))&&kT p q (W.filter λw=>O5 p q x (c+1) w) d) (λd:Nat=>(decide ((c:Int)+1<=(d:Int))&&decide ((d:Int)<=y-2))&&kT p q (W.filter λw=>O5 p q (c+1) y w) d) (JM m) λd _ hd=>by
   simp only[Kq,NH,kL]at hd ⊢
   obtain⟨⟨l,n⟩,w,b,e⟩:=hd
   have:=f w b
   rcases LX (d:Int) c with z|z|z
   .exact .inr (.inl #[#[l,()],w,m1 w b (),e])
   .exact .inl z
   .exact .inr (.inr #[#[(),n],w,m2 w b (),e])
  have:=ny m c
  unfold nC
  omega
 refine #[?_,λw b=>?_,?_]
 .have:=uK g1.a i.a
  omega
 .have h0:=f w b
  let h1:=λz=>g1.k w (m1 w b z)
  let h2:=λz=>i.k w (m2 w b z)
  unfold kW at h1 h2 ⊢
  let A:=nO (x<=p w)
  let B:=nO (q w<=(c:Int)+1-2)
  let C:=nO ((c:Int)+1<=p w)
  let D:=nO (q w<=y-2)
  generalize (if x<=p w then 1 else 0:Nat)=e1 at *
  generalize (if q w<=(c:Int)+1-2 then 1 else 0:Nat)=e2 at *
  generalize (if(c:Int)+1<=p w then 1 else 0:Nat)=e3 at *
  generalize (if q w<=y-2 then 1 else 0:Nat)=e4 at *
  clear g1 i l1 l2 m1 m2
  by_cases o:p w<(c:Int)
  .have E:=h1 o
   by_cases r:(c:Int)+1<=q w
   .have s:=h2 r;omega
   .omega
  .have s:=h2 ();omega
 .have:=g1.u
  have:=i.u
  let F:=Lp (λw=>O5 p q x (c+1) w) W
  let G:=Lp (λw=>O5 p q (c+1) y w) W
  omega
def yQ(a:∀w∈W,p w<q w)(b:∀w∈W,p w<y-1/\x<=q w){w:Int}(hw:w∈W):(p w<x/\y-1<=q w)\/(x<=p w/\p w<=y-2)\/(x<=q w/\q w<=y-2):=by have:=a w hw;have:=b w hw;omega
def GG.whole{f:Nat}(h:∀w∈W,0<=p w)(i:∀w∈W,q w<m)(j:∀w∈W,p w<q w)(l:∀c:Nat,c<m->∃w∈W,p w=c\/q w=c)(g:GG p q m 0 ((m:Int)+1) W f):W.length+m<2^f/\(W≠[]->3<=f):=by
 let e:nC p q m 0 ((m:Int)+1) W=m:=by
  unfold nC
  have:(JM m).countP (λc:Nat=>(decide ((0:Int)<=(c:Int))&&decide ((c:Int)<=(m:Int)+1-2))&&kT p q W c)=(JM m).length:=List.countP_eq_length.mpr λc b=>by
   let b:=KI.mp b
   rw[ND (),ND (),kL.mpr (l c b)];rfl
  rw[this,MG]
 let ga:=g.a;rw[e]at ga;refine #[(),λne=>?_];let[w,d]:=List.exists_mem_of_ne_nil _ ne;have:=g.k w d;unfold kW at this;rw[NB (h w d),NB (by have:=i w d;omega)]at this;omega
end
def pE(ws:n_)(ps:List Vc)(k:Int):Int:=(Pw ps (ea (OI ws k)):Int)
def qE(ws:n_)(ps:List Vc)(k:Int):Int:=(Pw ps (eb (OI ws k)):Int)
def aB(ws:n_)(i j:Int):Bool:=Nu (OI ws i) (OI ws j)
def rng(n:Nat):ml:=(JM n).map λk:Nat=>(k:Int)
structure Nt(ws:n_)(ps:List Vc):Prop where
 hU:∀w∈ws,OB w
 hF:PF ws
 up:ps.Pairwise ON
 he:∀w∈ws,ea w∈ps/\eb w∈ps
structure Wk(ws:n_)(ps:List Vc)(x y:Int)(W:ml):Prop where
 sl:W.Sublist (rng ws.length)
 x0:0<=x
 xy:x<y
 y1:y<=(ps.length:Int)+1
 i:∀w∈W,pE ws ps w<y-1/\x<=qE ws ps w
abbrev GW(ws:n_)(ps:List Vc)(x y:Int)(W:ml)(f:Nat):Prop:=GG (pE ws ps) (qE ws ps) ps.length x y W f
structure Cut(ws:n_)(ps:List Vc)(x y:Int)(W:ml)(x1 y1:Int)(W1:ml)(x2 y2:Int)(W2:ml):Prop where
 w1:Wk ws ps x1 y1 W1
 w2:Wk ws ps x2 y2 W2
 m1:(W1.length:Int)+(y1-x1)<W.length+(y-x)
 m2:(W2.length:Int)+(y2-x2)<W.length+(y-x)
 g:∀f1 f2,GW ws ps x1 y1 W1 f1->GW ws ps x2 y2 W2 f2->GW ws ps x y W (1+max f1 f2)
def FT(n:Nat):(rng n).Nodup:=by unfold rng;exact List.Pairwise.map _ (λa b (h:a≠b) e=>h ()) List.nodup_range
def dZ{n:Nat}{k:Int}:k∈rng n↔0<=k/\k<n:=by unfold rng;rw[JZ];refine #[λ⟨j,a,e⟩=>?_,λh=>#[k.toNat,KI.mpr (),()]];have:=KI.mp a;omega
def fv(n:Nat):(rng n).length=n:=by simp[rng]
section
variable{ws:n_}{ps:List Vc}{x y:Int}{W:ml}
theorem Wk.fs(h:Wk ws ps x y W):Fs ws W:=#[h.sl.nodup (FT _),λk a=>dZ.mp (h.sl.subset a)]
def Nt.at(E:Nt ws ps){k:Int}(h:0<=k/\k<ws.length):∃w,ws[k.toNat]?=MW w/\OI ws k=w/\w∈ws:=by let[h1,h2,a]:=c8 h.1 h.2;exact #[_,h1,8,JN h1]
def Nt.lt(E:Nt ws ps){k:Int}(h:0<=k/\k<ws.length):0<=pE ws ps k/\pE ws ps k<qE ws ps k/\qE ws ps k<ps.length:=by let[w,h1,h2,a]:=E.at h;unfold pE qE;rw[h2];let[b,c]:=jn (E.he w a).1;let[b1,d]:=jn (E.he w a).2;let lt:Pw ps (ea w)<Pw ps (eb w):=((rZ E.up (E.he w a).2 b).2).mpr (E.hU w a).lt;omega
def Nt.tot(E:Nt ws ps){c w:Int}(d:0<=c/\c<ws.length)(hw:0<=w/\w<ws.length)(ne:w≠c)(xy:x<y)(o:pE ws ps c<x/\y-1<=qE ws ps c)(i:pE ws ps w<y-1/\x<=qE ws ps w)(x0:0<=x):aB ws c w=MY\/aB ws w c=MY:=by
 let[u,A,g,h]:=E.at d;let[v,B,l,m]:=E.at hw;let C:=E.lt d;let n:=E.lt hw;obtain⟨j,p⟩:∃j:Nat,(j:Int)=max x (pE ws ps w+1)-1:=#[(max x (pE ws ps w+1)-1).toNat,()];let f:j<ps.length:=()
 let q:ps[j]?=MW ps[j]:=JB f;let s:RQ u ps[j]=MY:=by rw[<-uk E.up (E.he u h).1 (E.he u h).2 q];unfold pE at o;unfold qE at o;rw[g]at o;rw[ND (),ND ()];rfl
 let t:RQ v ps[j]=MY:=by rw[<-uk E.up (E.he v m).1 (E.he v m).2 q];unfold pE qE at n i;unfold pE at p;rw[l]at n i p;rw[ND (),ND ()];rfl
 let F:Fs ws [c,w]:=#[by simp;exact λe=>ne e.symm,λk r=>by
  simp only[JU,List.not_mem_nil,or_false]at r
  rcases r with rfl|rfl
  .exact d
  .exact hw]
 let z:=Hg E.hU E.hF F (a:=c) (b:=w) (_) (_) (by rw[g];exact s) (by rw[l];exact t) (λe=>ne e.symm);unfold aB;rw[z];cases Nu (OI ws c) (OI ws w)<;>simp
theorem Wk.filter(h:Wk ws ps x y W)(P:Int->Bool){a b:Int}(x0:0<=a)(xy:a<b)(y1:b<=(ps.length:Int)+1)(i:∀w∈W,P w=MY->pE ws ps w<b-1/\a<=qE ws ps w):Wk ws ps a b (W.filter P):=#[(List.filter_sublist (p:=P)).trans h.sl,x0,xy,y1,λw c=>i w (Ke.mp c).1 (Ke.mp c).2]
def filter_lt{W:ml}{P:Int->Bool}{c:Int}(b:c∈W)(h:P c=MZ):(W.filter P).length<W.length:=by
 induction W with
 |nil=>cases b
 |cons a W d=>
  let l:=Lp P W
  rcases JU.mp b with e|e
  .subst e;rw[List.filter_cons_of_neg (by rw[h];simp)];exact Nat.lt_succ_of_le l
  .have:=d e;cases z:P a
   .rw[List.filter_cons_of_neg (by rw[z];simp)];exact KL this
   .rw[List.filter_cons_of_pos (by rw[z])];exact Nat.succ_lt_succ this
def Wk.wall(E:Nt ws ps)(h:Wk ws ps x y W){c:Int}(e:c∈W)(o:pE ws ps c<x/\y-1<=qE ws ps c):Cut ws ps x y W x y (W.filter λw=>aB ws c w) x y (W.filter λw=>aB ws w c):=by
 let F:=h.fs;let a:aB ws c c=MZ:=by let[u,k,f,g]:=E.at (F.b c e);unfold aB;rw[f];exact xJ (E.hU u g)
 let l1:=filter_lt (P:=λw=>aB ws c w) e a;let l2:=filter_lt (P:=λw=>aB ws w c) e a;refine #[h.filter _ h.x0 h.xy h.y1 λw d _=>h.i w d,h.filter _ h.x0 h.xy h.y1 λw d _=>h.i w d,(),(),λl m g1 j=>?_];exact GG.wall F.nd e o.1 o.2 (λw d ne=>E.tot (F.b c e) (F.b w d) ne h.xy o (h.i w d) h.x0) a g1 j
def Wk.qV(E:Nt ws ps)(h:Wk ws ps x y W){c:Nat}(d:x<=(c:Int))(e:(c:Int)<=y-2):Cut ws ps x y W x (c+1) (W.filter λw=>O5 (pE ws ps) (qE ws ps) x (c+1) w) (c+1) y (W.filter λw=>O5 (pE ws ps) (qE ws ps) (c+1) y w):=by
 let F:=h.fs;let x0:=h.x0;let y1:=h.y1;let g:=Lp (λw=>O5 (pE ws ps) (qE ws ps) x (c+1) w) W;let j:=Lp (λw=>O5 (pE ws ps) (qE ws ps) (c+1) y w) W;let un:∀{x y w:Int},O5 (pE ws ps) (qE ws ps) x y w=MY->pE ws ps w<y-1/\x<=qE ws ps w:=λ{x y w} z=>by unfold O5 at z;simpa using z
 refine #[h.filter _ x0 () () λw a z=>un z,h.filter _ () () y1 λw a z=>un z,(),(),λk l g1 f=>?_];exact GG.qV (λw a=>(E.lt (F.b w a)).2.1) h.i d e g1 f
theorem Wk.some(E:Nt ws ps)(h:Wk ws ps x y W){w:Int}(hw:w∈W):(pE ws ps w<x/\y-1<=qE ws ps w)\/(x<=pE ws ps w/\pE ws ps w<=y-2)\/(x<=qE ws ps w/\qE ws ps w<=y-2):=yQ (λw hw=>(E.lt (h.fs.b w hw)).2.1) h.i hw
theorem Wk.all(E:Nt ws ps):Wk ws ps 0 ((ps.length:Int)+1) (rng ws.length):=#[.refl _,(),(),(),λw a=>by have:=E.lt (dZ.mp a);omega]
def GW.all(E:Nt ws ps)(l:∀u∈ps,∃w∈ws,ea w=u\/eb w=u){f:Nat}(g:GW ws ps 0 ((ps.length:Int)+1) (rng ws.length) f):ws.length+ps.length<2^f/\(ws≠[]->3<=f)/\f<=ws.length+ps.length+1:=by
 let z:=GG.whole (p:=pE ws ps) (q:=qE ws ps) (λw a=>(E.lt (dZ.mp a)).1) (λw a=>(E.lt (dZ.mp a)).2.2) (λw a=>(E.lt (dZ.mp a)).2.1) (λc b=>?_) g
 .rw[fv]at z;let u:=g.u;rw[fv]at u;refine #[z.1,λne=>z.2 λe=>ne ?_,()];have:=fv ws.length;rw[e]at this;exact KR.mp this.symm
 .have m:ps[c]?=MW ps[c]:=JB b;let[w,a,e]:=l _ (Lc b);let[j,d]:=List.getElem?_of_mem a;let t:=(Jp.mp d).1;let h:(0:Int)<=(j:Int)/\(j:Int)<ws.length:=()
  let[u,i,n,v]:=E.at h;rw[Lf,d]at i;cases i
  let k:∀u,u∈ps->u=ps[c]->(Pw ps u:Int)=(c:Int):=λu o e=>by
   subst e
   let[r,s]:=jn o
   let nd:ps.Nodup:=E.up.imp λz e=>by subst e;exact nZ _ z
   have:=(List.getElem?_inj s nd).mp (r.trans m.symm)
   omega
  exists j,dZ.mpr h;unfold pE qE;rw[n];rcases e with e|e
  .exact .inl (k _ (E.he w a).1 e)
  .exact .inr (k _ (E.he w a).2 e)
end
def nT:ml->List (ml)
 |[]=>[[]]
 |a::l=>nT l++(nT l).map (a::·)
def zf{W l:ml}(h:W.Sublist l):W∈nT l:=by
 induction h with
 |slnil=>simp[nT]
 |cons a h b=>exact K5.mpr (.inl b)
 |cons_cons a h b=>exact K5.mpr (.inr (JZ.mpr #[_,b,rfl]))
theorem pL:∀l:ml,(nT l).length=2^l.length
 |[]=>rfl
 |a::l=>by
  rw[nT,Ki,J7,pL l,JE,Nat.pow_succ];omega
theorem iY{c d:Type}{f:c->List d}{k:Nat}:∀l:List c,(∀a∈l,(f a).length<=k)->(l.flatMap f).length<=l.length*k
 |[],_=>by simp
 |a::l,h=>by
  let h1:=iY l λb e=>h b (JC _ e)
  let h2:=h a (JW ..)
  rw[List.flatMap_cons,Ki,JE,Nat.succ_mul]
  omega
def ER(n m:Nat):List CK:=(rng (m+2)).flatMap λx=>(rng (m+2)).flatMap λy=>(nT (rng n)).map λW=>([x,y],W)
def xK{n m:Nat}(a:n<=5)(c:m<=10):(ER n m).length<=4608:=by
 let b:∀x y:Int,((nT (rng n)).map λW=>(([x,y],W):CK)).length<=32:=λx y=>by rw[J7,pL,fv];exact MD (n:=2) ⋯ a
 let h2:∀x:Int,((rng (m+2)).flatMap λy=>(nT (rng n)).map λW=>(([x,y],W):CK)).length<=384:=λx=>by
  have:=iY (rng (m+2)) λy _=>b x y
  rw[fv]at this
  omega
 have:=iY (rng (m+2)) λx _=>h2 x;rw[fv]at this;unfold ER;omega
structure Kv(ws:n_)(ps:List Vc)(kvs:Of):Prop where
 nd:(kvs.map (·.1)).Nodup
 ok:∀k d,(k,d)∈kvs->∃(x y:Int) (W:ml) (f:Nat),k=([x,y],W)/\d=.int (f:Int)/\Wk ws ps x y W/\GW ws ps x y W f
section
variable{ws:n_}{ps:List Vc}{x y:Int}{W:ml}{kvs:Of}{f:Nat}
theorem Kv.nil:Kv ws ps []:=#[List.nodup_nil,λk d h=>nomatch h]
def Kv.len(h:Kv ws ps kvs)(d:ws.length<=5)(g:ps.length<=10):kvs.length<=4608:=by
 have:=h.nd.length_le_of_subset (l₂:=ER ws.length ps.length) λk i=>by
  let[z,j,8]:=JZ.mp i
  let[x,y,W,f,e,_,w,_]:=h.ok z.1 z.2 j
  rw[e]
  let a:=w.x0;let b:=w.xy;let c:=w.y1
  exact List.mem_flatMap.mpr #[x,dZ.mpr (),List.mem_flatMap.mpr #[y,dZ.mpr (),JZ.mpr #[W,zf w.sl,rfl]]]
 rw[J7]at this;exact K0 this (xK d g)
def wG{k:CK}{d:D}(h:dh kvs k=MW d):(k,d)∈kvs:=by
 unfold dh at h;let[z,a,8]:=LH.mp h;let h1:=List.find?_some a;let h2:=List.mem_of_find?_eq_some a;let e:z.1=k:=‹h1›
 rw[<-e];exact h2
def Kv.val(h:Kv ws ps kvs){d:D}(e:dh kvs ([x,y],W)=MW d):∃f:Nat,d=.int (f:Int)/\GW ws ps x y W f:=by let[a,b,c,f,e1,e2,_,g]:=h.ok _ _ (wG e);cases e1;exact #[f,e2,g]
def vF(k:CK)(d:D):dh (iN kvs k d) k=MW d:=by
 unfold iN dh;split
 .rename_i h
  induction kvs with
  |nil=>cases h
  |cons a l b=>
   rw[J9]
   by_cases e:a.1=k
   .rw[NB e,List.find?_cons_of_pos (by simp[e])];rfl
   .rw[NA e,List.find?_cons_of_neg (by simp[e])];refine b ?_;rw[LP,NC e,Bool.false_or]at h;exact h
 .rename_i h;rw[List.find?_append];have:kvs.find? (λx=>decide (x.1=k))=MX:=List.find?_eq_none.mpr λa ha z=>h (Mq.mpr #[a,ha,z]);rw[this];simp
def Kv.put(h:Kv ws ps kvs)(w:Wk ws ps x y W)(g:GW ws ps x y W f):Kv ws ps (iN kvs ([x,y],W) (.int (f:Int))):=by
 unfold iN;split
 .refine #[?_,λk d c=>?_]
  .have e:(kvs.map λz=>if z.1=([x,y],W)then(z.1,D.int (f:Int))else z).map (·.1)=kvs.map (·.1):=by rw[Lr];refine LJ λz _=>?_;show(if z.1=([x,y],W)then(z.1,D.int (f:Int))else z).1=z.1;split<;>rfl
   rw[e];exact h.nd
  .obtain⟨z,i,e⟩:=JZ.mp c;by_cases e2:z.1=([x,y],W)
   .rw[NB e2]at e;cases e;exact #[x,y,W,f,e2,8,w,g]
   .rw[NA e2]at e;subst e;exact h.ok _ _ i
 .rename_i nh;refine #[?_,λk d c=>?_]
  .rw[Kr,J9,L7];refine List.nodup_append.mpr #[h.nd,by simp,λa ha b j e=>?_];rw[L9.mp j]at e;let[z,i,8]:=JZ.mp ha;exact nh (Mq.mpr #[z,i,ND e])
  .rcases K5.mp c with z|z
   .exact h.ok _ _ z
   .have:=L9.mp z;cases this;exact #[x,y,W,f,8,8,w,g]
end
theorem Zn{t:OH}{B:EndsD}{δ:DS}{M:MH}(h:∀a:EndsD,(∀δ M,B.nx δ M->a.nx δ M)->t a δ M):t B δ M:=h B λ_ _ h=>h
@[elab_as_elim] theorem W4{P:oi->Prop}{n:Nat}{T:oi}(b:T.length=n+1)(h:∀(a:oy)(U:oi),U.length=n->P (a::U)):P T:=by
 cases T with
 |nil=>cases b
 |cons a U=>exact h a U (Nat.succ.inj b)
def qe{a:Type}{f:a->D}{l:List a}{i:Nat}{d:D}(h:(l.map f)[i]?=MW d):∃x,l[i]?=MW x/\d=f x:=by
 rw[JI]at h;cases e:l[i]? with
 |none=>rw[e]at h;cases h
 |some x=>rw[e]at h;cases h;exact #[x,8,rfl]
inductive Ww(a b c d e:Prop):Prop
 |mk (_:a)(_:b)(_:c)(_:d)(_:e):Ww a b c d e
inductive ZW(a b c d e f:Prop):Prop
 |mk (_:a)(_:b)(_:c)(_:d)(_:e)(_:f):ZW a b c d e f
inductive XC(a b c d e f g:Prop):Prop
 |mk (_:a)(_:b)(_:c)(_:d)(_:e)(_:f)(_:g):XC a b c d e f g
inductive ZV(a b c d e f g h:Prop):Prop
 |mk (_:a)(_:b)(_:c)(_:d)(_:e)(_:f)(_:g)(_:h):ZV a b c d e f g h
inductive ZU(a b c d e f g h i:Prop):Prop
 |mk (_:a)(_:b)(_:c)(_:d)(_:e)(_:f)(_:g)(_:h)(_:i):ZU a b c d e f g h i
inductive Ro{a0 a1:Type}(p:a0->a1->Prop):Prop
 |mk (x0:a0)(x1:a1)(h:p x0 x1):Ro p
inductive Wt{a0 a1 a2:Type}(p:a0->a1->a2->Prop):Prop
 |mk (x0:a0)(x1:a1)(x2:a2)(h:p x0 x1 x2):Wt p
inductive ZA{a0 a1 a2 a3:Type}(p:a0->a1->a2->a3->Prop):Prop
 |mk (x0:a0)(x1:a1)(x2:a2)(x3:a3)(h:p x0 x1 x2 x3):ZA p
inductive ZS{a0 a1 a2 a3 a4 a5 a6:Type}(p:a0->a1->a2->a3->a4->a5->a6->Prop):Prop
 |mk (x0:a0)(x1:a1)(x2:a2)(x3:a3)(x4:a4)(x5:a5)(x6:a6)(h:p x0 x1 x2 x3 x4 x5 x6):ZS p
def qZ(K:J1)(P:Jv)(w:JP){kvs:Of}{ps:Array J3}(h:Oq kvs=rQ ps):False:=by injection h with h;have:=(congrFun (congrFun (congrFun h K) (λ_=>MW (.tbl ps))) 0).mpr rfl;let[xs,e,_]:=this;cases e P w
def FA(K:J1)(P:Jv)(w:JP){kvs:Of}{q:Str}(h:Oq kvs=xq q):False:=by injection h with h;have:=(congrFun (congrFun (congrFun h K) (λ_=>MW (.ext (lI LL q)))) LL).mpr rfl;let[xs,e,_]:=this;let e:=e P w;injection e with e;injection e with e;let z:lI LL q { objs:=(List.toArray [{ cls:=.type "tuple",data:=.fields (List.toArray [.none,.str q 0]) },{ cls:=.type "tuple",data:=.fields (List.toArray [.none,.str q 0]) }]) }:=#[LL,_,_,7,8,8,rfl];rw[e]at z;exact absurd z.1 ⋯
def b5.dc(K:J1)(P:Jv)(w:JP){q:Str}{Pt:k_}{d:Pos}{M g:MH}{a:k_}{kvs:Of}(h:b5 q Pt d M)(ha:M a=MW (Oq kvs))(s:cH a M g):b5 q Pt d g:=by
 let t:∀{b:k_}{o:MO},M b=MW o->(Oq kvs=o->False)->b≠a:=λf n e=>by subst e;rw[ha]at f;injection f with f;exact n f
 rcases h with h|⟨c,h1,h2,i⟩
 .exact .inl (s _ _ (t h (qZ K P w)) h)
 .exact .inr #[c,s _ _ (t h1 (qZ K P w)) h1,s _ _ (t h2 (FA K P w)) h2,i]
theorem b5.neD(K:J1)(P:Jv)(w:JP){q:Str}{Pt:k_}{b:Pos}{M:MH}{a:k_}{kvs:Of}(h:b5 q Pt b M)(ha:M a=MW (Oq kvs)):a≠Pt:=λe=>by subst e;rcases h with h|⟨c,h,_⟩<;>rw[ha]at h<;>injection h with h<;>exact qZ K P w h
theorem ID{M:MH}{a b:k_}{kvs:Of}{d:ox}(ha:M a=MW (Oq kvs))(c:M b=MW (.lst d)):b≠a:=λe=>by subst e;rw[ha]at c;unfold Oq at c;cases c
def KpK(Pt a:k_)(M b:MH):Prop:=∀c o,c≠Pt->c≠a->M c=MW o->b c=MW o
structure O7(a:k_)(M M':MH):Prop where
 l:∀c ds,M c=MW (.lst ds)->M' c=MW (.lst ds)
 a:∀o,M a=MW o->M' a=MW o
section
variable{a:k_}{M M' M2:MH}{q:Str}{Pt:k_}{pos:Pos}{C:k_}{fs:List (Str×D)}{kd:k_}{kvs:Of}
theorem O7.sub(s:SD.Sub M M'):O7 a M M':=#[λc b=>s c _,s a]
theorem O7.trans(h:O7 a M M')(h2:O7 a M' M2):O7 a M M2:=#[λc b e=>h2.l _ _ (h.l _ _ e),λo e=>h2.a _ (h.a _ e)]
theorem O7.F9(K:J1)(b:b5 q Pt pos M)(ha:M a=MW (cm C fs))(s:cH Pt M M'):O7 a M M':=#[λc d h=>s c _ (b.neL h) h,λo h=>s a _ (b.neI K ha) h]
theorem O7.fresh{z:k_}(h:O7 a M M')(b:M z=MX)(s:cH z M' M2):O7 a M M2:=#[λc d e=>s _ _ (aw e b) (h.l _ _ e),λo e=>s _ _ (aw e b) (h.a _ e)]
theorem O7.kx3(K:J1)(b:b5 q Pt pos M)(ha:M a=MW (cm C fs))(e:M kd=MW (Oq kvs))(ne:a≠kd){z:k_}(d:M z=MX)(s:∀c o,c≠Pt->c≠kd->c≠z->M c=MW o->M' c=MW o):O7 a M M':=#[λc f h=>s c _ (b.neL h) (ID e h) (aw h d) h,λo h=>s a _ (b.neI K ha) ne (aw h d) h]
end
def RO(M:MH)(ws:n_)(ab:m_):Prop:=ab.length=ws.length/\∀(i:Nat) a w,ab[i]?=MW a->ws[i]?=MW w->M a=MW (.lst (ws.map λv=>D.bl (Nu w v)))
def Yu(ze tb la:k_)(m:Nat):List (Str×D):=[("ends",.ref ze),("above",.ref tb),("whole_strip",.tup [.int 0,.int ((m:Int)+1)]),("all_walls",.ref la)]
structure Cu(C:k_)(M:MH)(a:k_)(ws:n_)(ps:List Vc)(ze tb la:k_)(ab:m_):Prop where
 ha:M a=MW (cm C (Yu ze tb la ps.length))
 he:M ze=MW (.lst (ws.map (R4 ps)))
 ht:M tb=MW (.lst (ab.map D.ref))
 hab:RO M ws ab
 hl:M la=MW (.lst ((rng ws.length).map D.int))
section
variable{C:k_}{M M':MH}{a:k_}{ws:n_}{ps:List Vc}{ze tb la:k_}{ab:m_}
theorem RO.to(h:RO M ws ab)(k:∀c b,M c=MW (.lst b)->M' c=MW (.lst b)):RO M' ws ab:=#[h.1,λi a w e1 e2=>k _ _ (h.2 i a w e1 e2)]
theorem Cu.to(h:Cu C M a ws ps ze tb la ab)(k:O7 a M M'):Cu C M' a ws ps ze tb la ab:=#[k.a _ h.ha,k.l _ _ h.he,k.l _ _ h.ht,h.hab.to k.l,k.l _ _ h.hl]
def D1{k:Int}(h:0<=k/\k<ws.length):atI (ws.map (R4 ps)) k=MW (.tup [.int (pE ws ps k),.int (qE ws ps k)]):=by obtain⟨j,rfl⟩:∃j:Nat,k=(j:Int):=#[k.toNat,()];refine c7 ?_;have:=(c8 h.1 h.2).1;rw[Lf]at this;rw[JI,this];rfl
def Gx{k:Int}(f:Wl->Bool)(h:0<=k/\k<ws.length):atI (ws.map λv=>D.bl (f v)) k=MW (.bl (f (OI ws k))):=by obtain⟨j,rfl⟩:∃j:Nat,k=(j:Int):=#[k.toNat,()];refine c7 ?_;have:=(c8 h.1 h.2).1;rw[Lf]at this;rw[JI,this];rfl
def RO.at(h:RO M ws ab){k:Int}(b:0<=k/\k<ws.length):∃a,atI (ab.map D.ref) k=MW (.ref a)/\M a=MW (.lst (ws.map λv=>D.bl (Nu (OI ws k) v))):=by
 obtain⟨j,rfl⟩:∃j:Nat,k=(j:Int):=#[k.toNat,()];let w1:=(c8 b.1 b.2).1;rw[Lf]at w1;let c:j<ab.length:=by rw[h.1];omega
 let e:=JB c;exact #[ab[j],c7 (by rw[JI,e];rfl),h.2 j _ _ e w1]
end
def Ri(ws:n_)(ps:List Vc)(x y w:Int):Bool:=decide (pE ws ps w<x)&&decide (y-1<=qE ws ps w)
def wq(M:MH)(ws:n_)(ps:List Vc)(x y:Int)(W:ml)(d:D):Prop:=∃(x1 y1:Int) (a:k_) (W1:ml) (x2 b:Int) (c:k_) (W2:ml),
 d=.tup [.tup [.tup [.int x1,.int y1],.ref a],.tup [.tup [.int x2,.int b],.ref c]]/\M a=MW (.lst (W1.map D.int))/\M c=MW (.lst (W2.map D.int))/\Cut ws ps x y W x1 y1 W1 x2 b W2
def wq.to{M a:MH}{ws:n_}{ps:List Vc}{x y:Int}{W:ml}{d:D}(h:wq M ws ps x y W d)(k:∀c b,M c=MW (.lst b)->a c=MW (.lst b)):wq a ws ps x y W d:=by let[x1,y1,f,W1,x2,g,i,W2,e,h1,h2,c]:=h;exact #[x1,y1,f,W1,x2,g,i,W2,e,k _ _ h1,k _ _ h2,c]
def iD{M a:MH}{p:k_}(b:SD.Sub M a)(c:a p=MX):M p=MX:=by
 cases e:M p with
 |none=>rfl
 |some o=>have:=b _ _ e;rw[c]at this;cases this
theorem nE{M b:MH}{z:k_}(s:cH z M b):∀c a,iV M z c=MW (.lst a)->iV b z c=MW (.lst a):=λc a h=>by
 unfold iV at h ⊢;by_cases e:c=z
 .rw[NB e]at h;cases h
 .rw[NA e]at h ⊢;exact s _ _ e h
theorem AH{M:MH}{z:k_}:∀c a,iV M z c=MW (.lst a)->M c=MW (.lst a):=λc a h=>by
 unfold iV at h;by_cases e:c=z
 .rw[NB e]at h;cases h
 .rw[NA e]at h;exact h
def kD{M:MH}{z c:k_}{o:MO}(h:M c=MW o)(ne:c≠z):iV M z c=MW o:=by unfold iV;rw[NA ne];exact h
theorem fmI(W:ml)(p:Int->Bool):(JM (W.map D.int).length).filterMap (λj=>(W[j]?).bind λa=>if p a=MY then MW (D.int a)else MX)=(W.filter p).map D.int:=Ax W p
def iL{l:k_}{W:ml}{js:ma}{tc:OL}{te:TD}{δ:DS}{M:MH}{Q:DK}(p:Int->Bool)(hl:M l=MW (.lst (W.map D.int)))(u:W.length<=1000)
 (h:∀k∈W,∀b,SD.Sub M b->∀K:Bool->MH->Prop,K (p k) b->tc (cδ [MW (.int k)] js δ) b K) (h2:∀k∈W,∀b,∀K:DK,K (.int k) b->te (cδ [MW (.int k)] js δ) b K)
 (f:∀q,M q=MX->Q (.ref q) (av M q (.lst ((W.filter p).map D.int)))):Yv (.ref l) M λI t=>uW I .one js tc te δ t Q:=by
 let r:∀(a:Int),(MW a).bind (λa=>if p a=MY then MW (D.int a)else MX)=if p a=MY then MW (D.int a)else MX:=λ_=>rfl
 refine #[W.map D.int,hl,nD (λj=>(W[j]?).bind λa=>if p a=MY then MW (.int a)else MX) (by show(W.map D.int).length<=1000000;rw[J7];omega) (λq v f=>by show(av M q _) l=_;rw[ak (aw hl f)];exact hl) ?_ (λq g=>?_)]
 .intro i d b hi hd m
  let[k,n,8]:=qe hd
  let s:=JN n
  refine #[7,λo c=>h k s b m o ?_,λe he o c=>h2 k s b o ?_]
  .rw[n,r]at c
   cases z:p k<;>rw[z]at c<;>exact c
  .rw[n,r]at he
   cases z:p k with
   |false=>rw[z]at he;cases he
   |true=>
    rw[z]at he
    cases he
    exact c _ .refl
 .dsimp only
  rw[fmI W p]
  exact f q g
theorem Wk.bd{ws:n_}{ps:List Vc}{x y:Int}{W:ml}(h:Wk ws ps x y W):W.length<=ws.length:=h.fs.len
theorem FO{ws:n_}{ps:List Vc}(a:∀u∈ps,u∈OA ws ws.length):∀u∈ps,∃w∈ws,ea w=u\/eb w=u:=λu b=>by let[j,w,_,h,e]:=(fu _).mp (a u b);exact #[w,JN h,e.imp (λz=>z.symm) (λz=>z.symm)]
section
variable{P:Jv}{w:JP}{K:J1}{mg:Str->Option J3}{base:lj}{x:Str}{st:lb}{N:nj}{k:Nat}
def Ru(C:D->MH->DK->Prop):OE:=λb M Q=>match b with
 |[a]=>C a M Q
 |_=>False
def pZ{p:Str}{C:D->MH->DK->Prop}(T:Txt K mg x st)(S:N9 N [p] (ao st))
 (body:∀(f:k_)(cdv:J3)(A:JQ)(outer:List Env)(s:J4)(H:Hp)(E:XK),Nd k (A.deeper (MT x (ao st) s.z f cdv))->
  ∃t,DSs (bg Oa P w K mg base N x (ao st) f cdv A outer s H E).nox (aJ st) t/\∀a M Q,C a M Q->t (lT Q) (cV N [a]) M)
 (e:∀(kV b d:J3)(an:Option k_)(cdv ct a:J3),MM (Kp x x (aT st) (aJ st) (ao st) .none kV b d an cdv ct) #[[a],[]]=pure ([p].zip [a]):=by intros;rfl):Cal P w K mg base (k+1) x (Ru C):=by
 refine Ag T S (λkV b d an cdv ct us hl=>?_) (λc M Q h=>?_) λf cdv A outer s H E g=>?_
 .obtain⟨a,rfl⟩:=vy hl
  exact e ..
 .rcases c with _|⟨a,_|⟨w,c⟩⟩
  all_goals first|exact JK h|rfl
 .obtain⟨t,h,i⟩:=body f cdv A outer s H E g
  refine #[t,h,λc M Q h=>?_]
  rcases c with _|⟨a,_|⟨w,c⟩⟩
  all_goals first|exact JK h|exact i _ _ _ h
def OV(C:D->D->MH->DK->Prop):OE:=λc M Q=>match c with
 |[a,b]=>C a b M Q
 |_=>False
def bK{p q:Str}{C:D->D->MH->DK->Prop}(T:Txt K mg x st)(S:N9 N [p,q] (ao st))
 (body:∀(f:k_)(cdv:J3)(A:JQ)(outer:List Env)(s:J4)(H:Hp)(E:XK),Nd k (A.deeper (MT x (ao st) s.z f cdv))->
  ∃t,DSs (bg Oa P w K mg base N x (ao st) f cdv A outer s H E).nox (aJ st) t/\∀a b M Q,C a b M Q->t (lT Q) (cV N [a,b]) M)
 (g:∀(kV c e:J3)(an:Option k_)(cdv ct a b:J3),MM (Kp x x (aT st) (aJ st) (ao st) .none kV c e an cdv ct) #[[a,b],[]]=pure ([p,q].zip [a,b]):=by intros;rfl):Cal P w K mg base (k+1) x (OV C):=by
 refine Ag T S (λkV c e an cdv ct us hl=>?_) (λd M Q h=>?_) λf cdv A outer s H E i=>?_
 .obtain⟨a,b,rfl⟩:=vm hl
  exact g ..
 .rcases d with _|⟨a,_|⟨b,_|⟨w,d⟩⟩⟩
  all_goals first|exact JK h|rfl
 .obtain⟨t,h,j⟩:=body f cdv A outer s H E i
  refine #[t,h,λd M Q h=>?_]
  rcases d with _|⟨a,_|⟨b,_|⟨w,d⟩⟩⟩
  all_goals first|exact JK h|exact j _ _ _ _ h
def XN(C:D->D->D->MH->DK->Prop):OE:=λd M Q=>match d with
 |[a,b,c]=>C a b c M Q
 |_=>False
def De{p q r:Str}{C:D->D->D->MH->DK->Prop}(T:Txt K mg x st)(S:N9 N [p,q,r] (ao st))
 (body:∀(f:k_)(cdv:J3)(A:JQ)(outer:List Env)(s:J4)(H:Hp)(E:XK),Nd k (A.deeper (MT x (ao st) s.z f cdv))->
  ∃t,DSs (bg Oa P w K mg base N x (ao st) f cdv A outer s H E).nox (aJ st) t/\∀a b c M Q,C a b c M Q->t (lT Q) (cV N [a,b,c]) M)
 (i:∀(kV d g:J3)(an:Option k_)(cdv ct a b c:J3),MM (Kp x x (aT st) (aJ st) (ao st) .none kV d g an cdv ct) #[[a,b,c],[]]=pure ([p,q,r].zip [a,b,c]):=by intros;rfl):Cal P w K mg base (k+1) x (XN C):=by
 refine Ag T S (λkV d g an cdv ct us hl=>?_) (λe M Q h=>?_) λf cdv A outer s H E j=>?_
 .obtain⟨a,b,c,rfl⟩:=wu hl
  exact i ..
 .rcases e with _|⟨a,_|⟨b,_|⟨c,_|⟨w,e⟩⟩⟩⟩
  all_goals first|exact JK h|rfl
 .obtain⟨t,h,l⟩:=body f cdv A outer s H E j
  refine #[t,h,λe M Q h=>?_]
  rcases e with _|⟨a,_|⟨b,_|⟨c,_|⟨w,e⟩⟩⟩⟩
  all_goals first|exact JK h|exact l _ _ _ _ _ h
end
end SD
namespace QQ
open PySem PySem.Spec PyProof.Rows L2 SD
def top(i:Nat):lb:=Ka.main.body.getD i (.Pass #[0,0,0,0])
abbrev jr:lb:=top 38
abbrev g9:lb:=top 39
abbrev dO:lb:=top 43
abbrev dk:lb:=top 44
abbrev eX:lb:=top 45
abbrev iC:lb:=top 40
abbrev ly:lb:=top 41
abbrev gm:lb:=top 42
abbrev iy:lb:=top 46
abbrev cX:lb:=top 47
abbrev ir:lb:=top 48
abbrev gu:lb:=top 50
abbrev iz:lb:=top 51
abbrev gC:lb:=top 49
abbrev cy:lb:=top 11
abbrev h8:lb:=top 12
abbrev ie:lb:=top 20
abbrev ja:lb:=top 13
abbrev ib:lb:=top 15
abbrev eB:lb:=top 18
abbrev eC:lb:=top 19
abbrev fq:lb:=top 29
abbrev cZ:lb:=top 30
abbrev eW:lb:=top 17
abbrev iB:lb:=top 16
abbrev zx:lb:=top 21
abbrev qT:lb:=top 22
abbrev je:lb:=top 23
abbrev ik:lb:=top 25
abbrev d7:lb:=top 26
abbrev cL:lb:=fU (top 35) 0
abbrev bM:lb:=top 27
abbrev dH:lb:=top 33
abbrev cg:lb:=fU (top 35) 1
abbrev bX:lb:=fU (top 35) 3
abbrev bH:lb:=fU (top 35) 2
abbrev dB:lb:=top 34
abbrev bO:lb:=fU (top 35) 4
abbrev cJ:lb:=fU (top 35) 6
abbrev cb:lb:=fU (top 35) 7
abbrev lP:lb:=top 36
abbrev di:lb:=top 53
abbrev f7:lb:=top 54
abbrev ef:lb:=top 52
abbrev zS:lb:=top 55
abbrev hZ:lb:=fU (top 5) 0
theorem ql:N9 ["self","count"] ["self","count"] (ao hZ):=#[8,8,8,⋯,8,⋯,⋯]
local macro_rules | `(tactic| walk_at "sc") => `(tactic| exact #[8, rfl, rfl, by decide, rfl, by decide, by decide])
theorem _root_.SD.Cal.m{P:Jv}{w:JP}{K:J1}{mg:Str->Option J3}{base:lj}{j k:Nat}{x:Str}{sp:OE}(h:Cal P w K mg base j x sp)(l:j<=k:=by decide):Cal P w K mg base k x sp:=h.mono l
variable(pa p3 p_ p' q7:SD.D)(M:SD.MH)(Q:SD.DK)
open SD.Zq
structure Tx(K:J1)(mg:Str->Option J3):Prop where
 ae:Txt K mg "_law_pot" jr
 aM:Txt K mg "_law_take" g9
 a8:Txt K mg "_law_new_spot" dO
 a_:Txt K mg "_law_some_spot" dk
 ba:Txt K mg "_law_square" eX
 bb:Txt K mg "_law_side" iC
 bc:Txt K mg "_law_on" ly
 bf:Txt K mg "_law_apart" gm
 bp:Txt K mg "_law_laid" iy
 bq:Txt K mg "_law_shuts_here" cX
 bt:Txt K mg "_law_frac" ir
 bI:Txt K mg "_law_given" gu
 b9:Txt K mg "_law_plot" iz
 b_:Txt K mg "_law_frame" gC
 b':Txt K mg "greatest_divisor" cy
 cc:Txt K mg "fraction" h8
 c_:Txt K mg "own_spot" ie
 dt:Txt K mg "is_less" ja
 dy:Txt K mg "is_ahead" ib
 dV:Txt K mg "place_among" eB
 d_:Txt K mg "ahead_first" eC
 eh:Txt K mg "corners_of" fq
 eu:Txt K mg "ends_by_number" cZ
 ez:Txt K mg "earlier_of" eW
 eH:Txt K mg "later_of" iB
 eI:Txt K mg "gap" zx
 eL:Txt K mg "lean" qT
 e_:Txt K mg "side_of" je
 fb:Txt K mg "is_above" ik
 fz:Txt K mg "above_table" d7
 fC:Txt K mg "lowest_first" bM
 f_:Txt K mg "reaches_over" dH
 f':Txt K mg "reaches_into" dB
 gi:Txt K mg "fewest" lP
 gw:Txt K mg "_law_of_others" di
 gx:Txt K mg "_law_right" f7
 gy:Txt K mg "_law_corners" ef
 gz:Txt K mg "law" zS
 fc_lowest_first:vt K mg "lowest_first" bM 248
 lm:Mk K mg 248 244
 gS:mg "ValueError"=MX
 g_:mg "abs"=MX
 hH:mg "bool"=MX
 hJ:mg "enumerate"=MX
 hL:mg "int"=MX
 hQ:mg "isinstance"=MX
 hV:mg "len"=MX
 hY:mg "list"=MX
 h7:mg "max"=MX
 h_:mg "min"=MX
 ia:mg "range"=MX
 ix:mg "sorted"=MX
 i3:mg "tuple"=MX
 i7:mg "zip"=MX
 g_MOST_FOR_FEWEST:∃t,mg "MOST_FOR_FEWEST"=MW (.int 5 t)
 r_Absent:mg "Absent"=MW (.ref (cl K "Absent"))
 r_Crossing:mg "Crossing"=MW (.ref (cl K "Crossing"))
 r_NoFraction:mg "NoFraction"=MW (.ref (cl K "NoFraction"))
 r_NoRow:mg "NoRow"=MW (.ref (cl K "NoRow"))
 r_NoText:mg "NoText"=MW (.ref (cl K "NoText"))
 r_NoWall:mg "NoWall"=MW (.ref (cl K "NoWall"))
 r_SpotError:mg "SpotError"=MW (.ref (cl K "SpotError"))
 r_TooMany:mg "TooMany"=MW (.ref (cl K "TooMany"))
 e_SpotError:ClsE K "SpotError" (cl K "SpotError")
 eb_SpotError:Kc K (.ref (cl K "SpotError")) (.type "BaseException")=MW MY
 B_SpotError:ClsB K (cl K "SpotError")
 eb_TooMany:Kc K (.ref (cl K "TooMany")) (.type "BaseException")=MW MY
 es_TooMany_SpotError:Kc K (.ref (cl K "TooMany")) (.ref (cl K "SpotError"))=MW MY
 fn_TooMany_count:Ko K (.ref (cl K "TooMany")) "count"=MW MX
 hd_TooMany:KJ K (cl K "TooMany")=MY
 m_TooMany:∃fI fd,ClsI K (cl K "TooMany") (cl K "SpotError") fI/\Fun K "__init__" "TooMany.__init__" hZ fI fd
 ek_TooMany:ErrK K (cl K "TooMany")
 kv_TooMany:JY K (.ref (cl K "TooMany")) (.type "ValueError")=MW MY
 ki_TooMany_Absent:JY K (.ref (cl K "TooMany")) (.ref (cl K "Absent"))=MW MZ
 ki_TooMany_Crossing:JY K (.ref (cl K "TooMany")) (.ref (cl K "Crossing"))=MW MZ
 ki_TooMany_NoFraction:JY K (.ref (cl K "TooMany")) (.ref (cl K "NoFraction"))=MW MZ
 ki_TooMany_NoRow:JY K (.ref (cl K "TooMany")) (.ref (cl K "NoRow"))=MW MZ
 ki_TooMany_NoText:JY K (.ref (cl K "TooMany")) (.ref (cl K "NoText"))=MW MZ
 ki_TooMany_NoWall:JY K (.ref (cl K "TooMany")) (.ref (cl K "NoWall"))=MW MZ
 ki_TooMany_TooMany:JY K (.ref (cl K "TooMany")) (.ref (cl K "TooMany"))=MW MY
 i_:mH K mg "Cutter" (cl K "Cutter") "Cutter.__init__" cL
 j_:eg K (cl K "Cutter") "walls_over" "Cutter.walls_over" cg
 kb:eg K (cl K "Cutter") "cut_at_wall" "Cutter.cut_at_wall" bX
 ke:eg K (cl K "Cutter") "corners_between" "Cutter.corners_between" bH
 kr:eg K (cl K "Cutter") "cut_at_corner" "Cutter.cut_at_corner" bO
 kz:eg K (cl K "Cutter") "all_cuts" "Cutter.all_cuts" cJ
 kS:eg K (cl K "Cutter") "fewest_for" "Cutter.fewest_for" cb
 cl_Cutter:Cls K (cl K "Cutter")
 na_above:bV K (cl K "Cutter") "above"
 na_all_walls:bV K (cl K "Cutter") "all_walls"
 na_ends:bV K (cl K "Cutter") "ends"
 na_whole_strip:bV K (cl K "Cutter") "whole_strip"
variable{P:Jv}{w:JP}{K:J1}{mg:Str->Option J3}{base:lj}
def qS(T:Tx K mg):Wn P w K mg base 1 "TooMany" (cl K "TooMany") ["count"]:=by let[c,fd,M,F]:=T.m_TooMany;refine #[_,c,fd,["self","count"],M,T.eb_TooMany,F.ok (k:=0) (N:=["self","count"]) ql (λvs H Q E h=>by let[a,d,8,hl,_]:=h;simp[hl]) (λcdv A outer s H vs Q E e h=>#[_,pR (uH (Cg T.B_SpotError rfl T.r_SpotError (iS (pv 0) (iS (Ay (lJ (yY ⋯) (lJ (yZ (pv 1)) parts_nil)) ⋯ rfl) oA)) ⋯ rfl rfl rfl)) (ua (BJ (pv 0) (pv 1) rfl)),Gn M T.fn_TooMany_count rfl h (λa y0 b=>#[trivial,#[7,8,b],trivial])]),F.binds (λ_ _ _ _ _ _ us hl=>match us,hl with|[_,_],_=>rfl),T.r_TooMany]
theorem iA:N9 ["_law_script","_law_k","_law_cell"] ["_law_script","_law_k"] (ao jr):=⋯
inductive QA:Prop
 |mk (ns:ml)(k:Int)(_:pa=.rol (LG D.int ns))(_:p3=.int k)(_:0<=k)(_:∀r o,M r=MX->Nw (av M r o) r 0->Q (.ref r) (av M r o))
def vU(T:Tx K mg):Cal P w K mg base 1 "_law_pot" (OV QA):=by
 refine bK (k:=0) T.ae iA λf _ _ _ s H _ b=>#[_,(aq (aI 2 iA.nd ai) (aq (bz (aO (cY b.units) (dv 1) (aF bD rfl T.hV bG (af (dv 0) ag))) (ar (aI 2 iA.nd (aD (dv 0) (dv 1)))) aN) (ar (aE (eE (af (aF (t6 rfl b.units) rfl T.h7 rT (af (dv 2) (af (aA br (tX kB ai) (dv 2)) ag))) (af (aA gB (dv 2) ai) (af ai ag)))))))),λ_ _ M Q h=>?_];let[ns,k,8,8,m,q]:=h;refine fm (λδ a=>a=M/\δ=[MW (.rol (LG D.int ns)),MW (.int k),MW (.int 0)]) ?_ (λc=>c _ _ #[8,rfl]);rintro δ a ⟨e,rfl⟩;subst a;refine fm (λδ a=>a=M/\∃z:Int,δ=[MW (.rol (LG D.int ns)),MW (.int k),MW (.int z)]) ?_ (λc=>?_);rotate_left
 .exists 7,7,trivial,7;refine cD (λhl=>?_) (λ_=>c _ _ #[8,0,rfl]);let g:k<(ns.length:Int):=‹hl›
  obtain⟨j,rfl⟩:∃j:Nat,k=(j:Int):=#[k.toNat,()];let i:j<ns.length:=()
  exact #[7,7,.int ns[j],c7 (by simp[i]),c _ _ #[8,7]]
 rintro δ a ⟨e,z,rfl⟩;subst a;let l:=Int.fmod_nonneg_of_pos z (show(0:Int)<2147483647 by decide);let d:=Int.fmod_lt_of_pos z (show(0:Int)<2147483647 by decide);exists 7,7,trivial;refine #[7,(show(2147483647:Int)≠0 by decide),Ng rfl,λr b=>?_];exact Nk (q r _ b #[_,_,_,aj,(),l,d,⋯,⋯])
theorem d6:N9 ["_law_pot_here","_law_size","_law_digit","_law_mixed"] ["_law_pot_here","_law_size"] (ao g9):=⋯
inductive Pf:Prop
 |mk (r:k_)(b:Int)(n:Nat)(_:pa=.ref r)(_:p3=.int b)(_:Nw M r n)(_:n<900000)(_:0<b)(_:Bd 8000 b)(_:∀v o,0<=v->v<b->Nw (av M r o) r (n+1)->Q (.int v) (av M r o))
def aL(T:Tx K mg):Cal P w K mg base 1 "_law_take" (OV Pf):=by
 refine bK (k:=0) T.aM d6 λf _ _ _ s H _ z=>#[_,(aq (bz (aO (dI z.units) (aD (dv 0) ai) ai) (aq (aI 2 d6.nd (aA gB (aD (dv 0) ai) (dv 1))) (aq (dj (aA lW (aD (dv 0) ai) (dv 1)) (zy (dv 0) ai)) (ar (aE (dv 2))))) aN) (aq (dj (aA aP (aD (dv 0) ai) ai) (zy (dv 0) ai)) (aq (aI 3 d6.nd (aA gB (aA aP (aA aP (aA aV (aD (dv 0) ai) ai) (aA aV (aA aV (aD (dv 0) ai) (aD (dv 0) ai)) ai)) ai) ai)) (aq (aI 3 d6.nd (aA gB (aA aV (dv 3) (dv 3)) ai)) (ar (aE (aA gB (aA lW (aA gB (aA aV (dv 3) (aA aP (dv 3) ai)) ai) ai) (dv 1)))))))),λ_ _ M Q h=>?_];obtain⟨r,b,n,rfl,rfl,⟨x,y,c,d,hx,e,g,o,B⟩,p,v,t,q⟩:=h;let a:b≠0:=()
 let l:∀n:Int,0<=n.fmod b/\n.fmod b<b:=λn=>#[Int.fmod_nonneg_of_pos _ v,Int.fmod_lt_of_pos _ v];let i:Bd 64 (c+1):=by show(c+1).natAbs<2^64;omega
 let j:Bd 64 y:=by show y.natAbs<2^64;omega
 exists 7,_,_,d,8,trivial,7;refine cD (λh=>?_) (λh=>?_)
 .exists 7,_,_,d,8,7,a;exists 7,_,_,d,8,7,#[a,t],7,_,_,d,8;let u:0<=Int.fdiv x b:=by rw[Int.fdiv_eq_ediv_of_nonneg _ ()];exact Int.ediv_nonneg hx ()
  exact #[7,Nk (q _ _ (l _).1 (l _).2 #[_,_,_,aj,u,e,g,o,()])]
 .have p:∀{m:Int}(n:Int),0<m->m<=2^31->Bd 64 (n.fmod m):=λ{m} n h0 h1=>by
   let C:=Int.fmod_nonneg_of_pos n h0
   let D:=Int.fmod_lt_of_pos n h0
   show(n.fmod m).natAbs<2^64
   omega
  exists 7,_,_,d,8,7,_,_,d,8;exists 7,_,_,aj,8,bC j;refine #[7,_,_,aj,8,7,_,_,aj,8,bC i,AQ (dN ⋯),(show(2147483629:Int)≠0 by decide),?_];refine #[7,7,bC (p _ ⋯ ⋯),(show(2147483587:Int)≠0 by decide),?_];exists 7,7,bC (p _ ⋯ ⋯),(show(2147483563:Int)≠0 by decide),#[⋯,dN ⋯],7,a;exact Nk (q _ _ (l _).1 (l _).2 #[_,_,_,aj,hx,e,g,(),()])
theorem kh:N9 ["_law_pot_here","_law_wide"] ["_law_pot_here","_law_wide"] (ao dO):=⋯
inductive OF:Prop
 |mk (r:k_)(n:Nat)(m:Int)(_:pa=.ref r)(_:p3=.int m)(_:Nw M r n)(_:n<800000)(_:(0<m/\m<=10))(_:∀(p:Vc) M',(4<=p.1/\p.1<=13)->(4<=p.2/\p.2<=13)->Kx [r] M M'->Nw M' r (n+2)->Q (gp 6 24 p) M')
def gn(T:Tx K mg):Cal P w K mg base 2 "_law_new_spot" (OV OF):=by
 refine bK (k:=1) T.a8 kh λf _ _ _ s H _ a=>#[_,(ar (aE (aK (af (aA aV ai (au (aL T).m a (af (dv 0) (af (dv 1) ag)))) (af (aA aV ai (au (aL T).m a (af (dv 0) (af (dv 1) ag)))) ag))))),λ_ _ M Q h=>?_];let[r,n,m,8,8,b,o,p,k]:=h;refine #[7,7,r,m,n,8,8,b,(),(),dN (),λx q c d g=>?_];refine #[bC (dN ⋯),7,7,r,m,n+1,8,8,g,(),(),dN (),λy t i j l=>#[bC (dN ⋯),Ng rfl,?_]];let e:gp 6 24 (x+4,y+4)=.tup [.int (6*x),.int (6*y)]:=by unfold gp;rw[show 6*(x+4,y+4).1-24=6*x by show 6*(x+4)-24=_;omega,show 6*(x+4,y+4).2-24=6*y by show 6*(y+4)-24=_;omega]
 have:=k (x+4,y+4) _ #[by show 4<=x+4;omega,by show x+4<=13;omega] #[by show 4<=y+4;omega,by show y+4<=13;omega] ((Kx.refl.upd (_)).upd (_)) l;rw[e]at this;exact Nk this
theorem jB:N9 ["_law_pot_here","_law_shuts","_law_wide"] ["_law_pot_here","_law_shuts","_law_wide"] (ao dk):=⋯
inductive O6:Prop
 |mk (r l:k_)(n:Nat)(m:Int)(ws:n_)(_:pa=.ref r)(_:p3=.ref l)(_:p_=.int m)(_:r≠l)(_:M l=MW (.lst (ws.map (Nj 6 24))))(_:(∀w∈ws,OB w))(_:ws.length<=40)(_:Nw M r n)(_:n<700000)(_:(0<m/\m<=10))(_:∀(p:Vc) M',OO p->Kx [r] M M'->Nw M' r (n+3)->Q (gp 6 24 p) M')
local macro_rules|`(tactic|walk_at "u")=>`(tactic|try dsimp only[SD.fQ,SD.eU,SD.aR,SD.gX,SD.gv,SD.dM,SD.eA,SD.tBD,SD.gW,SD.EndsD.nxt,SD.EndsD.lp])
def jW(T:Tx K mg):Cal P w K mg base 3 "_law_some_spot" (XN O6):=by
 refine De (k:=2) T.a_ jB λf _ _ _ s H _ b=>#[_,(aq (bz (sF (pX (aO (dn b.units) (dv 1) (eE ag)) (sW (aO (dn b.units) (au (aL T).m b (af (dv 0) (af ai ag))) ai)))) (ar (aE (au (gn T).m b (af (dv 0) (af (dv 2) ag))))) aN) (ar (aE (aD (aD (dv 1) (au (aL T).m b (af (dv 0) (af (aF bD rfl T.hV bG (af (dv 1) ag)) ag)))) (au (aL T).m b (af (dv 0) (af ai ag))))))),λ_ _ _ M Q h=>?_];let[r,l,n,m,ws,8,8,8,c,hl,hU,C,N,X,O,k]:=h;walk_at "u"
 refine #[7,Ng rfl,λz t=>?_];let d:∀{G},(av M z G) l=MW (.lst (ws.map (Nj 6 24))):=λ{G}=>by rw[ak (aw hl t)];exact hl
 let D:∀{G},Nw (av M z G) r n:=λ{G}=>N.new t;let F:∀{G},Kx [r] M (av M z G):=λ{G}=>Kx.refl.new t;exists _,_,.lst d (yd 6 24 ws),.lst aj .nil,wb 6 24 ws,8,7;rw[qM];let a:∀{j:MH}{n1:Nat},Kx [r] M j->Nw j r n1->n1<=n+1->gv (yz (OV OF) (rE (QC 0) (rE (QC 2) CW))) { nx:=λx u=>Ra Q .non u,rt:=Ra Q } [MW (.ref r),MW (.ref l),MW (.int m)] j:=λ{j n1} kx q le=>#[7,7,r,n1,m,8,8,q,(),O,λp u Y Z y B=>Nk (k p u #[(),()] (kx.trans y) (B.le ()))];refine cD (λe=>?_) (λe=>?_)
 .exact a F D ()
 let I:0<ws.length:=by
  cases ws with
  |nil=>simp at e
  |cons w ws=>simp
 refine #[7,r,3,n,8,8,D,(),⋯,dN ⋯,λv o h0 h1 q=>#[7,?_]];let J:=F (G:=.lst []);refine cD (λ_=>a (J.upd (_)) q ()) (λ_=>?_);let i:(av (av M z (.lst [])) r o) l=MW (.lst (ws.map (Nj 6 24))):=by rw[ak c.symm];exact d
 let R:Kx [r] M (av (av M z (.lst [])) r o):=J.upd (_);refine #[7,7,7,_,i,r,_,n+1,8,8,q,(),(by rw[J7];omega),dN (by rw[J7];omega),λv2 o2 a0 L B=>?_];let[w,S,U]:=BD (g:=6) (h:=24) (ws:=ws) a0 (by rw[J7]at L;exact L);exists _,_,(by rw[ak c.symm];exact i),U;refine #[7,r,2,n+2,8,8,B,(),⋯,dN ⋯,λv3 o3 b0 b1 V=>?_];let[p,W,ep]:=Ce (g:=6) (h:=24) (hU w S) b0 b1;exact #[_,ep,Nk (k p _ W ((R.upd (_)).upd (_)) V)]
theorem c9:N9 ["_law_pot_here","_law_wide","_law_x","_law_y","_law_far"] ["_law_pot_here","_law_wide"] (ao eX):=⋯
inductive Ov:Prop
 |mk (r:k_)(n:Nat)(m:Int)(_:pa=.ref r)(_:p3=.int m)(_:Nw M r n)(_:n<700000)(_:(0<m/\m<=10))(_:∀(q:k_)(us:List Vc) M',Kx [r] M M'->r≠q->M q=MX->M' q=MW (.lst (us.map (gp 6 24)))->us.length=5->(∀pa∈us,OO pa)->Nw M' r (n+4)->Q (.ref q) M')
def og(T:Tx K mg):Cal P w K mg base 3 "_law_square" (OV Ov):=by
 refine bK (k:=2) T.ba c9 λf _ _ _ s H _ c=>#[_,(aq (dj (au (gn T).m c (af (dv 0) (af (dv 1) ag))) (c6 rfl (aH (aG 2 c9.nd) (aH (aG 3 c9.nd) bS)))) (aq (aI 4 c9.nd (aA aV ai (aA aP ai (au (aL T).m c (af (dv 0) (af ai ag)))))) (aq (bz (aO (dn c.units) (au (aL T).m c (af (dv 0) (af ai ag))) ai) (ar (aE (eE (af (aK (af (aA br (dv 2) (dv 4)) (af (aA br (dv 3) (dv 4)) ag))) (af (aK (af (aA aP (dv 2) (dv 4)) (af (aA br (dv 3) (dv 4)) ag))) (af (aK (af (aA aP (dv 2) (dv 4)) (af (aA aP (dv 3) (dv 4)) ag))) (af (aK (af (aA br (dv 2) (dv 4)) (af (aA aP (dv 3) (dv 4)) ag))) (af (aK (af (aA br (dv 2) (dv 4)) (af (aA br (dv 3) (dv 4)) ag))) ag)))))))) aN) (ar (aE (eE (af (aK (af (aA br (dv 2) (dv 4)) (af (dv 3) ag))) (af (aK (af (dv 2) (af (aA br (dv 3) (dv 4)) ag))) (af (aK (af (aA aP (dv 2) (dv 4)) (af (dv 3) ag))) (af (aK (af (dv 2) (af (aA aP (dv 3) (dv 4)) ag))) (af (aK (af (aA br (dv 2) (dv 4)) (af (dv 3) ag))) ag))))))))))),λ_ _ M Q h=>?_];let[r,n,m,8,8,C,L,D,k]:=h;refine #[7,7,r,n,m,8,8,C,(),D,λp F N O kx G=>?_];exists 7,8,_,7,_,7,8;refine #[7,r,4,n+2,8,8,G,(),⋯,dN ⋯,λf o h0 h1 I=>#[bC (dN ⋯),?_]];refine #[7,r,2,n+3,8,8,I,(),⋯,dN ⋯,λv J a0 R d=>#[7,?_]];let kx3:Kx [r] M (av (av F r o) r J):=(kx.upd (_)).upd (_);let i:6*p.1-24-6*(1+f)=6*(p.1-(1+f))-24:=()
 let j:6*p.2-24-6*(1+f)=6*(p.2-(1+f))-24:=()
 let l:6*p.1-24+6*(1+f)=6*(p.1+(1+f))-24:=()
 let t:6*p.2-24+6*(1+f)=6*(p.2+(1+f))-24:=()
 let B:∀(x y:Int),(x=p.1-(1+f)\/x=p.1\/x=p.1+(1+f))->(y=p.2-(1+f)\/y=p.2\/y=p.2+(1+f))->OO (x,y):=λx y hx S=>by
  refine #[#[?_,?_],#[?_,?_]]
  .show 0<=x;omega
  .show x<=20;omega
  .show 0<=y;omega
  .show y<=20;omega
 refine cD (λ_=>?_) (λ_=>?_)
 .exists 7,7,trivial,7,7,trivial,Ng rfl;exists 7,7,7,7,trivial,Ng rfl;exists 7,7,7,7,Ng rfl;exists 7,7,trivial,7,7,Ng rfl;refine #[7,7,trivial,7,7,trivial,Ng rfl,Ng rfl,λq a=>?_]
  let g:M q=MX:=by
   cases e:M q with
   |none=>rfl
   |some ob=>
    by_cases z:q=r
    .subst z;rw[aj]at a;cases a
    .rw[kx3 q ob ‹z› e]at a;cases a
  refine Nk (k q [(p.1-(1+f),p.2-(1+f)),(p.1+(1+f),p.2-(1+f)),(p.1+(1+f),p.2+(1+f)),(p.1-(1+f),p.2+(1+f)),(p.1-(1+f),p.2-(1+f))] _ (kx3.new a) (d.ne a) g ?_ rfl ?_ (d.new a))
  .rw[aj];simp only[gp,J9,L7];rw[<-i,<-j,<-l,<-t]
  .intro u b;simp only[JU,List.not_mem_nil,or_false]at b;rcases b with rfl|rfl|rfl|rfl|rfl<;>exact B _ _ (_) (_)
 .exists 7,7,trivial,7,Ng rfl;exists 7,7,7,trivial,Ng rfl;exists 7,7,7,Ng rfl;exists 7,7,7,Ng rfl;refine #[7,7,trivial,7,Ng rfl,Ng rfl,λq a=>?_]
  let g:M q=MX:=by
   cases e:M q with
   |none=>rfl
   |some ob=>
    by_cases z:q=r
    .subst z;rw[aj]at a;cases a
    .rw[kx3 q ob ‹z› e]at a;cases a
  refine Nk (k q [(p.1-(1+f),p.2),(p.1,p.2-(1+f)),(p.1+(1+f),p.2),(p.1,p.2+(1+f)),(p.1-(1+f),p.2)] _ (kx3.new a) (d.ne a) g ?_ rfl ?_ (d.new a))
  .rw[aj];simp only[gp,J9,L7];rw[<-i,<-j,<-l,<-t]
  .intro u b;simp only[JU,List.not_mem_nil,or_false]at b;rcases b with rfl|rfl|rfl|rfl|rfl<;>exact B _ _ (_) (_)
theorem cB:N9 ["_law_shut","_law_spot","_law_a","_law_b","_law_c","_law_d","_law_way"] ["_law_shut","_law_spot"] (ao iC):=⋯
inductive Ph:Prop
 |mk (g h:Int)(w:Wl)(p:Vc)(_:pa=Nj g h w)(_:p3=gp g h p)(_:Gs g h)(_:OB w)(_:OO p)(_:Q (.int (KG (sd w p.1 p.2))) M)
def dP(T:Tx K mg):Cal P w K mg base 1 "_law_side" (OV Ph):=by
 refine bK (k:=0) T.bb cB λf _ _ _ s H _ e=>#[_,(aq (dj (aD (dv 0) ai) (c6 rfl (aH (aG 2 cB.nd) (aH (aG 3 cB.nd) bS)))) (aq (dj (aD (dv 0) ai) (c6 rfl (aH (aG 4 cB.nd) (aH (aG 5 cB.nd) bS)))) (aq (aI 6 cB.nd (aA br (aA aV (aA br (dv 4) (dv 2)) (aA br (aD (dv 1) ai) (dv 3))) (aA aV (aA br (dv 5) (dv 3)) (aA br (aD (dv 1) ai) (dv 2))))) (ar (aE (aA br (eK yD rfl T.hL ot (af (bL (dI e.units) (dv 6) ai) ag)) (eK yD rfl T.hL ot (af (bL (cY e.units) (dv 6) ai) ag)))))))),λ_ _ M Q h=>?_];let[g,h,w,p,8,8,G,W,m,k]:=h;let i:=Cw G W.a;let j:=Cw G W.b;let l:=Cw G W.c;let bd:=Cw G W.d;exists 7,7,7,8,_,7,_,7,8;exists 7,7,7,8,_,7,_,7,8;exists 7,7,trivial,7,7,7,trivial,bC ((l.sub i).mono ⋯);exists 7,7,trivial,7,7,7,trivial,bC ((bd.sub j).mono ⋯),trivial;exists 7,trivial,7,trivial,trivial
 let e1:∀z:Int,(if decide (0<z)=MY then(1:Int)else 0)-(if decide (z<0)=MY then(1:Int)else 0)=KG z:=λz=>by
  rcases LX z 0 with h|h|h
  .rw[Lj h,NA (by simp;omega),NB ‹h›];rfl
  .subst h;rfl
  .rw[Lk h,NB ‹h›,NA (by simp;omega)];rfl
 let e2:=G3 g h w.1 w.2.1 w.2.2.1 w.2.2.2 p.1 p.2;unfold R7 at e2;let e3:=e1 ((g*w.2.2.1-h-(g*w.1-h))*(g*p.2-h-(g*w.2.1-h))-(g*w.2.2.2-h-(g*w.2.1-h))*(g*p.1-h-(g*w.1-h)));let e4:KG ((g*w.2.2.1-h-(g*w.1-h))*(g*p.2-h-(g*w.2.1-h))-(g*w.2.2.2-h-(g*w.2.1-h))*(g*p.1-h-(g*w.1-h)))=KG (sd w p.1 p.2):=by rw[e2,GS G.g0];rfl
 rw[<-e4,<-e3]at k;exact Nk k
theorem vW:N9 ["_law_shut","_law_spot"] ["_law_shut","_law_spot"] (ao ly):=⋯
inductive QG:Prop
 |mk (g h:Int)(w:Wl)(p:Vc)(_:pa=Nj g h w)(_:p3=gp g h p)(_:Gs g h)(_:OB w)(_:OO p)(_:Q (.bl (decide (l1 w<=la p.1 p.2)&&(decide (la p.1 p.2<=l2 w)&&decide (sd w p.1 p.2=0)))) M)
def xF(T:Tx K mg):Cal P w K mg base 2 "_law_on" (OV QG):=by
 refine bK (k:=1) T.bc vW λf _ _ _ s H _ c=>#[_,(ar (aE (fo (bL (n8 c.units) (aD (dv 0) ai) (dv 1)) (fo (bL (n8 c.units) (dv 1) (aD (dv 0) ai)) (fR (bL (dn c.units) (au (dP T).m c (af (dv 0) (af (dv 1) ag))) ai)))))),λ_ _ M Q h=>?_];let[g,h,w,p,8,8,G,W,i,k]:=h;walk_at "u"
 refine n9 (decide (l1 w<=la p.1 p.2)) (decide (la p.1 p.2<=l2 w)&&decide (sd w p.1 p.2=0)) (λK j=>?_) (λ_ K j=>?_) (Nk k)
 .exists 7,7,7,[g*w.1-h,g*w.2.1-h],[g*p.1-h,g*p.2-h],8,8;rw[tQ G.g0,C8 W.b i.2];exact j
 .refine n9 (decide (la p.1 p.2<=l2 w)) (decide (sd w p.1 p.2=0)) (λl a=>?_) (λ_ l a=>?_) j
  .exists 7,7,7,[g*p.1-h,g*p.2-h],[g*w.2.2.1-h,g*w.2.2.2-h],8,8;rw[tQ G.g0,C8 i.2 W.d];exact a
  .exists 7,7,g,h,w,p,8,8,G,W,i;let e:decide (KG (sd w p.1 p.2)=0)=decide (sd w p.1 p.2=0):=by rw[NG];exact Int.sign_eq_zero_iff_zero
   show l (.bl (decide _)) _;rw[e];exact a
theorem cM:N9 ["_law_one","_law_other","_law_shut","_law_ends","_law_spot","_law_both"] ["_law_one","_law_other"] (ao gm):=⋯
inductive PU:Prop
 |mk (g h:Int)(U V:Wl)(_:pa=Nj g h U)(_:p3=Nj g h V)(_:Gs g h)(_:OB U)(_:OB V)(_:∀b:Bool,(b=MY->Oc U V)->Q (.bl b) M)
def pW(T:Tx K mg):Cal P w K mg base 3 "_law_apart" (OV PU):=by
 refine bK (k:=2) T.bf cM λf cdv A outer s H E o=>#[_,(aq (ff Ks rfl (aZ (eE (af (aK (af (dv 0) (af (dv 1) ag))) (af (aK (af (dv 1) (af (dv 0) ag))) ag)))) (c6 rfl (aH (aG 2 cM.nd) (aH (aG 3 cM.nd) bS))) (ar (ff Ks rfl (aZ (dv 3)) (aG 4 cM.nd) (ar (bz (sF (oo (bW (au (xF T).m o (af (dv 2) (af (dv 4) ag)))) (km (aO (lh (md o)) (dv 4) (dv 2) (by with_unfolding_all rfl))))) (ar (aE iJ)) aN))))) (aq (aI 5 cM.nd (bL (cY o.units) (aA aV (au (dP T).m o (af (dv 0) (af (aD (dv 1) ai) ag))) (au (dP T).m o (af (dv 0) (af (aD (dv 1) ai) ag)))) ai)) (ar (aE (fo (bL (zX o.units) (dv 0) (dv 1)) (fR (xa (fo (dv 5) (fR (bL (cY o.units) (aA aV (au (dP T).m o (af (dv 1) (af (aD (dv 0) ai) ag))) (au (dP T).m o (af (dv 1) (af (aD (dv 0) ai) ag)))) ai)))))))))),λ_ _ M Q h=>?_];let[g,h,U,V,8,8,G,r,t,k]:=h;refine fm (λδ u=>SD.Sub M u/\(Wt λC F n=>δ=[MW (Nj g h U),MW (Nj g h V),C,F,n,MX])/\(bJ U (l1 V) (Og U V)/\bJ U (l2 V) (O2 U V))/\(bJ V (l1 U) (Og V U)/\bJ V (l2 U) (O2 V U))) ?_ (λhu=>?_);rotate_left
 .refine #[7,7,Ng rfl,7,7,Ng rfl,Ng rfl,λlp R=>#[[.tup [Nj g h U,Nj g h V],.tup [Nj g h V,Nj g h U]],aj,?_]];exists λi δ u=>(SD.Sub M u/\u lp=MW (.lst [.tup [Nj g h U,Nj g h V],.tup [Nj g h V,Nj g h U]]))/\(Wt λC F n=>δ=[MW (Nj g h U),MW (Nj g h V),C,F,n,MX])/\(0<i->bJ U (l1 V) (Og U V)/\bJ U (l2 V) (O2 U V))/\(1<i->bJ V (l1 U) (Og V U)/\bJ V (l2 U) (O2 V U)),#[#[.new R .refl,aj],#[_,_,7],λz=>absurd z ⋯,λz=>absurd z ⋯],λ_ _ _ _ q=>q.1.2,?_
  .rintro i d δ u hi hd ⟨⟨I,J⟩,⟨C,F,n,rfl⟩,S,Z⟩;let hi:i<2:=hi;let hd:[D.tup [Nj g h U,Nj g h V],.tup [Nj g h V,Nj g h U]][i]?=MW d:=hd
   let L:∃A B,d=.tup [Nj g h A,Nj g h B]/\OB A/\OB B/\((bJ A (l1 B) (Og A B)/\bJ A (l2 B) (O2 A B))->(0<i+1->bJ U (l1 V) (Og U V)/\bJ U (l2 V) (O2 U V))/\(1<i+1->bJ V (l1 U) (Og V U)/\bJ V (l2 U) (O2 V U))):=by
    rcases(():i=0\/i=1)with rfl|rfl
    .cases hd;exact #[U,V,8,r,t,λz=>#[λ_=>z,λy=>absurd y ⋯]]
    .cases hd;exact #[V,U,8,t,r,λz=>#[λ_=>S ⋯,λ_=>z]]
   let[A,B,8,HA,HB,nxt]:=L;exists 7,8,_,7,_,7,8;exists 7,[gp g h (ea B),gp g h (eb B)],8;exists λj δ l=>l=u/\(∃n,δ=[MW (Nj g h U),MW (Nj g h V),MW (Nj g h A),MW (Nj g h B),n,MX])/\(0<j->bJ A (l1 B) (Og A B))/\(1<j->bJ A (l2 B) (O2 A B)),#[8,#[_,rfl],λz=>absurd z ⋯,λz=>absurd z ⋯],λ_ _ _ _ _=>rfl,?_
   .rintro j d δ l hj hd ⟨e,⟨n,rfl⟩,W,q2⟩;subst l;let hj:j<2:=hj;let hd:[gp g h (ea B),gp g h (eb B)][j]?=MW d:=hd
    let pk:∃p:Vc,d=gp g h p/\OO p/\(bJ A (la p.1 p.2) (sd A p.1 p.2)->(0<j+1->bJ A (l1 B) (Og A B))/\(1<j+1->bJ A (l2 B) (O2 A B))):=by
     rcases(():j=0\/j=1)with rfl|rfl
     .cases hd;exact #[7,HB.ea,λz=>#[λ_=>z,λy=>absurd y ⋯]]
     .cases hd;exact #[7,HB.eb,λz=>#[λ_=>W ⋯,λ_=>z]]
    let[p,8,hp,X]:=pk;walk_at "u"
    refine HY (decide (l1 A<=la p.1 p.2)&&(decide (la p.1 p.2<=l2 A)&&decide (sd A p.1 p.2=0))) (!(decide (ea A=p)||decide (eb A=p))) (λK v=>#[7,7,g,h,A,p,8,8,G,HA,hp,7,v]) (λ_ K v=>#[7,7,?_]) ?_
    .exists _,_,Pd.of rfl,.inr (Pd.of rfl),8,8,7;rw[LP,LP,List.any_nil,sg G.g0,sg G.g0,Bool.or_false];exact v
    refine cD (λ_=>#[M,I,k MZ (λz=>absurd z JO)]) (λO=>?_);refine #[8,#[_,rfl],X (Au HA hp.2 ?_)];let e1:decide (ea A=p)=decide (A.1=p.1/\A.2.1=p.2):=by rw[NG];exact #[λz=>by rw[<-z];exact #[8,rfl],λz=>Prod.ext z.1 z.2]
    let e2:decide (eb A=p)=decide (A.2.2.1=p.1/\A.2.2.2=p.2):=by rw[NG];exact #[λz=>by rw[<-z];exact #[8,rfl],λz=>Prod.ext z.1 z.2]
    let O:=eq_false_of_ne_true O;rw[e1,e2]at O;let key:∀a b c d:Bool,((a&&(b&&c))&&d)=MZ->(d&&((a&&b)&&c))=MZ:=⋯
    exact key _ _ _ _ O
   .rintro δ l ⟨e,⟨n,rfl⟩,W,q2⟩;subst l;exact #[#[I,J],#[_,_,7],nxt #[W (⋯:0<2),q2 (⋯:1<2)]]
  .rintro δ u ⟨⟨I,_⟩,⟨C,F,n,rfl⟩,S,Z⟩;exact hu _ _ #[I,#[_,_,7],S (⋯:0<2),Z (⋯:1<2)]
 rintro δ u ⟨I,⟨C,F,n,rfl⟩,⟨e1,e2⟩,⟨e3,e4⟩⟩;exists 7,7,7,g,h,U,ea V,8,8,G,r,t.ea;exists 7,7,7,g,h,U,eb V,8,8,G,r,t.eb,bC (C5 _),trivial;let N:∀b:Bool,b=(!PyData.eqv (.tuple [.tuple [.int (g*U.1-h),.int (g*U.2.1-h)],.tuple [.int (g*U.2.2.1-h),.int (g*U.2.2.2-h)]]) (.tuple [.tuple [.int (g*V.1-h),.int (g*V.2.1-h)],.tuple [.int (g*V.2.2.1-h),.int (g*V.2.2.2-h)]]))->b=MY->¬(l1 U=l1 V/\l2 U=l2 V):=λb e z ⟨z1,z2⟩=>by let[a1,a2]:=rF r.b t.b z1;let[a3,a4]:=rF r.d t.d z2;rw[e,a1,a2,a3,a4]at z;simp[KA,KU]at z
 generalize Y:(!PyData.eqv (.tuple [.tuple [.int (g*U.1-h),.int (g*U.2.1-h)],.tuple [.int (g*U.2.2.1-h),.int (g*U.2.2.2-h)]]) (.tuple [.tuple [.int (g*V.1-h),.int (g*V.2.1-h)],.tuple [.int (g*V.2.2.1-h),.int (g*V.2.2.2-h)]]))=b1 at N;walk_at "u"
 refine n9 b1 (!(decide (KG (Og U V)*KG (O2 U V)<0)&&decide (KG (Og V U)*KG (O2 V U)<0))) (λK v=>#[7,7,_,_,Pd.of rfl,Pd.of rfl,8,8,?_]) (λ_ K v=>?_) #[M,I,k _ λz=>?_]
 .rw[<-Y]at v;exact v
 .exact n9 (decide (KG (Og U V)*KG (O2 U V)<0)) (decide (KG (Og V U)*KG (O2 V U)<0)) (λK' x=>#[7,x]) (λ_ K' x=>#[7,7,7,g,h,V,ea U,8,8,G,t,r.ea,7,7,7,g,h,V,eb U,8,8,G,t,r.eb,bC (C5 _),trivial,x]) #[7,v]
 .rw[Kq]at z;exists N b1 rfl z.1,e1,e2,e3,e4;have:=z.2;by_cases c1:KG (Og U V)*KG (O2 U V)<0
  .by_cases c2:KG (Og V U)*KG (O2 V U)<0
   .rw[ND c1,ND c2]at this;cases this
   .exact .inr ()
  .exact .inl ()
theorem d4:N9 ["_law_pot_here","_law_shuts","_law_spots","_law_one","_law_other","_law_shut"] ["_law_pot_here","_law_shuts","_law_spots"] (ao iy):=⋯
inductive Pk:Prop
 |mk (r l q:k_)(n:Nat)(ws:n_)(us:List Vc)(_:pa=.ref r)(_:p3=.ref l)(_:p_=.ref q)(_:r≠l)(_:q≠l)(_:q≠r)(_:M l=MW (.lst (ws.map (Nj 6 24))))(_:(∀p_∈ws,OB p_))(_:PF ws)(_:ws.length<=30)(_:M q=MW (.lst (us.map (gp 6 24))))(_:(∀pa∈us,OO pa))(_:us.length<=6)(_:Nw M r n)(_:n<600000)(_:∀(ws':n_) M',Kx [r,l] M M'->M' l=MW (.lst (ws'.map (Nj 6 24)))->(∀p_∈ws',OB p_)->PF ws'->ws'.length<=ws.length+5->Nw M' r (n+6)->Q .non M')
def qN(T:Tx K mg):Cal P w K mg base 4 "_law_laid" (XN Pk):=by
 refine De (k:=3) T.bp d4 λf _ _ _ s H _ W=>#[_,(ar (ff Ks rfl (Fj rfl T.i7 (af (dv 2) (af (jm (dv 2) (ou ai) nR) ag))) (c6 rfl (aH (aG 3 d4.nd) (aH (aG 4 d4.nd) bS))) (aq (aI 5 d4.nd (aK (af (aF (oJ rfl W.units) rfl T.h_ qH (af (dv 3) (af (dv 4) ag))) (af (aF (t6 rfl W.units) rfl T.h7 rT (af (dv 3) (af (dv 4) ag))) ag)))) (ar (bz (sF (oo (aO (zX W.units) (dv 3) (dv 4)) (km (aO (lh (md W)) iJ (bU (Na.of (xs:=["_law_some"]) (js:=[5]) rfl) rfl (aZ (dv 1)) (λ_ _ _ _=>cw) (λ_ _ _ _=>(au (pW T).m W (af (dv 1) (af (dv 0) ag))))) (by with_unfolding_all rfl))))) (ar (fx (jV (dv 1) (af (au (aL T).m W (af (dv 0) (af (aA aP (aF bD rfl T.hV bG (af (dv 1) ag)) ai) ag))) (af (dv 5) ag))))) aN))))),λ_ _ _ M Q h=>?_];let[r,l,q,n,ws,us,8,8,8,Y,c0,d0,hl,hU,hF,f0,hq,hB,g0,P0,hn,k]:=h;refine #[7,7,7,_,hq,λZ C=>?_];rw[wA];let a0:∀{a o},M a=MW o->a≠Z:=λh=>aw h C;let lq:r≠Z:=P0.ne C;exists q,Z,us.map (gp 6 24),(us.drop 1).map (gp 6 24),8,(by rw[ak (a0 hq)];exact hq),aj;let i0:min (us.map (gp 6 24)).length ((us.drop 1).map (gp 6 24)).length<=5:=by simp;omega
 exists λi δ B=>ZA λ(c:n_) (o3 o4 o5:oy)=>ZV (δ=[MW (.ref r),MW (.ref l),MW (.ref q),o3,o4,o5]) (Kx [r,l] M B) (B Z=MW (.lst ((us.drop 1).map (gp 6 24)))) (B l=MW (.lst (c.map (Nj 6 24)))) (∀w∈c,OB w) (PF c) (c.length<=ws.length+i) (Nw B r (n+i)),#[ws,_,_,7,Kx.refl.new C,aj,by rw[ak (a0 hl)];exact hl,hU,hF,(),P0.new C],λi δ B _ z=>by let[_,_,_,_,_,kx,h2,_]:=z;exact #[kx q _ (by simp[c0,d0]) hq,h2],?_;rotate_left
 .rintro δ B ⟨c,o3,o4,o5,rfl,kx,h2,F,J,L,G,X⟩;let G:c.length<=ws.length+min (us.map (gp 6 24)).length ((us.drop 1).map (gp 6 24)).length:=G;let X:Nw B r (n+min (us.map (gp 6 24)).length ((us.drop 1).map (gp 6 24)).length):=X;exact Nk (k c B kx F J L () (X.le ()))
 rintro i d δ B hi hd ⟨c,o3,o4,o5,rfl,kx,h2,F,J,L,G,X⟩;let hi:i<min (us.map (gp 6 24)).length ((us.drop 1).map (gp 6 24)).length:=hi;let hd:((us.map (gp 6 24))[i]?).bind (λd=>(((us.drop 1).map (gp 6 24))[i]?).map λe=>D.tup [d,e])=MW d:=hd;let iu:i<us.length:=by simp at hi;omega
 let iv:1+i<us.length:=by simp at hi;omega
 obtain⟨u,v,rfl,bu,bv⟩:∃u v,d=.tup [gp 6 24 u,gp 6 24 v]/\OO u/\OO v:=by refine #[us[i],us[1+i],?_,hB _ (Lc iu),hB _ (Lc iv)];rw[JI,JB iu,JI,List.getElem?_drop,JB iv]at hd;cases hd;rfl
 exists 7,8,_,7,_,7,8;exists 7,7,[6*u.1-24,6*u.2-24],[6*v.1-24,6*v.2-24],8,8;exists 7,7,[6*u.1-24,6*u.2-24],[6*v.1-24,6*v.2-24],8,8,Ng rfl;exists 7,7,_,_,Pd.of rfl,Pd.of rfl,8,8,7;rw[sg ⋯];refine cD (λO=>?_) (λ_=>?_);rotate_left
 .refine jE rfl ?_;exact #[c,_,_,7,kx,h2,F,J,L,(),X.le ()]
 let O:u≠v:=λz=>by rw[z]at O;simp at O
 let[w,hw,e1,e2]:=AE (g:=6) (h:=24) ⋯ bu bv O;rw[e1,e2];exists 7,c.map (Nj 6 24),F;refine #[by simp;omega,λz hz=>?_];let nz:∀{a o},B a=MW o->a≠z:=λh=>aw h hz;exists λj ys M2=>∃bs:List Bool,ys=bs.map D.bl/\bs.length=j/\(∀(t:Nat)(v:Wl),bs[t]?=MW MY->c[t]?=MW v->Oc w v)/\M2=av B z (.lst ys),#[[],8,8,λt v h=>by simp at h,rfl],?_,?_
 .rintro j ys M2 _ ⟨bs,_,_,_,rfl⟩;show(av B z _) l=_;rw[ak (nz F)];exact F
 .rintro j ys d M2 hj hd ⟨bs,rfl,p,hf,rfl⟩;let hd:(c.map (Nj 6 24))[j]?=MW d:=hd;rw[JI]at hd;cases ev:c[j]? with
  |none=>rw[ev]at hd;cases hd
  |some v=>
   rw[ev]at hd
   cases hd
   exists 7
   dsimp only[SD.cT]
   refine mw ?_
   refine #[7,7,6,24,w,v,8,8,#[⋯,⋯,⋯,⋯],hw,J v (JN ev),λb hb=>?_]
   refine #[_,.refl,aj,bs++[b],by simp,by simp[p],λt v' ht R=>?_,by rw[eG]]
   rcases ME t bs.length with y|y|y
   .rw[K7 y]at ht;exact hf t v' ht R
   .subst y;rw[K4 (Jo _)]at ht;let e0:b=MY:=‹ht›
    rw[p,ev]at R;cases R;exact hb e0
   .rw[List.getElem?_eq_none (by simp;omega)]at ht;cases ht
 rintro ys M2 ⟨bs,rfl,p,hf,rfl⟩;let S:bs.length=c.length:=by rw[p];simp
 let c2:∀{a o},B a=MW o->(av B z (.lst (bs.map D.bl))) a=MW o:=λh=>by rw[ak (nz h)];exact h
 exists _,_,.bl MZ,.inl (.lst aj (xj bs)),8,x9 bs,7;rw[E7];let P2:Nw (av B z (.lst (bs.map D.bl))) r (n+i):=X.new hz;let U:Kx [r,l] M (av B z (.lst (bs.map D.bl))):=kx.new hz;let N:=c2 F;let V:=c2 h2;generalize av B z (.lst (bs.map D.bl))=M3 at P2 U N V ⊢;refine cD (λI=>?_) (λ_=>#[c,_,_,7,U,V,N,J,L,(),P2.le ()]);exists 7,l,7,N;refine #[7,7,_,N,r,_,n+i,8,8,P2,(),(by rw[J7];omega),dN (by rw[J7];omega),λv o h0 h1 P3=>?_];rw[J7]at h1;obtain⟨j,rfl⟩:∃j:Nat,v=(j:Int):=#[v.toNat,()];refine #[7,_,_,j,8,(by rw[ak Y.symm];exact N),(by rw[J7];omega),(by rw[J7];omega),?_];let b0:Z≠l:=λe=>by rw[e]at C;rw[hl]at C;cases C
 refine #[bT c j w,_,_,7,(U.upd (_)).upd (_),(by rw[ak b0,ak lq.symm];exact V),?_,λx hx=>?_,D5 L λt v hv=>hf t v ?_ hv,?_,P3.upd Y]
 .rw[aj];exact congrArg (λz=>MW (MO.lst z)) (qC (Nj 6 24) c j w)
 .have:=(jc c j w).mem_iff.mp hx;rcases JU.mp this with z|z
  .rw[z];exact hw
  .exact J x z
 .have ht:t<bs.length:=by rw[S];exact(Jp.mp hv).1
  rw[JB ht];let I:bs.any (λb=>b==MZ)=MZ:=‹I›
  rw[List.any_eq_false]at I;have:=I _ (Lc ht);cases e:bs[t]with
  |true=>rfl
  |false=>rw[e]at this;simp at this
 .rw[(jc c j w).length_eq,JE];omega
theorem aX:N9 ["_law_pot_here","_law_most","_law_shuts","_law_wide","_law_k","_law_spots"] ["_law_pot_here","_law_most"] (ao cX):=⋯
inductive OZ:Prop
 |mk (r:k_)(n:Nat)(m:Int)(_:pa=.ref r)(_:p3=.int m)(_:(0<=m/\m<=12))(_:Nw M r n)(_:n<100000)(_:∀(l:k_)(ws:n_) M',r≠l->M l=MX->Kx [r] M M'->M' l=MW (.lst (ws.map (Nj 6 24)))->(∀w∈ws,OB w)->PF ws->ws.length<=15->Nw M' r (n+400)->Q (.ref l) M')
def jG(T:Tx K mg):Cal P w K mg base 5 "_law_shuts_here" (OV OZ):=by
 refine bK (k:=4) T.bq aX λf _ _ _ s H _ L=>#[_,(aq (aI 2 aX.nd (eE ag)) (aq (aI 3 aX.nd (aD (eE (af ai (af ai (af ai (af ai ag))))) (au (aL T).m L (af (dv 0) (af ai ag))))) (aq (oO Ks rfl rfl T.ia (af (au (aL T).m L (af (dv 0) (af (aA aP (dv 1) ai) ag))) ag) (aG 4 aX.nd) (aq (iR 5 aX.nd (Na.of (xs:=["_law_j"]) (js:=[0,2,3]) rfl) rfl (jx rfl T.ia (af (aA aP ai (au (aL T).m L (af (dv 0) (af ai ag)))) ag)) (λ_ _ _ _=>cw) (λ_ _ _ _=>(au (jW T).m L (af (dv 1) (af (dv 2) (af (dv 3) ag)))))) (aq (bz (aO (dn L.units) (au (aL T).m L (af (dv 0) (af ai ag))) ai) (ar (fx (gf (dv 5) (af (aD (dv 5) ai) ag)))) aN) (aq (bz (aO (dn L.units) (au (aL T).m L (af (dv 0) (af ai ag))) ai) (ar (aI 5 aX.nd (au (og T).m L (af (dv 0) (af (dv 3) ag))))) aN) (ar (bz (aO (cY L.units) (aF bD rfl T.hV bG (af (dv 2) ag)) ai) (ar (fx (au (qN T).m L (af (dv 0) (af (dv 2) (af (dv 5) ag)))))) aN)))))) (ar (aE (dv 2)))))),λ_ _ M Q h=>?_];let[r,n,m,8,8,hm,P0,hn,k]:=h;refine #[Ng rfl,λl hl=>?_];let g:r≠l:=P0.ne hl;refine #[Ng rfl,λz hz=>?_];let q0:r≠z:=(P0.new hl).ne hz;let r0:l≠z:=aw aj hz;refine #[7,r,4,n,8,8,(P0.new hl).new hz,(),⋯,dN ⋯,λv o h0 h1 P1=>?_]
 obtain⟨S,s0,k0⟩:∃S:Int,atI [D.int 3,D.int 4,D.int 6,D.int 10] v=MW (.int S)/\(0<S/\S<=10):=by
  rcases(():v=0\/v=1\/v=2\/v=3)with rfl|rfl|rfl|rfl
  .exact #[3,8,⋯]
  .exact #[4,8,⋯]
  .exact #[6,8,⋯]
  .exact #[10,8,⋯]
 exists _,_,(by rw[ak q0.symm,aj]),s0;refine #[7,7,r,m+1,n+1,8,8,P1,(),(),dN (),λc o2 a0 a1 P2=>?_];let l0:(av (av (av (av M l (.lst [])) z (.lst [.int 3,.int 4,.int 6,.int 10])) r o) r o2) l=MW (.lst (([]:n_).map (Nj 6 24))):=by rw[ak g.symm,ak g.symm,ak r0,aj];rfl
 let m0:Kx [r,l] M (av (av (av (av M l (.lst [])) z (.lst [.int 3,.int 4,.int 6,.int 10])) r o) r o2):=(((Kx.refl.new hl).new hz).upd (_)).upd (_);generalize av (av (av (av M l (.lst [])) z (.lst [.int 3,.int 4,.int 6,.int 10])) r o) r o2=M2 at P2 l0 m0 ⊢;exists c.toNat,?_,(),λi δ t=>Wt λ(ws:n_) (o4 o5:oy)=>XC (δ=[MW (.ref r),MW (.int m),MW (.ref l),MW (.int S),o4,o5]) (Kx [r,l] M t) (t l=MW (.lst (ws.map (Nj 6 24)))) (∀w∈ws,OB w) (PF ws) (ws.length<=15) (Nw t r (n+2+28*i)),#[[],_,7,m0,l0,λw hw=>absurd hw (_),FW,⋯,P2],?_
 .rw[Int.toNat_of_nonneg a0]
 rotate_left
 .rintro δ t ⟨ws,o4,o5,rfl,kx,Z,hU,hF,N,P'⟩;refine #[7,Nk (k l ws t g hl (λa ob O e=>?_) Z hU hF N (P'.le ()))]
  exact kx a ob (by
   intro hm
   rcases JU.mp hm with rfl|hm
   .exact O (_)
   .have:a=l:=‹hm›
    subst this;rw[hl]at e;cases e) e
 rintro i δ t hi ⟨ws,o4,o5,rfl,kx,Z,hU,hF,N,P'⟩;let k1:i<=12:=()
 refine #[7,r,4,n+2+28*i,8,8,P',(),⋯,dN ⋯,λc2 o3 b0 b1 P3=>?_];let c0:(av t r o3) l=MW (.lst (ws.map (Nj 6 24))):=by rw[ak g.symm];exact Z
 let kx3:Kx [r,l] M (av t r o3):=kx.upd (_);generalize av t r o3=M3 at P3 c0 kx3 ⊢;exists 2+c2.toNat,(by rw[show((2+c2.toNat:Nat):Int)=2+c2 by omega]),();refine #[by show 2+c2.toNat<=1000000;omega,λp hp=>?_];let I:r≠p:=P3.ne hp;let U:l≠p:=aw c0 hp;exists λj ys M2=>∃us:List Vc,ys=us.map (gp 6 24)/\us.length=j/\(∀u∈us,OO u)/\Kx [r,l] M M2/\M2 l=MW (.lst (ws.map (Nj 6 24)))/\M2 p=MW (.lst ys)/\Nw M2 r (n+3+28*i+3*j),#[[],8,8,λu hu=>absurd hu (_),kx3.new hp,by rw[ak U];exact c0,aj,(P3.new hp).le ()],λ_ _ _ _ _=>trivial,?_
 .rintro j ys d M2 hj hd ⟨us,rfl,t0,V,e0,W,f0,P4⟩;let hj:j<2+c2.toNat:=hj;exists 7;dsimp only[SD.cT];refine mw ?_;refine #[7,7,7,r,l,n+3+28*i+3*j,S,ws,8,8,8,g,W,hU,(),P4,(),k0,λu M5 bu y X=>?_];let B:=y p _ ‹I.symm› f0;refine #[M5,.refl,B,us++[u],by simp,by simp[t0],λx hx=>?_,?_,?_,aj,(X.upd I).le ()]
  .rcases K5.mp hx with z|z
   .exact V x z
   .have:x=u:=‹z›
    subst this;exact bu
  .intro a ob O e;let a1:=e0 a ob O e
   let g0:a≠p:=λz=>by
    subst z
    have:=kx3 a ob O e
    rw[hp]at this;cases this
   rw[ak g0];exact y a ob (λz=>O (by simp at z;simp[z])) a1
  .rw[ak U];exact y l _ ‹g.symm› W
 rintro ys M4 ⟨us,rfl,F,V,e0,W,f0,P4⟩;let F:us.length=2+c2.toNat:=F;let P4:Nw M4 r (n+3+28*i+3*(2+c2.toNat)):=P4;let P4:=P4.le (():_<=n+18+28*i);(try dsimp only[SD.aR])
 refine fm (λδ t=>∃(us:List Vc),XC (δ=[MW (.ref r),MW (.int m),MW (.ref l),MW (.int S),MW (.int (i:Int)),MW (.ref p)]) (Kx [r,l] M t) (t l=MW (.lst (ws.map (Nj 6 24)))) (t p=MW (.lst (us.map (gp 6 24)))) (us.length<=6) (∀u∈us,OO u) (Nw t r (n+19+28*i))) ?_ (λhu=>?_);rotate_left
 .refine #[7,r,2,n+18+28*i,8,8,P4,(),⋯,dN ⋯,λv1 C d0 d1 X=>#[7,?_]];let R:(av M4 r C) l=MW (.lst (ws.map (Nj 6 24))):=by rw[ak g.symm];exact W
  let B:(av M4 r C) p=MW (.lst (us.map (gp 6 24))):=by rw[ak I.symm];exact f0
  let y:Kx [r,l] M (av M4 r C):=e0.upd (_);generalize av M4 r C=M5 at X R B y ⊢;let X:=X.le (():_<=n+19+28*i);refine cD (λ_=>?_) (λ_=>hu _ _ #[us,8,y,R,B,(),V,X])
  obtain⟨u0,i0,rfl⟩:∃u0 i0,us=u0::i0:=by
   cases us with
   |nil=>rw[Me]at F;omega
   |cons a b=>exact #[a,b,rfl]
  refine #[7,p,7,B,7,_,_,B,(show atI _ ((0:Nat):Int)=_ from c7 (by rfl)),_,7,B,(by rw[J7];omega),?_];refine hu _ _ #[(u0::i0)++[u0],8,?_,(by rw[ak U];exact R),(by rw[aj,Kr];rfl),(by rw[Ki];simp at F ⊢;omega),λx hx=>?_,X.upd I]
  .intro a ob O e
   let g0:a≠p:=λz=>by
    subst z
    have:=kx3 a ob O e
    rw[hp]at this;cases this
   rw[ak g0];exact y a ob O e
  .rcases K5.mp hx with z|z
   .exact V x z
   .have:x=u0:=‹z›
    subst this;exact V x (_)
 rintro δ M5 ⟨us,rfl,y,R,B,F,V,X⟩;refine fm (λδ t=>Ro λ(q:k_) (us:List Vc)=>ZU (δ=[MW (.ref r),MW (.int m),MW (.ref l),MW (.int S),MW (.int (i:Int)),MW (.ref q)]) (r≠q) (l≠q) (Kx [r,l] M t) (t l=MW (.lst (ws.map (Nj 6 24)))) (t q=MW (.lst (us.map (gp 6 24)))) (us.length<=6) (∀u∈us,OO u) (Nw t r (n+24+28*i))) ?_ (λhu=>?_);rotate_left
 .refine #[7,r,4,n+19+28*i,8,8,X,(),⋯,dN ⋯,λv1 C d0 d1 P6=>#[7,?_]];let G:(av M5 r C) l=MW (.lst (ws.map (Nj 6 24))):=by rw[ak g.symm];exact R
  let n0:(av M5 r C) p=MW (.lst (us.map (gp 6 24))):=by rw[ak I.symm];exact B
  let J:Kx [r,l] M (av M5 r C):=y.upd (_);generalize av M5 r C=M6 at P6 G n0 J ⊢;refine cD (λ_=>?_) (λ_=>hu _ _ #[p,us,8,I,U,J,G,n0,F,V,P6.le ()]);refine #[7,7,r,n+20+28*i,S,8,8,P6.le (),(),k0,λq v0 M7 Y j0 w0 x0 l5 y0 P7=>?_];refine hu _ _ #[q,v0,8,j0,aw G w0,λa ob O e=>Y a ob (λz=>O (by simp at z;simp[z])) (J a ob O e),Y l _ ‹g.symm› G,x0,(),y0,P7.le ()]
 rintro δ M6 ⟨q,us,rfl,j0,z0,J,G,c1,F,V,P6⟩;exists 7,_,G,trivial,7;refine cD (λo0=>?_) (λ_=>#[ws,_,7,J,G,hU,hF,N,P6.le ()])
 let o0:ws.length<11:=by
  have:(((ws.map (Nj 6 24)).length:Nat):Int)<11:=‹o0›
  rw[J7]at this;omega
 refine #[7,7,7,r,l,q,n+24+28*i,ws,us,8,8,8,g,z0.symm,j0.symm,G,hU,hF,(),c1,V,F,P6,(),λe1 M7 Y f1 g1 i1 j1 P7=>?_];exact #[e1,_,7,J.trans Y,f1,g1,i1,(),P7.le ()]
theorem d5:N9 ["_law_top","_law_bottom","_law_one","_law_other"] ["_law_top","_law_bottom"] (ao ir):=⋯
inductive Pl:Prop
 |mk (t:_)(b:_)(_:pa=.int t)(_:p3=.int b)(_:0<b)(_:Bd 8000 t)(_:Bd 8000 b)(_:Q (N6 (Rat.divInt t b)) M)
def lK(T:Tx K mg):Cal P w K mg base 1 "_law_frac" (OV Pl):=by
 refine bK (k:=0) T.bt d5 λf _ _ _ s H _ j=>#[_,(aq (aI 2 d5.nd (aF rG rfl T.g_ sC (af (dv 0) ag))) (aq (aI 3 d5.nd (dv 1)) (aq (iO Ks (aO (dI j.units) (dv 3) ai) (ar (jL 2 3 rfl d5.nd (af (dv 3) (af (aA gB (dv 2) (dv 3)) ag))))) (ar (aE (aK (af (aA lW (dv 0) (dv 2)) (af (aA lW (dv 1) (dv 2)) ag)))))))),λ_ _ M Q h=>?_];let[t,b,8,8,l,ht,d,q]:=h;obtain⟨n,rfl⟩:∃n:Nat,b=(n:Int):=#[b.toNat,()];let p:=Ma.uL (t:=t) (show(n:Int)≠0 by omega);let c:Bd 8000 ((Nat.gcd t.natAbs (n:Int).natAbs:Nat):Int):=d.of_le ‹Nat.gcd_le_right t.natAbs (():0<(n:Int).natAbs)›;exists 7,7;exists λm δ i=>i=M/\∃x y:Nat,δ=[MW (.int t),MW (.int n),MW (.int x),MW (.int y)]/\Nat.gcd x y=Nat.gcd t.natAbs (n:Int).natAbs/\m=y,#[7,_,n,8,8,rfl];rintro m δ i ⟨rfl,x,y,rfl,a,o⟩;exists 7,trivial,7;refine cD (λh=>?_) (λh=>?_)
 .have e:0<y:=by
   have:(0:Int)<(y:Int):=‹h›
   omega
  let g:(y:Int)≠0:=()
  exists 7,7,7,g,_,7;refine #[x%y,by rw[o];exact Nat.mod_lt _ e,8,y,x%y,?_,?_,rfl]
  .rw[<-Ma.tM];rfl
  .rw[<-a,Nat.gcd_comm x y,Nat.gcd_rec y x,Nat.gcd_comm]
 .have g:y=0:=by
   have:¬(0:Int)<(y:Int):=‹h›
   omega
  subst g;rw[Nat.gcd_zero_right]at a;subst a;let[e1,e2]:=Ma.uo (t:=t) l;exists 7,7,#[(),c],7,7,#[(),c],Ng rfl;dsimp only;rw[e1,e2];exact Nk q
theorem cE:N9 ["_law_frame_here","_law_spot","_law_p","_law_q","_law_s","_law_t"] ["_law_frame_here","_law_spot"] (ao gu):=⋯
inductive PQ:Prop
 |mk (t b x y p q:Int)(_:pa=XM t b x y)(_:p3=.tup [.int p,.int q])(_:PB t b x y)(_:(-(10^6)<=p/\p<=10^6))(_:(-(10^6)<=q/\q<=10^6))(_:Q (N5 (NY t b x 1 p) (NY t b y 1 q)) M)
def jT(T:Tx K mg):Cal P w K mg base 2 "_law_given" (OV PQ):=by
 refine bK (k:=1) T.bI cE λf _ _ _ s H _ c=>#[_,(aq (dj (dv 0) (c6 rfl (aH (aG 2 cE.nd) (aH (aG 3 cE.nd) (aH (aG 4 cE.nd) (aH (aG 5 cE.nd) bS)))))) (ar (aE (aK (af (au (lK T).m c (af (aA aP (aA aV (aD (dv 1) ai) (dv 2)) (dv 4)) (af (dv 3) ag))) (af (au (lK T).m c (af (aA aP (aA aV (aD (dv 1) ai) (dv 2)) (dv 5)) (af (dv 3) ag))) ag)))))),λ_ _ M Q h=>?_];let[t,b,x,y,p,q,8,8,S,d,e,k]:=h;let i:Bd 100 t:=by have:=S.t0;have:=S.t1;show t.natAbs<2^100;omega
 let a:∀{z:Int},(-(10^6)<=z/\z<=10^6)->Bd 64 z:=λ{z} h=>by show z.natAbs<2^64;omega
 let g:Bd 8000 b:=by have:=S.b0;have:=S.b1;exact Bd.mono (m:=100) (by show b.natAbs<2^100;omega) ⋯
 let big:∀{z w:Int},(-(10^6)<=z/\z<=10^6)->(-(10^30)<=w/\w<=10^30)->Bd 8000 (z*t+w):=λ{z w} h1 h2=>by
  let e1:Bd 164 (z*t):=(a h1).mul i
  let e2:Bd 164 w:=by show w.natAbs<2^164;omega
  exact(e1.add e2).mono ⋯
 let j:b≠0:=by have:=S.b0;omega
 exists 7,7,8,_,7,_,7,_,7,_,7,8;exists 7,7,7,bC (a d),7,7,p*t+x,b,8,8,S.b0,big d #[S.x0,S.x1],g;exists 7,7,7,bC (a e),7,7,q*t+y,b,8,8,S.b0,big e #[S.y0,S.y1],g,Ng rfl;rw[Ma.Al,Ma.Al];exact Nk k
theorem qj:N9 ["_law_frame_here","_law_shuts"] ["_law_frame_here","_law_shuts"] (ao iz):=⋯
inductive Pj:Prop
 |mk (t b x y:Int)(l:k_)(ws:List (Int×Int×Int×Int))(_:pa=XM t b x y)(_:p3=.ref l)(_:M l=MW (.lst (ws.map uw)))(_:PB t b x y)(_:ws.length<=1000)(_:(∀w∈ws,ZL (10^6) w))(_:Q (.tup (ws.map (Nm t b x y))) M)
def sN(T:Tx K mg):Cal P w K mg base 3 "_law_plot" (OV Pj):=by
 refine bK (k:=2) T.b9 qj λf _ _ _ s H _ j=>#[_,(ar (aE (eK qt rfl T.i3 qz (af (lZ (Na.of (xs:=["_law_first","_law_second"]) (js:=[0]) rfl) rfl (aZ (dv 1)) (λ_ _ _ _=>cw) (λ_ _ _ _=>(aK (af (au (jT T).m j (af (dv 2) (af (dv 0) ag))) (af (au (jT T).m j (af (dv 2) (af (dv 1) ag))) ag))))) ag)))),λ_ _ M Q h=>?_];let[t,b,x,y,l,ws,8,8,d,S,hl,n,k]:=h;refine #[7,ws.map uw,d,comp_map (λi=>((ws.map (Nm t b x y))[i]?).getD .non) (by simp;omega) (λp B g=>?_) ?_ (λp g=>#[_,aj,?_])]
 .show(av M p _) l=_;rw[ak (aw d g)];exact d
 .intro i e o hi he _;let he:(ws.map uw)[i]?=MW e:=he;rw[JI]at he;cases c:ws[i]? with
  |none=>rw[c]at he;cases he
  |some w=>
   rw[c]at he
   cases he
   let[q,r,u,v]:=n w (JN c)
   refine #[_,#[7,8,rfl],λK z=>?_]
   let a:=z o .refl
   rw[getD_map c]at a
   exists 7,7,t,b,x,y,w.1,w.2.1,8,8,S,q,r
   exact #[7,7,t,b,x,y,w.2.2.1,w.2.2.2,8,8,S,u,v,Ng rfl,a]
 .exists _,.new g .refl
  let e:(JM (ws.map uw).length).map (λi=>((ws.map (Nm t b x y))[i]?).getD .non)=ws.map (Nm t b x y):=by
   have:=SD.range_getD (ws.map (Nm t b x y))
   rw[J7]at this ⊢
   exact this
  dsimp only;rw[e];exact k
theorem dA:N9 ["_law_pot_here","_law_many","_law_kind","_law_far"] ["_law_pot_here","_law_many"] (ao gC):=⋯
inductive PR:Prop
 |mk (r:k_)(n:Nat)(m:Int)(_:pa=.ref r)(_:p3=.int m)(_:Nw M r n)(_:n<700000)(_:∀(t b x y:Int) M',PB t b x y->t<=10^20->b<=10^25->(-(10^27)<=x/\x<=10^27)->(-(10^27)<=y/\y<=10^27)->Kx [r] M M'->Nw M' r (n+5)->Q (XM t b x y) M')
def p8(T:Tx K mg):Cal P w K mg base 2 "_law_frame" (OV PR):=by
 refine bK (k:=1) T.b_ dA λf _ _ _ s H _ U=>#[_,(aq (aI 2 dA.nd (au (aL T).m U (af (dv 0) (af ai ag)))) (aq (bz (aO (cY U.units) (dv 2) ai) (ar (aE (aK (af ai (af ai (af ai (af ai ag))))))) aN) (aq (bz (sF (oo (aO (dn U.units) (dv 2) ai) (km (aO (cY U.units) (dv 1) ai)))) (aq (iR 3 dA.nd (Na.of (xs:=["_law_k"]) (js:=[0]) rfl) rfl (jx rfl T.ia (af ai ag)) (λ_ _ _ _=>cw) (λ_ _ _ _=>(aA br (au (aL T).m U (af (dv 1) (af (aA aP (aA aV ai (aA fV ai ai)) ai) ag))) (aA fV ai ai)))) (ar (aE (aK (af (aA aP ai (au (aL T).m U (af (dv 0) (af (aA fV ai ai) ag)))) (af (aA aP ai (au (aL T).m U (af (dv 0) (af (aA fV ai ai) ag)))) (af (aD (dv 3) ai) (af (aD (dv 3) ai) ag)))))))) aN) (aq (iR 3 dA.nd (Na.of (xs:=["_law_k"]) (js:=[0]) rfl) rfl (jx rfl T.ia (af ai ag)) (λ_ _ _ _=>cw) (λ_ _ _ _=>(aA br (au (aL T).m U (af (dv 1) (af (aA aP (aA aV ai (aA fV ai ai)) ai) ag))) (aA fV ai ai)))) (ar (aE (aK (af (aA aP ai (au (aL T).m U (af (dv 0) (af (aA fV ai ai) ag)))) (af (aA aP ai (au (aL T).m U (af (dv 0) (af (aA fV ai ai) ag)))) (af (aD (dv 3) ai) (af (aD (dv 3) ai) ag))))))))))),λ_ _ M Q h=>?_];let[r,n,m,8,8,P0,hn,k]:=h;refine #[7,r,16,n,8,8,P0,(),⋯,dN ⋯,λkd o h0 h1 V=>?_];let q:Kx [r] M (av M r o):=Kx.refl.upd (_);generalize av M r o=M1 at V q ⊢;exists 7,trivial,7;refine cD (λ_=>?_) (λ_=>?_)
 .exact #[Ng rfl,Nk (k 1 1 0 0 M1 #[⋯,⋯,⋯,⋯,⋯,⋯,⋯,⋯] ⋯ ⋯ ⋯ ⋯ q (V.le ()))]
 walk_at "u"
 exists 7,7;refine cD (λ_=>?_) (λ_=>?_)
 .exists 7,trivial,7;refine cD (λ_=>?_) (λ_=>?_)
  .exists 2,8,⋯;refine #[by show 2<=1000000;omega,λp G=>?_];let b:r≠p:=V.ne G;exists λj I c=>∃us:ml,I=us.map D.int/\us.length=j/\(∀u∈us,-(10^27)<=u/\u<=10^27)/\Kx [r] M c/\c p=MW (.lst I)/\Nw c r (n+1+j),#[[],8,8,λu Z=>absurd Z (_),q.new G,aj,V.new G],λ_ _ _ _ _=>trivial,?_
   .rintro j I d c W hd ⟨us,rfl,N,J,e,g,t⟩;let W:j<2:=W;exists 7;dsimp only[SD.cT];refine mw ?_;refine #[7,#[⋯,⋯,⋯],bC (dN ⋯),r,2*10^27+1,n+1+j,8,8,t,(),⋯,Bd.mono (m:=100) (by show(2*10^27+1:Int).natAbs<2^100;decide) ⋯,λv l a0 a1 L=>?_];let B:(av c r l) p=MW (.lst (us.map D.int)):=by rw[ak b.symm];exact g
    let C:Kx [r] M (av c r l):=e.upd (_);generalize av c r l=M5 at B C L ⊢;refine #[#[⋯,⋯,⋯],trivial,M5,.refl,B,us++[v-10^27],by simp,by simp[N],λx hx=>?_,?_,aj,L.upd b]
    .rcases K5.mp hx with z|z
     .exact J x z
     .have:x=v-10^27:=‹z›
      subst this;omega
    .intro a ob X ea
     let O:a≠p:=λz=>by
      subst z
      have:=q a ob X ea
      rw[G]at this;cases this
     rw[ak O];exact C a ob X ea
   rintro I R ⟨us,rfl,i,J,e,g,t⟩;let i:us.length=2:=i;let t:Nw R r (n+3):=t
   obtain⟨x,y,rfl⟩:∃x y,us=[x,y]:=by
    match us,i with
    |[x,y],_=>exact #[x,y,rfl]
   let hx:=J x (_);let hy:=J y (_);refine #[7,#[⋯,⋯,⋯],r,10^20,n+3,8,8,t,(),⋯,Bd.mono (m:=100) (by show(10^20:Int).natAbs<2^100;decide) ⋯,λv l a0 a1 L=>?_];refine #[7,#[⋯,⋯,⋯],r,10^25,n+4,8,8,L,(),⋯,Bd.mono (m:=100) (by show(10^25:Int).natAbs<2^100;decide) ⋯,λv2 Y b0 b1 P6=>?_];let F:(av (av R r l) r Y) p=MW (.lst ([x,y].map D.int)):=by rw[ak b.symm,ak b.symm];exact g
   let S:Kx [r] M (av (av R r l) r Y):=(e.upd (_)).upd (_);exists 7,_,_,F,8,7,_,_,F,8,Ng rfl;exact Nk (k (1+v) (1+v2) x y _ #[(),(),(),(),(),(),(),()] () () () () S P6)
  .exists 2,8,⋯;refine #[by show 2<=1000000;omega,λp G=>?_];let b:r≠p:=V.ne G;exists λj I c=>∃us:ml,I=us.map D.int/\us.length=j/\(∀u∈us,-(10^6)<=u/\u<=10^6)/\Kx [r] M c/\c p=MW (.lst I)/\Nw c r (n+1+j),#[[],8,8,λu Z=>absurd Z (_),q.new G,aj,V.new G],λ_ _ _ _ _=>trivial,?_
   .rintro j I d c W hd ⟨us,rfl,N,J,e,g,t⟩;let W:j<2:=W;exists 7;dsimp only[SD.cT];refine mw ?_;refine #[7,#[⋯,⋯,⋯],bC (dN ⋯),r,2*10^6+1,n+1+j,8,8,t,(),⋯,Bd.mono (m:=100) (by show(2*10^6+1:Int).natAbs<2^100;decide) ⋯,λv l a0 a1 L=>?_];let B:(av c r l) p=MW (.lst (us.map D.int)):=by rw[ak b.symm];exact g
    let C:Kx [r] M (av c r l):=e.upd (_);generalize av c r l=M5 at B C L ⊢;refine #[#[⋯,⋯,⋯],trivial,M5,.refl,B,us++[v-10^6],by simp,by simp[N],λx hx=>?_,?_,aj,L.upd b]
    .rcases K5.mp hx with z|z
     .exact J x z
     .have:x=v-10^6:=‹z›
      subst this;omega
    .intro a ob X ea
     let O:a≠p:=λz=>by
      subst z
      have:=q a ob X ea
      rw[G]at this;cases this
     rw[ak O];exact C a ob X ea
   rintro I R ⟨us,rfl,i,J,e,g,t⟩;let i:us.length=2:=i;let t:Nw R r (n+3):=t
   obtain⟨x,y,rfl⟩:∃x y,us=[x,y]:=by
    match us,i with
    |[x,y],_=>exact #[x,y,rfl]
   let hx:=J x (_);let hy:=J y (_);refine #[7,#[⋯,⋯,⋯],r,10^4,n+3,8,8,t,(),⋯,Bd.mono (m:=100) (by show(10^4:Int).natAbs<2^100;decide) ⋯,λv l a0 a1 L=>?_];refine #[7,#[⋯,⋯,⋯],r,10^4,n+4,8,8,L,(),⋯,Bd.mono (m:=100) (by show(10^4:Int).natAbs<2^100;decide) ⋯,λv2 Y b0 b1 P6=>?_];let F:(av (av R r l) r Y) p=MW (.lst ([x,y].map D.int)):=by rw[ak b.symm,ak b.symm];exact g
   let S:Kx [r] M (av (av R r l) r Y):=(e.upd (_)).upd (_);exists 7,_,_,F,8,7,_,_,F,8,Ng rfl;exact Nk (k (1+v) (1+v2) x y _ #[(),(),(),(),(),(),(),()] () () () () S P6)
 .exists 2,8,⋯;refine #[by show 2<=1000000;omega,λp G=>?_];let b:r≠p:=V.ne G;exists λj I c=>∃us:ml,I=us.map D.int/\us.length=j/\(∀u∈us,-(10^6)<=u/\u<=10^6)/\Kx [r] M c/\c p=MW (.lst I)/\Nw c r (n+1+j),#[[],8,8,λu Z=>absurd Z (_),q.new G,aj,V.new G],λ_ _ _ _ _=>trivial,?_
  .rintro j I d c W hd ⟨us,rfl,N,J,e,g,t⟩;let W:j<2:=W;exists 7;dsimp only[SD.cT];refine mw ?_;refine #[7,#[⋯,⋯,⋯],bC (dN ⋯),r,2*10^6+1,n+1+j,8,8,t,(),⋯,Bd.mono (m:=100) (by show(2*10^6+1:Int).natAbs<2^100;decide) ⋯,λv l a0 a1 L=>?_];let B:(av c r l) p=MW (.lst (us.map D.int)):=by rw[ak b.symm];exact g
   let C:Kx [r] M (av c r l):=e.upd (_);generalize av c r l=M5 at B C L ⊢;refine #[#[⋯,⋯,⋯],trivial,M5,.refl,B,us++[v-10^6],by simp,by simp[N],λx hx=>?_,?_,aj,L.upd b]
   .rcases K5.mp hx with z|z
    .exact J x z
    .have:x=v-10^6:=‹z›
     subst this;omega
   .intro a ob X ea
    let O:a≠p:=λz=>by
     subst z
     have:=q a ob X ea
     rw[G]at this;cases this
    rw[ak O];exact C a ob X ea
  rintro I R ⟨us,rfl,i,J,e,g,t⟩;let i:us.length=2:=i;let t:Nw R r (n+3):=t
  obtain⟨x,y,rfl⟩:∃x y,us=[x,y]:=by
   match us,i with
   |[x,y],_=>exact #[x,y,rfl]
  let hx:=J x (_);let hy:=J y (_);refine #[7,#[⋯,⋯,⋯],r,10^4,n+3,8,8,t,(),⋯,Bd.mono (m:=100) (by show(10^4:Int).natAbs<2^100;decide) ⋯,λv l a0 a1 L=>?_];refine #[7,#[⋯,⋯,⋯],r,10^4,n+4,8,8,L,(),⋯,Bd.mono (m:=100) (by show(10^4:Int).natAbs<2^100;decide) ⋯,λv2 Y b0 b1 P6=>?_];let F:(av (av R r l) r Y) p=MW (.lst ([x,y].map D.int)):=by rw[ak b.symm,ak b.symm];exact g
  let S:Kx [r] M (av (av R r l) r Y):=(e.upd (_)).upd (_);exists 7,_,_,F,8,7,_,_,F,8,Ng rfl;exact Nk (k (1+v) (1+v2) x y _ #[(),(),(),(),(),(),(),()] () () () () S P6)
theorem dq:N9 ["one","other"] ["one","other"] (ao cy):=⋯
inductive OP:Prop
 |mk (a b:Nat)(_:pa=.int (a:Int))(_:p3=.int (b:Int))(_:Q (.int ((Nat.gcd a b:Nat):Int)) M)
def iq(T:Tx K mg):Cal P w K mg base 1 "greatest_divisor" (OV OP):=by
 refine bK (k:=0) T.b' dq λf _ _ _ s H _ i=>#[_,(aq (iO Ks (aO (zX i.units) (dv 1) ai) (ar (jL 0 1 rfl dq.nd (af (dv 1) (af (aA gB (dv 0) (dv 1)) ag))))) (ar (aE (dv 0)))),λ_ _ M Q h=>?_];let[a,b,8,8,q]:=h;exists λm δ g=>g=M/\∃x y:Nat,δ=[MW (.int x),MW (.int y)]/\Nat.gcd x y=Nat.gcd a b/\m=y,#[7,_,7,8,rfl];rintro m δ g ⟨rfl,x,y,rfl,c,j⟩;exists 7,7;refine cD (λh=>?_) (λh=>?_)
 .have d:(y:Int)≠0:=‹h›
  exists 7,7,7,d,_,7;let e:0<y:=()
  refine #[x%y,by rw[j];exact Nat.mod_lt _ e,8,y,x%y,?_,?_,rfl]
  .rw[<-Ma.tM];rfl
  .rw[<-c,Nat.gcd_comm x y,Nat.gcd_rec y x,Nat.gcd_comm]
 .have d:y=0:=‹h›
  subst d;rw[Nat.gcd_zero_right]at c;subst c;exact #[7,Nk q]
theorem fN:N9 ["top","bottom","divisor"] ["top","bottom"] (ao h8):=⋯
inductive Pp:Prop
 |mk (t:_)(b:_)(_:pa=.int t)(_:p3=.int b)(_:b≠0)(_:Bd 8000 t)(_:Bd 8000 b)(_:Q (N6 (Rat.divInt t b)) M)
def lX(T:Tx K mg):Cal P w K mg base 2 "fraction" (OV Pp):=by
 refine bK (k:=1) T.cc fN λf _ _ _ s H _ e=>#[_,(aq (bz (aO (dn e.units) (dv 1) ai) (ar qh) aN) (aq (aI 2 fN.nd (au (iq T).m e (af (aF rG rfl T.g_ sC (af (dv 0) ag)) (af (aF rG rfl T.g_ sC (af (dv 1) ag)) ag)))) (aq (bz (aO (cY e.units) (dv 1) ai) (ar (aI 2 fN.nd (tX kB (dv 2)))) aN) (ar (aE (aK (af (aA lW (dv 0) (dv 2)) (af (aA lW (dv 1) (dv 2)) ag)))))))),λ_ _ M Q h=>?_];let[t,b,8,8,i,ht,g,q]:=h;let j:=Ma.uL (t:=t) i;let a:Bd 8000 ((Nat.gcd t.natAbs b.natAbs:Nat):Int):=g.of_le ‹Nat.gcd_le_right t.natAbs (():0<b.natAbs)›;refine #[7,7,jE (NC i) ?_];exists 7,7,t.natAbs,b.natAbs,8,8;exists 7,trivial,7;refine cD (λh=>?_) (λh=>?_)
 .have c:b<0:=‹h›
  let[e1,e2]:=Ma.CF (t:=t) c;exists 7,7,7,#[(),a.neg],7,7,#[(),a.neg],Ng rfl;dsimp only;rw[e1,e2];exact Nk q
 .have d:0<b:=by
   have:¬b<0:=‹h›
   omega
  let[e1,e2]:=Ma.uo (t:=t) d;exists 7,7,#[(),a],7,7,#[(),a],Ng rfl;dsimp only;rw[e1,e2];exact Nk q
theorem fO:N9 ["spot","x","y"] ["spot"] (ao ie):=⋯
inductive Pe:Prop
 |mk (a b:Rat)(_:pa=N5 a b)(_:NZ 8000 a)(_:NZ 8000 b)(_:Q (N5 a b) M)
def sR(T:Tx K mg):Cal P w K mg base 3 "own_spot" (Ru Pe):=by refine pZ (k:=2) T.c_ fO λf _ _ _ s H _ c=>#[_,(aq (dj (dv 0) (c6 rfl (aH (aG 1 fO.nd) (aH (aG 2 fO.nd) bS)))) (ar (aE (aK (af (au (lX T).m c (af (aD (dv 1) ai) (af (aD (dv 1) ai) ag))) (af (au (lX T).m c (af (aD (dv 2) ai) (af (aD (dv 2) ai) ag))) ag)))))),λ_ M Q h=>?_];let[a,b,8,h1,h2,k]:=h;exists 7,7,8,_,7,_,7,8;exists 7,7,7,7,a.num,(a.den:Int),8,8,Ma.jI a,h1.1,h1.2;exists 7,7,7,7,b.num,(b.den:Int),8,8,Ma.jI b,h2.1,h2.2,Ng rfl;rw[Rat.num_divInt_den,Rat.num_divInt_den];exact Nk k
theorem sY:N9 ["one","other"] ["one","other"] (ao ja):=⋯
inductive QB:Prop
 |mk (q r:Rat)(_:pa=N6 q)(_:p3=N6 r)(_:NZ 100000 q)(_:NZ 100000 r)(_:Q (.bl (decide (q<r))) M)
def nk(T:Tx K mg):Cal P w K mg base 1 "is_less" (OV QB):=by refine bK (k:=0) T.dt sY λf _ _ _ s H _ a=>#[_,(ar (aE (bL (cY a.units) (aA aV (aD (dv 0) ai) (aD (dv 1) ai)) (aA aV (aD (dv 1) ai) (aD (dv 0) ai))))),λ_ _ M Q h=>?_];let[q,r,8,8,h1,h2,k]:=h;exists 7,7,7,7,iG (h1.1.mono ⋯) (h2.2.mono ⋯);exists 7,7,7,7,iG (h2.1.mono ⋯) (h1.2.mono ⋯),trivial;dsimp only;rw[Ma.HW];exact Nk k
theorem qB:N9 ["one","other"] ["one","other"] (ao ib):=⋯
inductive Pn:Prop
 |mk (a b c d:Rat)(_:pa=N5 a b)(_:p3=N5 c d)(_:NZ 100000 a)(_:NZ 100000 b)(_:NZ 100000 c)(_:NZ 100000 d)(_:Q (.bl (decide (a<c\/a=c/\b<d))) M)
def fw(T:Tx K mg):Cal P w K mg base 2 "is_ahead" (OV Pn):=by
 refine bK (k:=1) T.dy qB λf _ _ _ s H _ g=>#[_,(aq (bz (aO (dn g.units) (aD (dv 0) ai) (aD (dv 1) ai)) (ar (aE (au (nk T).m g (af (aD (dv 0) ai) (af (aD (dv 1) ai) ag))))) aN) (ar (aE (au (nk T).m g (af (aD (dv 0) ai) (af (aD (dv 1) ai) ag)))))),λ_ _ M Q h=>?_];let[a,b,c,d,8,8,h1,h2,i,j,k]:=h;exists 7,7,7,7,_,_,Pd.of rfl,Pd.of rfl,8,8;rw[Ma.sf];exists 7;refine cD (λh=>?_) (λh=>?_)
 .have e:a=c:=‹h›
  subst e;exists 7,7,7,7,b,d,8,8,h2,j
  let z:(a<a\/a=a/\b<d)↔b<d:=by
   have:=Rat.lt_irrefl (a:=a)
   simp[this]
  rw[decide_eq_decide.mpr z]at k;exact Nk k
 .have e:¬a=c:=‹h›
  exists 7,7,7,7,a,c,8,8,h1,i;let z:(a<c\/a=c/\b<d)↔a<c:=by simp[e]
  rw[decide_eq_decide.mpr z]at k;exact Nk k
theorem bY:N9 ["row","spot","low","high","middle"] ["row","spot"] (ao eB):=⋯
inductive Oi:Prop
 |mk (l:k_)(t b X Y:Int)(ps:List Vc)(u:Vc)(_:pa=.ref l)(_:p3=Ob t b X Y u)(_:M l=MW (.lst (ps.map (Ob t b X Y))))(_:PB t b X Y)(_:ps.length<=200)(_:(∀p∈ps,OO p))(_:OO u)(_:ps.Pairwise ON)(_:∀j:Nat,j<=ps.length->(∀i,i<j->ON (p0 ps i) u)->(∀i,j<=i->i<ps.length->¬ON (p0 ps i) u)->Q (.int (j:Int)) M)
def mj(T:Tx K mg):Cal P w K mg base 3 "place_among" (OV Oi):=by
 refine bK (k:=2) T.dV bY λf _ _ _ s H _ o=>#[_,(aq (jL 2 3 rfl bY.nd (af ai (af (aF bD rfl T.hV bG (af (dv 0) ag)) ag))) (aq (iO Ks (aO (cY o.units) (dv 2) (dv 3)) (aq (aI 4 bY.nd (aA lW (aA aP (dv 2) (dv 3)) ai)) (ar (bz (bW (au (fw T).m o (af (aD (dv 0) (dv 4)) (af (dv 1) ag)))) (ar (aI 2 bY.nd (aA aP (dv 4) ai))) (ar (aI 3 bY.nd (dv 4))))))) (ar (aE (dv 2))))),λ_ _ M Q h=>?_];let[l,t,b,X,Y,ps,u,8,8,hl,S,F,v,j,up,k]:=h;let x:(ps.map (Ob t b X Y)).length=ps.length:=by simp
 exists 7,_,hl,_,7;refine #[λm δ p=>p=M/\Wt λ(lo hi:Nat) (r:oy)=>ZW (δ=[MW (.ref l),MW (Ob t b X Y u),MW (.int (lo:Int)),MW (.int (hi:Int)),r]) (lo<=hi) (hi<=ps.length) (∀i,i<lo->ON (p0 ps i) u) (∀i,hi<=i->i<ps.length->¬ON (p0 ps i) u) (m=hi-lo),#[7,0,ps.length,_,by rw[x];rfl,Kh _,Jo _,λi hi=>(),λi h1 h2=>(),rfl],?_];rintro m δ p ⟨rfl,lo,hi,r,rfl,h1,h2,a,c,G⟩;exists 7,7,trivial,7;refine cD (λh=>?_) (λh=>?_)
 .have y:lo<hi:=by
   have:(lo:Int)<(hi:Int):=‹h›
   omega
  let g:Int.fdiv ((lo:Int)+(hi:Int)) 2=(((lo+hi)/2:Nat):Int):=by rw[Int.fdiv_eq_ediv_of_nonneg _ ⋯];omega
  let d:(lo+hi)/2<ps.length:=()
  exists 7,7,#[⋯,dN ⋯];dsimp only;rw[g];generalize I:(lo+hi)/2=q at d ⊢;let B:ps[q]?=MW (p0 ps q):=by unfold p0;simp[d]
  let n:=v _ (ig d);exists 7,7,_,_,hl,c7 (by rw[JI,B];rfl),7,_,_,_,7,8,(n.bx S).mono ⋯,(n.by' S).mono ⋯,(j.bx S).mono ⋯,(j.by' S).mono ⋯,7;let ah:=Ec (X:=X) (Y:=Y) S.t0 S.b0 n j;refine cD (λh=>?_) (λh=>?_)
  .have z:ON (p0 ps q) u:=ah.mp (by simpa[N0]using h);refine #[7,hi-(q+1),(),8,q+1,hi,7,(),h2,λi C=>?_,c,rfl];by_cases e:i=q
   .subst e;exact z
   .have:=Kd.mp up i q () d ();let e1:p0 ps i=ps[i]:=by unfold p0;simp[show i<ps.length by omega]
    let e2:p0 ps q=ps[q]:=by unfold p0;simp[d]
    rw[e2]at z;rw[e1];unfold ON at z this ⊢;omega
  .have z:¬ON (p0 ps q) u:=λw=>by
    have:=ah.mpr w
    simp[N0]at h this
    exact absurd this ‹h›
   refine #[7,q-lo,(),8,lo,q,7,(),(),a,λi J L=>?_,rfl];by_cases e:i=q
   .subst e;exact z
   .have:=Kd.mp up q i d () ();let e1:p0 ps i=ps[i]:=by unfold p0;simp[show i<ps.length by omega]
    let e2:p0 ps q=ps[q]:=by unfold p0;simp[d]
    rw[e2]at z;rw[e1];unfold ON at z this ⊢;omega
 .have:lo=hi:=by
   have:¬(lo:Int)<(hi:Int):=‹h›
   omega
  subst this;(repeat (first|refine #[7,?_]|refine #[trivial,?_]|refine #[_,7,?_]|refine #[8,?_]|refine #[Ng rfl,?_]))
  exact Nk (k lo h2 a c)
theorem dR:N9 ["spots","row","spot"] ["spots"] (ao eC):=⋯
inductive Ol:Prop
 |mk (l:k_)(t b X Y:Int)(us:List Vc)(_:pa=.ref l)(_:M l=MW (.lst (us.map (Ob t b X Y))))(_:PB t b X Y)(_:us.length<=200)(_:(∀p∈us,OO p))(_:us.Nodup)(_:∀(M':MH)(z:k_)(ps:List Vc),SD.Sub M M'->M z=MX->M' z=MW (.lst (ps.map (Ob t b X Y)))->ps.Perm us->ps.Pairwise ON->Q (.ref z) M')
def l9(T:Tx K mg):Cal P w K mg base 4 "ahead_first" (Ru Ol):=by
 refine pZ (k:=3) T.d_ dR λf _ _ _ s H _ V=>#[_,(aq (aI 1 dR.nd (eE ag)) (aq (ff Ks rfl (aZ (dv 0)) (aG 2 dR.nd) (ar (fx (jV (dv 1) (af (au (mj T).m V (af (dv 1) (af (dv 2) ag))) (af (dv 2) ag)))))) (ar (aE (dv 1))))),λ_ M Q h=>?_];let[l,t,b,X,Y,us,8,hl,S,hn,O,nd,k]:=h;refine #[Ng rfl,λz C=>?_];let G:l≠z:=aw hl C;refine #[7,us.map (Ob t b X Y),(by show(av M z _) l=_;rw[ak G];exact hl),?_];exists λi δ n=>Ro λ(ps:List Vc) (I:oy)=>Ww (δ=[MW (.ref l),MW (.ref z),I]) (SD.Sub M n) (n z=MW (.lst (ps.map (Ob t b X Y)))) (ps.Perm (us.take i)) (ps.Pairwise ON),#[[],7,.new C .refl,aj,by simp,List.Pairwise.nil],λi δ n _ q=>by let[_,_,_,x,_]:=q;exact x _ _ hl,?_
 .rintro i d δ n hi hd ⟨ps,I,rfl,x,g,r,up⟩;let hd:(us.map (Ob t b X Y))[i]?=MW d:=hd;rw[JI]at hd;cases v:us[i]? with
  |none=>rw[v]at hd;cases hd
  |some u=>
   rw[v]at hd
   cases hd
   let W:i<us.length:=(Jp.mp v).1
   let J:us[i]=u:=(Jp.mp v).2
   let R:=O u (JN v)
   let L:∀p∈ps,p∈us:=λp y=>List.mem_of_mem_take (r.mem_iff.mp y)
   let B:∀p∈ps,OO p:=λp y=>O p (L p y)
   let Z:ps.length=i:=by rw[r.length_eq,La];omega
   let nu:u∉ps:=λy=>by
    have:=r.mem_iff.mp y
    let[j,F,U]:=Mj this
    let N:j<i:=by rw[La]at F;omega
    rw[List.getElem_take]at U
    have:=Kd.mp nd j i () W N
    exact this (U.trans J.symm)
   refine #[7,z,7,g,7,7,z,t,b,X,Y,ps,u,8,8,g,S,(),B,R,up,λj F a c=>?_]
   let[i1,i2]:=FP up F a λi h1 h2=>A0 (B _ (ig h2)) R (λe=>nu (e▸ig h2)) (c i h1 h2)
   refine #[7,_,_,j,8,g,by rw[J7];exact F,by rw[J7];omega,bT ps j u,7,λa o h=>?_,by rw[aj,qC],?_,i1]
   .rw[ak (aw h C)];exact x _ _ h
   .rw[List.take_succ,v];exact i2.trans ((List.Perm.cons u r).trans (List.perm_append_singleton u (us.take i)).symm)
 .rintro δ n ⟨ps,I,rfl,x,g,r,up⟩;let e:us.take (us.map (Ob t b X Y)).length=us:=by rw[J7,List.take_length]
  exact #[7,n,.refl,k n z ps x C g (by rw[<-e];exact r) up]
theorem de:N9 ["plot","corners","wall","end"] ["plot"] (ao fq):=⋯
inductive Ox:Prop
 |mk (t b X Y:Int)(ws:n_)(_:pa=.tup (ws.map (Nm t b X Y)))(_:PB t b X Y)(_:ws.length<=40)(_:(∀w∈ws,OB w))(_:∀(M':MH)(z:k_)(ps:List Vc),SD.Sub M M'->M z=MX->M' z=MW (.lst (ps.map (Ob t b X Y)))->ps.Perm (OA ws ws.length)->ps.Pairwise ON->Q (.ref z) M')
def nB(T:Tx K mg):Cal P w K mg base 5 "corners_of" (Ru Ox):=by
 refine pZ (k:=4) T.eh de λf _ _ _ s H _ I=>#[_,(aq (aI 1 de.nd yp) (aq (ff Ks rfl (aZ (dv 0)) (aG 2 de.nd) (ar (ff Ks rfl (aZ (dv 2)) (aG 3 de.nd) (ar (yu (md I) (dv 1) (au (sR T).m I (af (dv 3) ag)) iJ))))) (ar (aE (au (l9 T).m I (af (eK (zC rfl) rfl T.hY uC (af (dv 1) ag)) ag)))))),λ_ M Q h=>?_];let[t,b,X,Y,ws,8,S,hn,hU,k]:=h;intro c N;exists 7,ws.map (Nm t b X Y),8;exists λi δ r=>Ro λ(J v:oy)=>δ=[MW (.tup (ws.map (Nm t b X Y))),MW (.ref c),J,v]/\SD.Sub M r/\r c=MW (Pc (QL t b X Y (OA ws i))),#[_,7,.new N .refl,aj],λi δ r _ q=>rfl,?_
 .rintro i d δ r hi hd ⟨J,v,rfl,B,g⟩;let hd:(ws.map (Nm t b X Y))[i]?=MW d:=hd;rw[JI]at hd;cases C:ws[i]? with
  |none=>rw[C]at hd;cases hd
  |some w=>
   rw[C]at hd
   cases hd
   let iw:i<ws.length:=(Jp.mp C).1
   let O:=hU w (JN C)
   let lc:=dX ws i
   exists 7,[Ob t b X Y (ea w),Ob t b X Y (eb w)],8
   exists λj δ n=>Ro λ(us:List Vc) (v:oy)=>XC (δ=[MW (.tup (ws.map (Nm t b X Y))),MW (.ref c),MW (Nm t b X Y w),v]) (SD.Sub M n) (n c=MW (Pc (QL t b X Y us))) (us.length<=2*i+j) (j=0->us=OA ws i) (j=1->us=cU (OA ws i) (ea w)) (j=2->us=cU (cU (OA ws i) (ea w)) (eb w)),#[OA ws i,7,B,g,(),λ_=>rfl,λh=>(),λh=>()],λi δ r _ q=>rfl,?_
   .rintro j d δ n R hd ⟨us,v,rfl,l,y,lu,U,V,W⟩;let R:j<2:=R
    obtain⟨u,rfl,Z,hu⟩:∃u,d=Ob t b X Y u/\OO u/\(j=0->u=ea w)/\(j=1->u=eb w):=by
     let hd:([Ob t b X Y (ea w),Ob t b X Y (eb w)]:ox)[j]?=MW d:=hd;rcases(():j=0\/j=1)with rfl|rfl
     .cases hd;exact #[7,O.ea,λ_=>rfl,λh=>()]
     .cases hd;exact #[7,O.eb,λh=>(),λ_=>rfl]
    refine #[7,7,_,7,(Z.bx S).mono ⋯,(Z.by' S).mono ⋯,c,_,gk t b X Y u,8,FH t b X Y u,y,?_,cU us u,7,?_,by rw[aj,AR S.t0 S.b0],by have:=lA us u;omega,λh=>(),λh=>?_,λh=>?_]
    .show(QL t b X Y us).length<_;unfold QL;rw[J7];omega
    .intro a o h;rw[ak (aw h N)];exact l _ _ h
    .have:j=0:=()
     rw[U this,hu.1 this]
    .have:j=1:=()
     rw[V this,hu.2 this]
   .rintro δ n ⟨us,v,rfl,l,y,lu,U,V,W⟩;exists _,7,l;rw[y,W rfl]
    congr 3
    show _=(match ws[i]? with|some w=>cU (cU (OA ws i) (ea w)) (eb w)|none=>OA ws i);rw[C]
 .rintro δ r ⟨J,v,rfl,B,g⟩
  let g:r c=MW (Pc (QL t b X Y (OA ws ws.length))):=by
   let e:(ws.map (Nm t b X Y)).length=ws.length:=by simp
   rw[<-e];exact g
  refine #[7,.inr #[c,7,g,λp hp=>?_]];let ek:(QL t b X Y (OA ws ws.length)).map (λx=>Qr x.1)=(OA ws ws.length).map (Ob t b X Y):=by unfold QL;rw[Lr];rfl
  rw[ek];let lc:=dX ws ws.length;refine #[p,t,b,X,Y,OA ws ws.length,8,aj,S,(),CO hU,nH ws _,λM2 z ps l G L pm up=>?_];let zp:z≠p:=λe=>by subst e;rw[aj]at G;cases G
  let F:r z=MX:=by rw[ak zp]at G;exact G
  let zM:M z=MX:=by
   cases e:M z with
   |none=>rfl
   |some o=>rw[B _ _ e]at F;cases F
  exact #[M2,.refl,k M2 z ps (λa o h=>l _ _ (by rw[ak (aw (B _ _ h) hp)];exact B _ _ h)) zM L pm up]
theorem dY:N9 ["plot","corners","numbers"] ["plot","corners"] (ao cZ):=⋯
inductive O1:Prop
 |mk (t b X Y:Int)(ws:n_)(ps:List Vc)(zc:k_)(_:pa=.tup (ws.map (Nm t b X Y)))(_:p3=.ref zc)(_:M zc=MW (.lst (ps.map (Ob t b X Y))))(_:PB t b X Y)(_:ws.length<=40)(_:(∀pa,pa∈ps↔pa∈OA ws ws.length))(_:ps.Nodup)(_:ps.length<=1000)(_:∀(M':MH)(z:k_),SD.Sub M M'->M z=MX->M' z=MW (.lst (ws.map (R4 ps)))->Q (.ref z) M')
def jd(T:Tx K mg):Cal P w K mg base 1 "ends_by_number" (OV O1):=by
 refine bK (k:=0) T.eu dY λf _ _ _ s H _ x=>#[_,(aq (aI 2 dY.nd (vb (md x) (Na.of (xs:=["number","corner"]) (js:=[]) rfl) rfl (Cb rfl T.hJ (af (dv 1) ag)) (λ_ _ _ _=>cw) (λ_ _ _ _=>(dv 1)) (λ_ _ _ _=>(dv 0)))) (ar (aE (lZ (Na.of (xs:=["first","second"]) (js:=[2]) rfl) rfl (aZ (dv 0)) (λ_ _ _ _=>cw) (λ_ _ _ _=>(aK (af (qy (md x) (dv 2) (dv 0) (by intro _ _;with_unfolding_all rfl)) (af (qy (md x) (dv 2) (dv 1) (by intro _ _;with_unfolding_all rfl)) ag)))))))),λ_ _ M Q h=>?_];let[t,b,X,Y,ws,ps,G,8,8,c,S,I,J,nd,N,k]:=h;let cl:(ps.map (Ob t b X Y)).length=ps.length:=J7 ..;refine #[7,G,ps.map (Ob t b X Y),8,c,by show(ps.map (Ob t b X Y)).length<=_;omega,λp j=>?_];exists λi kvs l=>Rm t b X Y ps i kvs/\l=av M p (Pc kvs),#[.nil t b X Y ps,rfl],λi kvs l _ q=>by rw[q.2];show(av M p _) G=_;rw[ak (aw c j)];exact c,?_
 .rintro i kvs d l hi hd ⟨g,rfl⟩;let hd:((ps.map (Ob t b X Y))[i]?).map (λd=>D.tup [.int (i:Int),d])=MW d:=hd;rw[JI]at hd;cases u:ps[i]? with
  |none=>rw[u]at hd;cases hd
  |some v=>
   rw[u]at hd
   cases hd
   exists _,#[7,8,rfl]
   dsimp only[SD.cT]
   rw[NB rfl]
   let hi:i<ps.length:=(Jp.mp u).1
   exists 7,7,gk t b X Y v,8,aj,by have:=g.len;omega,g.put S.t0 S.b0 nd u
   rw[eG]
 .rintro kvs l ⟨g,rfl⟩;let g:Rm t b X Y ps ps.length kvs:=by rw[<-cl];exact g
  let L:SD.Sub M (av M p (Pc kvs)):=.new j .refl;refine #[7,ws.map (Nm t b X Y),8,comp_map (λi=>((ws.map (R4 ps))[i]?).getD .non) (by show(ws.map (Nm t b X Y)).length<=1000000;rw[J7];omega) (λp W N=>rfl) ?_ (λq y=>?_)]
  .intro i e l hi he B;let[w,m,8]:=qe he;refine #[_,#[7,8,rfl],λK O=>?_];let n:=O _ .refl;rw[getD_map m]at n;let r:=B _ _ aj;let C:ea w∈ps:=(J _).mpr ((fu _).mpr #[i,w,(Jp.mp m).1,m,.inl rfl]);let F:eb w∈ps:=(J _).mpr ((fu _).mpr #[i,w,(Jp.mp m).1,m,.inr rfl]);let[R,U]:=jn C;let[b1,V]:=jn F;exact #[7,7,p,kvs,gk t b X Y (ea w),7,8,r,g.vs _ _ U R,7,7,p,kvs,gk t b X Y (eb w),7,8,r,g.vs _ _ V b1,Ng rfl,n]
  .dsimp only
   let e:(JM (ws.map (Nm t b X Y)).length).map (λi=>((ws.map (R4 ps))[i]?).getD .non)=ws.map (R4 ps):=by
    have:=SD.range_getD (ws.map (R4 ps))
    rw[J7]at this ⊢
    exact this
   rw[e];refine Nk (k _ q (λa o h=>?_) ?_ aj)
   .have:=L _ _ h;rw[ak (aw this y)];exact this
   .cases z:M q with
    |none=>rfl
    |some o=>rw[L _ _ z]at y;cases y
theorem mn:N9 ["one","other"] ["one","other"] (ao eW):=⋯
inductive Ow:Prop
 |mk (c d g h:Rat)(_:pa=N5 c d)(_:p3=N5 g h)(_:NZ 100000 c)(_:NZ 100000 d)(_:NZ 100000 g)(_:NZ 100000 h)(_:∀s:Rat×Rat,s=(if N0 c d g h then(c,d)else(g,h))->Q (N5 s.1 s.2) M)
def oG(T:Tx K mg):Cal P w K mg base 3 "earlier_of" (OV Ow):=by
 refine bK (k:=2) T.ez mn λf _ _ _ s H _ b=>#[_,(ar (aE (sE (bW (au (fw T).m b (af (dv 0) (af (dv 1) ag)))) (dv 0) (dv 1)))),λ_ _ M Q h=>?_];let[c,d,g,a,8,8,h1,h2,e,i,k]:=h;exists 7,7,c,d,g,a,8,8,h1,h2,e,i,7;refine cD (λh=>?_) (λh=>?_)
 .have z:N0 c d g a:=by simpa[N0]using h
  have:=k (c,d) (by rw[NB z]);exact #[7,Nk this]
 .have z:¬N0 c d g a:=by simpa[N0]using h
  have:=k (g,a) (by rw[NA z]);exact #[7,Nk this]
theorem qc:N9 ["one","other"] ["one","other"] (ao iB):=⋯
inductive Pm:Prop
 |mk (a b e f:Rat)(_:pa=N5 a b)(_:p3=N5 e f)(_:NZ 100000 a)(_:NZ 100000 b)(_:NZ 100000 e)(_:NZ 100000 f)(_:∀s:Rat×Rat,s=(if N0 e f a b then(a,b)else(e,f))->Q (N5 s.1 s.2) M)
def rP(T:Tx K mg):Cal P w K mg base 3 "later_of" (OV Pm):=by
 refine bK (k:=2) T.eH qc λf _ _ _ s H _ c=>#[_,(ar (aE (sE (bW (au (fw T).m c (af (dv 1) (af (dv 0) ag)))) (dv 0) (dv 1)))),λ_ _ M Q h=>?_];let[a,b,e,f,8,8,h1,h2,d,g,k]:=h;exists 7,7,e,f,a,b,8,8,d,g,h1,h2,7;refine cD (λh=>?_) (λh=>?_)
 .have z:N0 e f a b:=by simpa[N0]using h
  have:=k (a,b) (by rw[NB z]);exact #[7,Nk this]
 .have z:¬N0 e f a b:=by simpa[N0]using h
  have:=k (e,f) (by rw[NA z]);exact #[7,Nk this]
theorem EI:N9 ["one","other"] ["one","other"] (ao zx):=⋯
inductive Rq:Prop
 |mk (t1 b1 t2 b2:Int)(_:pa=.tup [.int t1,.int b1])(_:p3=.tup [.int t2,.int b2])(_:Bd 1000000 t1)(_:Bd 1000000 b1)(_:Bd 1000000 t2)(_:Bd 1000000 b2)(_:Q (.tup [.int (t1*b2-t2*b1),.int (b1*b2)]) M)
def pK(T:Tx K mg):Cal P w K mg base 1 "gap" (OV Rq):=by refine bK (k:=0) T.eI EI λf _ _ _ s H _ c=>#[_,(ar (aE (aK (af (aA br (aA aV (aD (dv 0) ai) (aD (dv 1) ai)) (aA aV (aD (dv 1) ai) (aD (dv 0) ai))) (af (aA aV (aD (dv 0) ai) (aD (dv 1) ai)) ag))))),λ_ _ M Q h=>?_];let[t1,b1,d,e,8,8,h1,h2,b,a,k]:=h;exists 7,7,7,7,iG h1 a,7,7,7,7,iG b h2,trivial;exact #[7,7,7,7,iG h2 a,Ng rfl,Nk k]
theorem dw:N9 ["wall","spot","a","b","c","d","x","y","across","up","along","high"] ["wall","spot"] (ao qT):=⋯
inductive RN:Prop
 |mk (n:Nat)(a b c d x y:Rat)(_:pa=NX a b c d)(_:p3=N5 x y)(_:NZ n a)(_:NZ n b)(_:NZ n c)(_:NZ n d)(_:NZ n x)(_:NZ n y)(_:n<=20000)(_:∀t e:Int,0<e->Rat.divInt t e=N2 a b c d x y->Bd (8*n+3) t->Bd (8*n+3) e->Q (.tup [.int t,.int e]) M)
def Fo(T:Tx K mg):Cal P w K mg base 2 "lean" (OV RN):=by
 refine bK (k:=1) T.eL dw λf _ _ _ s H _ j=>#[_,(aq (dj (dv 0) (c6 rfl (aH (c6 rfl (aH (aG 2 dw.nd) (aH (aG 3 dw.nd) bS))) (aH (c6 rfl (aH (aG 4 dw.nd) (aH (aG 5 dw.nd) bS))) bS)))) (aq (dj (dv 1) (c6 rfl (aH (aG 6 dw.nd) (aH (aG 7 dw.nd) bS)))) (aq (jL 8 9 rfl dw.nd (af (au (pK T).m j (af (dv 4) (af (dv 2) ag))) (af (au (pK T).m j (af (dv 5) (af (dv 3) ag))) ag))) (aq (jL 10 11 rfl dw.nd (af (au (pK T).m j (af (dv 6) (af (dv 2) ag))) (af (au (pK T).m j (af (dv 7) (af (dv 3) ag))) ag))) (ar (aE (au (pK T).m j (af (aK (af (aA aV (aD (dv 8) ai) (aD (dv 11) ai)) (af (aA aV (aD (dv 8) ai) (aD (dv 11) ai)) ag))) (af (aK (af (aA aV (aD (dv 9) ai) (aD (dv 10) ai)) (af (aA aV (aD (dv 9) ai) (aD (dv 10) ai)) ag))) ag))))))))),λ_ _ M Q h=>?_];let[n,a,b,c,d,x,y,8,8,ha,g,o,hd,hx,p,D,k]:=h;let e:∀{m:Nat}{i:Int},Bd m i->m<=1000000->Bd 1000000 i:=λz l=>z.mono l;let u:=o.tS ha;let v:=hd.tS g;let B:=hx.tS ha;let C:=p.tS g;let e1:=o.2.mul ha.2;let e2:=hd.2.mul g.2;let e3:=hx.2.mul ha.2;let e4:=p.2.mul g.2;refine #[7,7,8,_,7,#[7,8,_,7,_,7,8,?_]];refine #[_,7,#[7,8,_,7,_,7,8,?_]];exists 8,7,7,8,_,7,_,7,8;exists 7,7,_,_,_,7,8,e o.1 (),e o.2 (),e ha.1 (),e ha.2 ();exists 7,7,_,_,_,7,8,e hd.1 (),e hd.2 (),e g.1 (),e g.2 ();exists _,7;exists 7,7,_,_,_,7,8,e hx.1 (),e hx.2 (),e ha.1 (),e ha.2 ();exists 7,7,_,_,_,7,8,e p.1 (),e p.2 (),e g.1 (),e g.2 ();exists _,7;exists 7,7,7,7,iG (e u ()) (e C ());exists 7,7,7,7,iG (e e1 ()) (e e4 ()),Ng rfl;exists 7,7,7,7,iG (e v ()) (e B ());exists 7,7,7,7,iG (e e2 ()) (e e3 ()),Ng rfl;exists _,_,_,7,8,e (u.mul C) (),e (e1.mul e4) (),e (v.mul B) (),e (e2.mul e3) ();let t:∀q r:Rat,0<(q.den:Int)*(r.den:Int):=λq r=>LU (N7 q) (N7 r);refine Nk (k _ _ (LU (LU (t c a) (t y b)) (LU (t d b) (t x a))) (Ma.AB a b c d x y) ?_ ?_)
 .exact((((u.mul C).mul (e2.mul e3)).mono (():_<=8*n+2)).sub (((v.mul B).mul (e1.mul e4)).mono (():_<=8*n+2)))
 .exact((e1.mul e4).mul (e2.mul e3)).mono ()
theorem lY:N9 ["wall","spot","top"] ["wall","spot"] (ao je):=⋯
inductive Pz:Prop
 |mk (n:Nat)(a b c d x y:Rat)(_:pa=NX a b c d)(_:p3=N5 x y)(_:NZ n a)(_:NZ n b)(_:NZ n c)(_:NZ n d)(_:NZ n x)(_:NZ n y)(_:n<=1900)(_:Q (.int (N3 (N2 a b c d x y))) M)
def mK(T:Tx K mg):Cal P w K mg base 3 "side_of" (OV Pz):=by
 refine bK (k:=2) T.e_ lY λf _ _ _ s H _ g=>#[_,(aq (aI 2 lY.nd (aD (au (Fo T).m g (af (dv 0) (af (dv 1) ag))) ai)) (aq (bz (aO (dI g.units) (dv 2) ai) (ar (aE ai)) aN) (aq (bz (aO (cY g.units) (dv 2) ai) (ar (aE (tX kB ai))) aN) (ar (aE ai))))),λ_ _ M Q h=>?_];let[n,a,b,c,d,x,y,8,8,ha,j,l,hd,hx,o,p,k]:=h;refine #[7,7,n,a,b,c,d,x,y,8,8,ha,j,l,hd,hx,o,(),λt e he i _ _=>#[7,?_]];rw[<-i,Ma.Az he]at k;exists 7,trivial,7;refine cD (λh=>?_) (λh=>?_)
 .rw[NB ‹h›]at k;exact Nk k
 rw[NA ‹h›]at k;exists 7,trivial,7;refine cD (λh=>?_) (λh=>?_)
 .rw[NB ‹h›]at k;exact Nk k
 .rw[NA ‹h›]at k;exact Nk k
theorem d3:N9 ["one","other","start","end","place","deciding"] ["one","other"] (ao ik):=⋯
inductive Po:Prop
 |mk (t b X Y:Int)(U V:Wl)(_:pa=Nm t b X Y U)(_:p3=Nm t b X Y V)(_:PB t b X Y)(_:OB U)(_:OB V)(_:Q (.bl (Nu U V)) M)
def qJ(T:Tx K mg):Cal P w K mg base 4 "is_above" (OV Po):=by
 refine bK (k:=3) T.fb d3 λf _ _ _ s H _ x=>#[_,(aq (jL 2 3 rfl d3.nd (af (au (rP T).m x (af (aD (dv 0) ai) (af (aD (dv 1) ai) ag))) (af (au (oG T).m x (af (aD (dv 0) ai) (af (aD (dv 1) ai) ag))) ag))) (aq (bz (jk (bW (au (fw T).m x (af (dv 2) (af (dv 3) ag))))) (ar (aE iJ)) aN) (aq (dj (sE (aO (dn x.units) (aD (dv 0) ai) (aD (dv 1) ai)) (aK (af ai (af (dv 3) ag))) (aK (af ai (af (dv 2) ag)))) (c6 rfl (aH (aG 4 d3.nd) (aH (aG 5 d3.nd) bS)))) (aq (bz (aO (dn x.units) (dv 5) (aD (dv 0) (dv 4))) (ar (aE (bL (dn x.units) (au (mK T).m x (af (dv 1) (af (dv 5) ag))) ai))) aN) (ar (aE (bL (dn x.units) (au (mK T).m x (af (dv 0) (af (dv 5) ag))) (tX kB ai)))))))),λ_ _ M Q h=>?_];let[t,b,X,Y,U,V,8,8,S,g,i,k]:=h;let C:=S.t0;let F:=S.b0;let one:(0:Int)<1/\(1:Int)<=10^6:=⋯
 let W6:∀{z:Int},(0<=z/\z<=20)->(-(10^6)<=z/\z<=10^6):=λ{z} h=>()
 let bx:∀{z:Int},(0<=z/\z<=20)->NZ 200 (NY t b X 1 z):=λ{z} h=>S.bx one (W6 h);let by':∀{z:Int},(0<=z/\z<=20)->NZ 200 (NY t b Y 1 z):=λ{z} h=>S.by' one (W6 h)
 let n:∀{q:Rat},NZ 200 q->NZ 100000 q:=λz=>z.mono ⋯
 let W:∃r u:Int,(if N0 (NY t b X 1 V.1) (NY t b Y 1 V.2.1) (NY t b X 1 U.1) (NY t b Y 1 U.2.1)then(NY t b X 1 U.1,NY t b Y 1 U.2.1)else(NY t b X 1 V.1,NY t b Y 1 V.2.1))=(NY t b X 1 r,NY t b Y 1 u)/\(0<=r/\r<=20)/\(0<=u/\u<=20)/\la r u=max (l1 U) (l1 V)/\((l1 V<l1 U/\r=U.1/\u=U.2.1)\/(¬l1 V<l1 U/\r=V.1/\u=V.2.1)):=by
  let z:=nL (X:=X) (Y:=Y) (p:=V.1) (q:=V.2.1) (e:=U.1) (f:=U.2.1) C F i.b g.b
  by_cases y:la V.1 V.2.1<la U.1 U.2.1
  .exact #[U.1,U.2.1,by rw[NB (z.mpr y)],g.a,g.b,by unfold l1;omega,.inl #[y,8,rfl]]
  .exact #[V.1,V.2.1,by rw[NA (λq=>y (z.mp q))],i.a,i.b,by unfold l1;omega,.inr #[y,8,rfl]]
 let G:∃ex v:Int,(if N0 (NY t b X 1 U.2.2.1) (NY t b Y 1 U.2.2.2) (NY t b X 1 V.2.2.1) (NY t b Y 1 V.2.2.2)then(NY t b X 1 U.2.2.1,NY t b Y 1 U.2.2.2)else(NY t b X 1 V.2.2.1,NY t b Y 1 V.2.2.2))=(NY t b X 1 ex,NY t b Y 1 v)/\(0<=ex/\ex<=20)/\(0<=v/\v<=20)/\la ex v=min (l2 U) (l2 V)/\((l2 U<l2 V/\ex=U.2.2.1/\v=U.2.2.2)\/(¬l2 U<l2 V/\ex=V.2.2.1/\v=V.2.2.2)):=by
  let z:=nL (X:=X) (Y:=Y) (p:=U.2.2.1) (q:=U.2.2.2) (e:=V.2.2.1) (f:=V.2.2.2) C F g.d i.d
  by_cases y:la U.2.2.1 U.2.2.2<la V.2.2.1 V.2.2.2
  .exact #[U.2.2.1,U.2.2.2,by rw[NB (z.mpr y)],g.c,g.d,by unfold l2;omega,.inl #[y,8,rfl]]
  .exact #[V.2.2.1,V.2.2.2,by rw[NA (λq=>y (z.mp q))],i.c,i.d,by unfold l2;omega,.inr #[y,8,rfl]]
 let[r,u,es,Z,I,ls,cs]:=W;let[ex,v,ee,a0,J,le,ce]:=G;refine #[7,7,7,7,_,_,_,7,8,n (bx g.a),n (by' g.b),n (bx i.a),n (by' i.b),λs1 c0=>?_];rw[es]at c0;subst c0;refine #[7,7,7,7,_,_,_,7,8,n (bx g.c),n (by' g.d),n (bx i.c),n (by' i.d),λs2 d0=>?_];rw[ee]at d0;subst d0;exists _,7;exists 7,7,NY t b X 1 r,NY t b Y 1 u,NY t b X 1 ex,NY t b Y 1 v,8,8,n (bx Z),n (by' I),n (bx a0),n (by' J),7;let L:=nL (X:=X) (Y:=Y) (p:=r) (q:=u) (e:=ex) (f:=v) C F I J;rw[ls,le]at L;refine cD (λh=>?_) (λh=>?_)
 .have N:¬(max (l1 U) (l1 V)<min (l2 U) (l2 V)):=λz=>by
   let z':=L.mpr z
   unfold N0 at z'
   simp[z']at h
  let e:Nu U V=MZ:=by unfold Nu;rw[NA N]
  rw[e]at k;exact Nk k
 let N:max (l1 U) (l1 V)<min (l2 U) (l2 V):=L.mp (Decidable.byContradiction λz=>h ((Bool.not_eq_true' _).mpr (NC z)));dsimp only[SD.dM];refine fm (λδ M'=>M'=M/\ZS λ(pl j l O B:Int) (o2 o3:oy)=>δ=[MW (Nm t b X Y U),MW (Nm t b X Y V),o2,o3,MW (.int pl),MW (N5 (NY t b X 1 j) (NY t b Y 1 l))]/\atI [N5 (NY t b X 1 U.1) (NY t b Y 1 U.2.1),N5 (NY t b X 1 U.2.2.1) (NY t b Y 1 U.2.2.2)] pl=MW (N5 (NY t b X 1 O) (NY t b Y 1 B))/\(0<=j/\j<=20)/\(0<=l/\l<=20)/\(0<=B/\B<=20)/\(la j l=la O B->decide (0<sd V j l)=Nu U V)/\(la j l≠la O B->decide (sd U j l<0)=Nu U V)) ?_ (λhu=>?_);rotate_left
 .exists 7,7,7,7,_,_,Pd.of rfl,Pd.of rfl,8,8;rw[Ma.tI];exists 7;let q1:=p4 (X:=X) (Y:=Y) (p:=U.1) (q:=U.2.1) (e:=V.1) (f:=V.2.1) C F g.b i.b;refine cD (λh=>?_) (λh=>?_)
  .have e1:l1 U=l1 V:=q1.mp ‹h›;exists 7,Ng rfl;exists 7,8,_,7,_,7,8;refine hu _ _ #[8,1,ex,v,U.2.2.1,U.2.2.2,_,7,8,a0,J,g.d,λz=>?_,λz=>?_]
   .rcases ce with⟨o,rfl,rfl⟩|⟨o,rfl,rfl⟩
    .unfold Nu;rw[NB N,NB e1,NB o];rfl
    .have y1:O2 U V=0:=zT g i z.symm;let y2:sd V V.2.2.1 V.2.2.2=0:=zT i i rfl;unfold Nu;rw[NB N,NB e1,NA o,y1,y2]
   .rcases ce with⟨o,rfl,rfl⟩|⟨o,rfl,rfl⟩
    .exact absurd rfl z
    .unfold Nu;rw[NB N,NB e1,NA o];rfl
  .have e1:¬l1 U=l1 V:=λz=>h ‹q1.mpr z›;exists 7,Ng rfl;exists 7,8,_,7,_,7,8;refine hu _ _ #[8,0,r,u,U.1,U.2.1,_,7,8,Z,I,g.b,λz=>?_,λz=>?_]
   .rcases cs with⟨o,rfl,rfl⟩|⟨o,rfl,rfl⟩
    .unfold Nu;rw[NB N,NA e1,NB o];rfl
    .exact absurd z.symm e1
   .rcases cs with⟨o,rfl,rfl⟩|⟨o,rfl,rfl⟩
    .exact absurd rfl z
    .unfold Nu;rw[NB N,NA e1,NA o];rfl
 rintro δ M' ⟨rfl,pl,j,l,O,B,o2,o3,rfl,f0,e0,R,g0,c1,c2⟩;exists 7,7,7,_,f0,_,_,Pd.of rfl,Pd.of rfl,8,8;rw[Ma.tI];let q2:=p4 (X:=X) (Y:=Y) (p:=j) (q:=l) (e:=O) (f:=B) C F R g0;exists 7;refine cD (λh=>?_) (λh=>?_)
 .have z:la j l=la O B:=q2.mp ‹h›;exists 7,7,200,_,_,_,_,_,7,8,bx i.a,by' i.b,bx i.c,by' i.d,bx e0,by' R,⋯;rw[xD C F];let e:decide (KG (sd V j l)=1)=Nu U V:=by rw[<-c1 z,NG];exact Zi _
  show Ra Q (.bl (decide _)) _;rw[e];exact Nk k
 .have z:la j l≠la O B:=λq=>h ‹q2.mpr q›;exists 7,7,200,_,_,_,_,_,7,8,bx g.a,by' g.b,bx g.c,by' g.d,bx e0,by' R,⋯;rw[xD C F];let e:decide (KG (sd U j l)=-1)=Nu U V:=by rw[<-c2 z,NG];exact Ih _
  show Ra Q (.bl (decide _)) _;rw[e];exact Nk k
theorem l4:N9 ["plot"] ["plot"] (ao d7):=⋯
inductive Om:Prop
 |mk (t b X Y:Int)(ws:n_)(_:pa=.tup (ws.map (Nm t b X Y)))(_:PB t b X Y)(_:ws.length<=40)(_:(∀w∈ws,OB w))(_:∀(M':MH)(z:k_)(as:m_),SD.Sub M M'->M' z=MW (.lst (as.map D.ref))->as.length=ws.length->(∀(i:Nat) a w,as[i]?=MW a->ws[i]?=MW w->M' a=MW (.lst (ws.map λv=>D.bl (Nu w v))))->Q (.ref z) M')
def mE(T:Tx K mg):Cal P w K mg base 5 "above_table" (Ru Om):=by
 refine pZ (k:=4) T.fz l4 λf _ _ _ s H _ V=>#[_,(ar (aE (bU (Na.of (xs:=["one"]) (js:=[0]) rfl) rfl (aZ (dv 0)) (λ_ _ _ _=>cw) (λ_ _ _ _=>(bU (Na.of (xs:=["other"]) (js:=[0]) rfl) rfl (aZ (dv 1)) (λ_ _ _ _=>cw) (λ_ _ _ _=>(au (qJ T).m V (af (dv 1) (af (dv 0) ag))))))))),λ_ M Q h=>?_];let[t,b,X,Y,ws,8,S,J,hU,k]:=h;refine #[7,ws.map (Nm t b X Y),8,by show(ws.map (Nm t b X Y)).length<=1000000;rw[J7];omega,λz L=>?_];exists λi u n=>∃c:m_,c.length=i/\u=c.map D.ref/\SD.Sub M n/\n z=MW (.lst u)/\∀(j:Nat) a w,c[j]?=MW a->ws[j]?=MW w->n a=MW (.lst (ws.map λv=>D.bl (Nu w v)))/\a≠z,#[[],8,8,.new L .refl,aj,λj a w h=>by simp at h],λi u n _ q=>rfl,?_
 .rintro i u d n hi hd ⟨c,y,rfl,B,g,C⟩;let[w,N,8]:=qe hd;exists 7;dsimp only[SD.cT];refine mw ?_;refine #[7,ws.map (Nm t b X Y),8,comp_map (λj=>((ws.map λv=>D.bl (Nu w v))[j]?).getD .non) (by show(ws.map (Nm t b X Y)).length<=1000000;rw[J7];omega) (λp u hp=>rfl) ?_ (λq F=>?_)]
  .intro j e M6 hj he W;let[v,O,8]:=qe he;refine #[7,λK Z=>?_];let x:=Z _ .refl;rw[getD_map O]at x;exact #[7,7,t,b,X,Y,w,v,8,8,S,hU w (JN N),hU v (JN O),x]
  .dsimp only
   let e:(JM (ws.map (Nm t b X Y)).length).map (λj=>((ws.map λv=>D.bl (Nu w v))[j]?).getD .non)=ws.map λv=>D.bl (Nu w v):=by
    have:=SD.range_getD (ws.map λv=>D.bl (Nu w v))
    rw[J7]at this ⊢
    exact this
   rw[e];let r:z≠q:=aw g F;let G:(av n q (.lst (ws.map λv=>D.bl (Nu w v)))) z=MW (.lst (c.map D.ref)):=by rw[ak r];exact g
   refine #[_,.refl,G,c++[q],by simp[y],by simp,λa o h=>?_,aj,λj a v ha I=>?_]
   .rw[ak (aw h L),ak (aw (B _ _ h) F)];exact B _ _ h
   .rcases Nat.lt_or_ge j c.length with l|l
    .rw[K7 l]at ha;let[R,U]:=C j a v ha I;exact #[by rw[ak U,ak (aw R F)];exact R,U]
    .rw[K4 l]at ha
     let ej:j=i:=by
      have:=(Jp.mp ha).1
      simp at this;omega
     subst ej;rw[y,Nat.sub_self]at ha;cases ha;rw[N]at I;cases I;exact #[by rw[ak r.symm];exact aj,r.symm]
 .rintro u n ⟨c,y,rfl,B,g,C⟩;exact Nk (k n z c B g (by rw[y];exact J7 ..) λi a w ha hw=>(C i a w ha hw).1)
theorem dE:N9 ["self","plot","corners"] ["self","plot"] (ao cL):=⋯
def lq:Str:=(MT "lowest_first" (ao bM) 0 0 .none).qual++"<lambda>"
abbrev Tb(M:MH):Prop:=b5 lq 244 #[101,27,101,91] M
def bQ(K:J1):OE:=λd M Q=>match d with
 |[s,u]=>∃(a:k_) (t b X Y:Int) (ws:n_),s=.ref a/\u=.tup (ws.map (Nm t b X Y))/\M a=MW (cm (cl K "Cutter") [])/\PB t b X Y/\ws.length<=40/\(∀w∈ws,OB w)/\
  ∀(c:MH)(ps:List Vc)(ze e la:k_)(ab:m_),cH a M c->Cu (cl K "Cutter") c a ws ps ze e la ab->ps.Perm (OA ws ws.length)->ps.Pairwise ON->Q .non c
 |_=>False
theorem ip(K:J1):∀a M Q,(bQ K) a M Q->a.length=2:=λa M Q h=>by
 unfold bQ at h;split at h
 .rfl
 .exact h.elim
def iH(T:Tx K mg):vA P w K mg base 6 "Cutter" (cl K "Cutter") (bQ K):=by
 refine Ht (k:=5) (N:=["self","plot","corners"]) (ps:=["self","plot"]) T.i_ dE (λ_ _ _ _ _ _ us hl=>by let[_,_,8]:=SD.vm hl;rfl) (ip K) λf _ _ _ s H _ hr=>#[_,(aq (aI 2 dE.nd (au (nB T).m hr (af (dv 1) ag))) (aq (ku (au (jd T).m hr (af (dv 1) (af (dv 2) ag))) (dv 0)) (aq (ku (au (mE T).m hr (af (dv 1) ag)) (dv 0)) (aq (ku (aK (af ai (af (aA aP (aF bD rfl T.hV bG (af (dv 2) ag)) ai) ag))) (dv 0)) (ar (ku (yn rfl T.hY T.ia (af (aF bD rfl T.hV bG (af (dv 1) ag)) ag)) (dv 0))))))),λds M Q h=>?r]
 case r=>
  unfold bQ at h
  split at h
  case h_2=>exact h.elim
  let[a,t,b,X,Y,ws,8,8,ha,S,n,hU,k]:=h
  refine #[7,t,b,X,Y,ws,8,S,n,hU,λM1 zc ps s1 _ a0 pm up=>?_]
  let nd:ps.Nodup:=up.imp λz e=>by subst e;exact nZ _ z
  let pl:ps.length<=80:=by have:=pm.length_eq;have:=dX ws ws.length;omega
  refine #[7,7,t,b,X,Y,ws,ps,zc,8,8,a0,S,n,λu=>pm.mem_iff,nd,(),λM2 ze s2 _ L=>?_]
  let O:=s2 _ _ (s1 _ _ ha)
  let C:=s2 _ _ a0
  exists 7,a,_,[],8,O,T.cl_Cutter,T.na_ends,(⋯:0<1000)
  let e1:R8 "ends" (.ref ze) []=([("ends",D.ref ze)]:List (Str×D)):=rfl
  rw[e1]
  let Pr:cH a M (av M2 a (cm (cl K "Cutter") [("ends",D.ref ze)])):=λc u g h=>by rw[ak g];exact s2 _ _ (s1 _ _ h)
  let p:(av M2 a (cm (cl K "Cutter") [("ends",D.ref ze)])) ze=MW (.lst (ws.map (R4 ps))):=by rw[ak (sO O L)];exact L
  let q:(av M2 a (cm (cl K "Cutter") [("ends",D.ref ze)])) zc=MW (.lst (ps.map (Ob t b X Y))):=by rw[ak (sO O C)];exact C
  let R:(av M2 a (cm (cl K "Cutter") [("ends",D.ref ze)])) a=MW (cm (cl K "Cutter") [("ends",D.ref ze)]):=aj
  generalize av M2 a (cm (cl K "Cutter") [("ends",D.ref ze)])=M3 at Pr p q R ⊢
  refine #[7,t,b,X,Y,ws,8,S,n,hU,λU j ab s4 V d0 hab=>?_]
  let y:=s4 _ _ R
  exists 7,a,_,7,y,T.cl_Cutter,T.na_above,(⋯:1<1000)
  let e2:R8 "above" (.ref j) [("ends",D.ref ze)]=([("ends",D.ref ze),("above",D.ref j)]:List (Str×D)):=rfl
  rw[e2]
  let F:=s4 _ _ p
  let G:=s4 _ _ q
  let b0:RO U ws ab:=#[d0,hab]
  let PY:cH a M U:=λc u g h=>s4 _ _ (Pr _ _ g h)
  let kp:∀fs,O7 j U (av U a (cm (cl K "Cutter") fs))/\cH a M (av U a (cm (cl K "Cutter") fs))/\(av U a (cm (cl K "Cutter") fs)) a=MW (cm (cl K "Cutter") fs):=λfs=>#[#[λc ds h=>by rw[ak (sO y h)];exact h,λo h=>by
   rw[ak (sO y V)];exact h],λc u g h=>by rw[ak g];exact PY _ _ g h,aj]
  let[Z,Ot,x]:=kp [("ends",D.ref ze),("above",D.ref j)]
  generalize av U a (cm (cl K "Cutter") [("ends",D.ref ze),("above",D.ref j)])=M5 at Z Ot x ⊢
  let I:=Z.l _ _ F
  let c0:=Z.l _ _ G
  let J:=Z.l _ _ V
  let W:=b0.to Z.l
  clear kp Z F G V b0 hab PY y Pr p q R s4 L
  let e0:(ps.map (Ob t b X Y)).length=ps.length:=J7 ..
  exists 7,_,c0
  rw[e0]
  exists Ng rfl,7,a,_,7,x,T.cl_Cutter,T.na_whole_strip,(⋯:2<1000)
  let e3:∀d,R8 "whole_strip" d [("ends",D.ref ze),("above",D.ref j)]=([("ends",D.ref ze),("above",D.ref j),("whole_strip",d)]:List (Str×D)):=λ_=>rfl
  rw[e3]
  let Rt:∀o,cH a M5 (av M5 a o):=λo c u g h=>by rw[ak g];exact h
  refine #[7,ws.length,by show[D.int ((ws.map (Nm t b X Y)).length:Nat)]=_;rw[J7],(),λla B=>?_]
  let ax:a≠la:=λe=>by rw[<-e,aj]at B;cases B
  let f0:M5 la=MX:=by rw[ak ax.symm]at B;exact B
  exists 7,a,_,7,(ak ax).trans aj,T.cl_Cutter,T.na_all_walls,(⋯:3<1000)
  let e4:R8 "all_walls" (.ref la) [("ends",D.ref ze),("above",D.ref j),("whole_strip",.tup [.int 0,.int ((ps.length:Int)+1)])]=Yu ze j la ps.length:=rfl
  rw[e4,my]
  let Oo:cH a M5 (av (av (av M5 a (cm (cl K "Cutter") [("ends",D.ref ze),("above",D.ref j),("whole_strip",D.tup [D.int 0,D.int ((ps.length:Int)+1)])])) la (.lst (((JM ws.length).map λk:Nat=>(k:Int)).map D.int))) a (cm (cl K "Cutter") (Yu ze j la ps.length))):=λc u g h=>by rw[ak g,ak (aw h f0),ak g];exact h
  refine Nk (k _ ps ze j la ab (λc u g h=>Oo _ _ g (Ot _ _ g h)) #[aj,Oo _ _ (sO x I) I,Oo _ _ (sO x J) J,#[W.1,λi c v e1 e2=>Oo _ _ (sO x (W.2 i c v e1 e2)) (W.2 i c v e1 e2)],?_] pm up)
  rw[ak ax.symm]
  exact aj
theorem jZ:N9 ["row","above"] ["row","above"] (ao bM):=⋯
def cu:OE:=λd M Q=>match d with
 |[u,v]=>∃(l b:k_) (ws:n_) (ab:m_) (fs:ml),u=.ref l/\v=.ref b/\M l=MW (.lst (fs.map D.int))/\M b=MW (.lst (ab.map D.ref))/\RO M ws ab/\Fs ws fs/\ws.length<=40/\Tb M/\
  ∀(a:MH)(p:k_)(c:ml),cH 244 M a->M p=MX->a p=MW (.lst (c.map D.int))->Rr (fs.map λk=>(Eo ws fs k:Int)) fs c->Tb a->Q (.ref p) a
 |_=>False
theorem kg:∀a M Q,cu a M Q->a.length=2:=λa M Q h=>by
 unfold cu at h;split at h
 .rfl
 .exact h.elim
def oW(d e:D):OE:=λc M Q=>match c with
 |[x]=>∃(l a:k_) (ws:n_) (ab:m_) (fs:ml) (k:Int),d=.ref l/\e=.ref a/\x=.int k/\M l=MW (.lst (fs.map D.int))/\M a=MW (.lst (ab.map D.ref))/\RO M ws ab/\Fs ws fs/\ws.length<=40/\k∈fs/\∀b,SD.Sub M b->Q (.int (Eo ws fs k:Int)) b
 |_=>False
theorem EB(d e:D):∀a M Q,oW d e a M Q->a.length=1:=λa M Q h=>by
 unfold oW at h;split at h
 .rfl
 .exact h.elim
def lG(T:Tx K mg):Cal P w K mg base 4 "lowest_first" cu:=by
 refine Ia (k:=3) (N:=["row","above"]) (ps:=["row","above"]) T.fc_lowest_first jZ (λ_ _ _ _ _ _ us hl=>match us,hl with|[_,_],_=>rfl) kg λf A outer s H E O=>#[_,(ar (aE (oh (k:=0) (lx:="wall") (y1:="row") (y2:="above") (Pt:=244) (spg:=oW) 0 1 rfl T.lm (by refine #[8,8,8,⋯,⋯,⋯,8,8,8,?_,?_,λ_ _=>rfl,λ_=>rfl]<;>decide) (λ_ _ _ _ _ _ _ _=>rfl) EB (λbase g c1 c2 c' d1 d2 A outer s H O=>#[_,(aF bD rfl T.hV bG (af (bU (Na.of (xs:=["other"]) (js:=[2,0]) rfl) rfl (aZ (dv 1)) (λ_ _ _ _=>(fy (bW (aD (aD (dv 1) (dv 2)) (dv 0))))) (λ_ _ _ _=>(dv 0))) ag)),λd M Q h=>?l]) O T.ix (af (dv 0) ag)))),λds M Q h=>?r]
 case l=>
  unfold oW at h
  let[l,G,ws,ab,fs,u,8,8,8,hl,c,hab,F,m,Z,k]:=h
  let fl:=F.len
  let R:∀(a:Int),(MW a).bind (λa=>if Nu (OI ws u) (OI ws a)=MY then MW (D.int a)else MX)=if Nu (OI ws u) (OI ws a)=MY then MW (D.int a)else MX:=λ_=>rfl
  refine #[7,fs.map D.int,hl,nD (λj=>(fs[j]?).bind λa=>if Nu (OI ws u) (OI ws a)=MY then MW (.int a)else MX) (by show(fs.map D.int).length<=1000000;simp;omega) (λp ys hp=>by show(av M p _) l=_;rw[ak (aw hl hp)];exact hl) ?_ (λq hq=>?_)]
  .intro i d M9 hi hd v;let[one,t,8]:=qe hd;let I:=JN t;let A:=F.b _ Z;let B:=F.b _ I;let[S,_,_]:=c8 A.1 A.2;let[U,_,_]:=c8 B.1 B.2;obtain⟨j,rfl⟩:∃j:Nat,u=(j:Int):=#[u.toNat,()];obtain⟨V,rfl⟩:∃j:Nat,one=(j:Int):=#[one.toNat,()];rw[Lf]at S U;let W:j<ab.length:=by rw[hab.1];omega
   let f1:=hab.2 j _ _ (JB W) S;refine #[7,λK x=>?_,λe he K x=>?_]
   .rw[t,R]at x;exists 7,7,_,.ref ab[j],v _ _ c,c7 (by rw[JI,JB W];rfl),7,_,_,v _ _ f1,c7 (by rw[JI,U];rfl),7;cases z:Nu (OI ws (j:Int)) (OI ws (V:Int))<;>rw[z]at x<;>exact x
   .rw[t,R]at he;cases z:Nu (OI ws (j:Int)) (OI ws (V:Int))with
    |false=>rw[z]at he;cases he
    |true=>
     rw[z]at he
     cases he
     exact #[7,x _ .refl]
  .dsimp only;rw[Ax fs λo=>Nu (OI ws u) (OI ws o)];exists _,aj;rw[J7];exact k _ (.new hq .refl)
 case r=>
  unfold cu at h
  split at h
  case h_2=>exact h.elim
  let[l,G,ws,ab,fs,8,8,hl,c,hab,F,m,y,k]:=h
  let fl:=F.len
  refine #[7,l,fs,fs.map (λk=>(Eo ws fs k:Int)),.ref l,.ref G,8,hl,y.neL hl,8,8,y,J7 ..,by rw[J7];omega,λi a n X Q' ha Y C q=>?_,λp sr X fp J hb L C=>Nk (k X p sr C fp J hb L)]
  rw[JI,ha]at Y
  cases Y
  exact #[l,G,ws,ab,fs,a,8,8,8,C _ _ (y.neL hl) hl,C _ _ (y.neL c) c,#[hab.1,λi a w h1 h2=>C _ _ (y.neL (hab.2 i a w h1 h2)) (hab.2 i a w h1 h2)],F,m,JN ha,q]
theorem j8:N9 ["ends","strip"] ["ends","strip"] (ao dH):=⋯
inductive Od:Prop
 |mk (p q x y:Int)(_:pa=.tup [.int p,.int q])(_:p3=.tup [.int x,.int y])(_:Q (.bl (decide (p<x)&&decide (y-1<=q))) M)
def lB(T:Tx K mg):Cal P w K mg base 1 "reaches_over" (OV Od):=by refine bK (k:=0) T.f_ j8 λf _ _ _ s H _ b=>#[_,(ar (aE (fo (bL (cY b.units) (aD (dv 0) ai) (aD (dv 1) ai)) (fR (bL Ds (aD (dv 0) ai) (aA br (aD (dv 1) ai) ai)))))),λ_ _ M Q h=>?_];let[p,q,x,y,8,8,k]:=h;refine n9 (decide (p<x)) (decide (y-1<=q)) (λK a=>#[7,7,7,7,trivial,a]) (λ_ K a=>#[7,7,7,7,trivial,trivial,a]) (Nk k)
theorem fP:N9 ["self","strip","walls"] ["self","strip","walls"] (ao cg):=⋯
def bw(K:J1):OE:=λd M Q=>match d with
 |[s,u,v]=>∃(a:k_) (ws:n_) (ps:List Vc) (ze e la:k_) (ab:m_) (x y:Int) (W:ml) (l:k_),s=.ref a/\u=.tup [.int x,.int y]/\v=.ref l/\Cu (cl K "Cutter") M a ws ps ze e la ab/\Wk ws ps x y W/\M l=MW (.lst (W.map D.int))/\ws.length<=40/\Tb M/\
  ∀(b:MH)(p:k_)(c:ml),cH 244 M b->M p=MX->b p=MW (.lst (c.map D.int))->c.Perm (W.filter (Ri ws ps x y))->Tb b->Q (.ref p) b
 |_=>False
theorem gb(K:J1):∀a M Q,(bw K) a M Q->a.length=3:=λa M Q h=>by
 unfold bw at h;split at h
 .rfl
 .exact h.elim
def gR(T:Tx K mg):j6 P w K mg base 5 (cl K "Cutter") "walls_over" (bw K):=by
 refine qY (k:=4) (N:=["self","strip","walls"]) (ps:=["self","strip","walls"]) T.j_ fP (λ_ _ _ _ _ _ us hl=>by let[_,_,_,8]:=SD.wu hl;rfl) (gb K) λf _ _ _ s H _ j=>#[_,(ar (aE (au (lG T).m j (af (bU (Na.of (xs:=["wall"]) (js:=[0,1]) rfl) rfl (aZ (dv 2)) (λ_ _ _ _=>(fy (bW (au (lB T).m j (af (aD (gH (K:=K) rfl (dv 1)) (dv 0)) (af (dv 2) ag)))))) (λ_ _ _ _=>(dv 0))) (af (kI (dv 0)) ag))))),λu M Q h=>?r]
 case r=>
  unfold bw at h
  split at h
  case h_2=>exact h.elim
  let[a,ws,ps,ze,v,la,ab,x,y,W,l,8,8,8,U,n,hl,e,z,k]:=h
  let F:=n.fs
  let S:=n.bd
  refine #[7,iL (Ri ws ps x y) hl () (λV B C d G g=>?_) (λk _ C G g=>#[7,g]) λq t=>?_]
  .exact #[7,a,_,_,7,d _ _ U.ha,T.cl_Cutter,T.na_ends,8,7,_,_,d _ _ U.he,D1 (F.b _ B),7,_,_,_,7,8,7,g]
  .have d:SD.Sub M (av M q (.lst ((W.filter (Ri ws ps x y)).map D.int))):=.new t .refl;refine #[7,a,_,_,7,d _ _ U.ha,T.cl_Cutter,T.na_above,8,q,v,ws,ab,W.filter (Ri ws ps x y),8,8,aj,d _ _ U.ht,U.hab.to λc u h=>d _ _ h,F.filter _,e,z.new t,λI p J s fp L O i=>Nk (k I p J (λc o R h=>s _ _ R (d _ _ h)) (iD d fp) L (O.perm (_)) i)]
theorem cS:N9 ["self","walls","cut","below"] ["self","walls","cut"] (ao bX):=⋯
def bh(K:J1):OE:=λd M Q=>match d with
 |[s,v,u]=>∃(a:k_) (ws:n_) (ps:List Vc) (ze e la:k_) (ab:m_) (x y:Int) (W:ml) (l:k_) (c:Int),s=.ref a/\v=.ref l/\u=.int c/\Cu (cl K "Cutter") M a ws ps ze e la ab/\Wk ws ps x y W/\M l=MW (.lst (W.map D.int))/\ws.length<=40/\c∈W/\
  ∀(b:MH)(p q:k_),SD.Sub M b->M p=MX->M q=MX->b p=MW (.lst ((W.filter λw=>aB ws c w).map D.int))->b q=MW (.lst ((W.filter λw=>aB ws w c).map D.int))->Q (.tup [.ref p,.ref q]) b
 |_=>False
theorem fG(K:J1):∀a M Q,(bh K) a M Q->a.length=3:=λa M Q h=>by
 unfold bh at h;split at h
 .rfl
 .exact h.elim
def fM(T:Tx K mg):j6 P w K mg base 1 (cl K "Cutter") "cut_at_wall" (bh K):=by
 refine qY (k:=0) (N:=["self","walls","cut","below"]) (ps:=["self","walls","cut"]) T.kb cS (λ_ _ _ _ _ _ us hl=>by let[_,_,_,8]:=SD.wu hl;rfl) (fG K) λf _ _ _ s H _ X=>#[_,(aq (iR 3 cS.nd (Na.of (xs:=["wall"]) (js:=[0,2]) rfl) rfl (aZ (dv 1)) (λ_ _ _ _=>(fy (bW (aD (aD (gH (K:=K) rfl (dv 1)) (dv 2)) (dv 0))))) (λ_ _ _ _=>(dv 0))) (ar (aE (aK (af (dv 3) (af (bU (Na.of (xs:=["wall"]) (js:=[0,2]) rfl) rfl (aZ (dv 1)) (λ_ _ _ _=>(fy (bW (aD (aD (gH (K:=K) rfl (dv 1)) (dv 0)) (dv 2))))) (λ_ _ _ _=>(dv 0))) ag)))))),λY M Q h=>?r]
 case r=>
  unfold bh at h
  split at h
  case h_2=>exact h.elim
  let[a,ws,ps,ze,Z,la,ab,x,y,W,l,c,8,8,8,U,B,hl,C,R,k]:=h
  let F:=B.fs
  let wl:=B.bd
  let G:=F.b _ R
  let[ac,i,j]:=U.hab.at G
  refine #[7,iL (λw=>aB ws c w) hl () (λS m n d t e=>?_) (λk _ n t e=>#[7,e]) λp I=>?_]
  .exact #[7,a,_,_,7,d _ _ U.ha,T.cl_Cutter,T.na_above,8,7,_,_,d _ _ U.ht,i,7,_,_,d _ _ j,Gx _ (F.b _ m),7,e]
  let d:SD.Sub M (av M p (.lst ((W.filter λw=>aB ws c w).map D.int))):=.new I .refl
  let g:(av M p (.lst ((W.filter λw=>aB ws c w).map D.int))) p=MW (.lst ((W.filter λw=>aB ws c w).map D.int)):=aj
  generalize av M p (.lst ((W.filter λw=>aB ws c w).map D.int))=J at d g ⊢
  (try dsimp only[SD.aR])
  refine #[7,7,iL (λw=>aB ws w c) (d _ _ hl) () (λS m n V t e=>?_) (λk _ n t e=>#[7,e]) λq L=>?_]
  .obtain⟨ad,u,v⟩:=U.hab.at (F.b _ m);let z:=SD.Sub.trans d V;exact #[7,a,_,_,7,z _ _ U.ha,T.cl_Cutter,T.na_above,8,7,_,_,z _ _ U.ht,u,7,_,_,z _ _ v,Gx _ G,7,e]
  let O:SD.Sub J (av J q (.lst ((W.filter λw=>aB ws w c).map D.int))):=.new L .refl
  exact #[Ng rfl,Nk (k _ p q (λc o h=>O _ _ (d _ _ h)) I (iD d L) (O _ _ g) aj)]
theorem b7:N9 ["self","strip","walls","numbers"] ["self","strip","walls"] (ao bH):=⋯
def aS(K:J1):OE:=λe M Q=>match e with
 |[s,u,v]=>∃(a:k_) (ws:n_) (ps:List Vc) (ze f la:k_) (ab:m_) (x y:Int) (W:ml) (l:k_),s=.ref a/\u=.tup [.int x,.int y]/\v=.ref l/\Cu (cl K "Cutter") M a ws ps ze f la ab/\Nt ws ps/\Wk ws ps x y W/\M l=MW (.lst (W.map D.int))/\ws.length<=5/\ps.length<=10/\
  ∀(d:MH)(p:k_)(b:ml),SD.Sub M d->M p=MX->d p=MW (.lst (b.map D.int))->b.length<=18->(∀c∈b,x<=c/\c<=y-2)->(∀w∈W,∀c,c=pE ws ps w\/c=qE ws ps w->x<=c->c<=y-2->c∈b)->Q (.ref p) d
 |_=>False
theorem dU(K:J1):∀a M Q,(aS K) a M Q->a.length=3:=λa M Q h=>by
 unfold aS at h;split at h
 .rfl
 .exact h.elim
def eD(T:Tx K mg):j6 P w K mg base 1 (cl K "Cutter") "corners_between" (aS K):=by
 refine qY (k:=0) (N:=["self","strip","walls","numbers"]) (ps:=["self","strip","walls"]) T.ke b7 (λ_ _ _ _ _ _ us hl=>by let[_,_,_,8]:=SD.wu hl;rfl) (dU K) λf cdv A outer s H E hr=>#[_,(aq (aI 3 b7.nd (v8 rfl T.ix (Na.of (xs:=["wall","end"]) (js:=[0]) rfl) rfl (aZ (dv 2)) (λ_ _ _ _=>(aZ (aD (gH (K:=K) rfl (dv 2)) (dv 0)))) (λ_ _ _ _=>(dv 1)))) (ar (aE (bU (Na.of (xs:=["number"]) (js:=[1]) rfl) rfl (aZ (dv 3)) (λ_ _ _ _=>(fy (zV (n8 hr.units) (n8 hr.units) (aD (dv 1) ai) (dv 0) (aA br (aD (dv 1) ai) ai)))) (λ_ _ _ _=>(dv 0)))))),λds M Q h=>?r]
 case r=>
  unfold aS at h
  split at h
  case h_2=>exact h.elim
  let[a,ws,ps,ze,tb,la,ab,x,y,W,l,8,8,8,U,E,hW,hl,a0,b0,k]:=h
  let F:=hW.fs
  let wl:=hW.bd
  let t:∀w∈W,pE ws ps w∈W.flatMap (λw=>[pE ws ps w,qE ws ps w])/\qE ws ps w∈W.flatMap (λw=>[pE ws ps w,qE ws ps w]):=λw g=>#[List.mem_flatMap.mpr #[w,g,by simp],List.mem_flatMap.mpr #[w,g,by simp]]
  let S:=iY (f:=λw=>[pE ws ps w,qE ws ps w]) (k:=2) W (λ_ _=>Jo _)
  generalize W.flatMap (λw=>[pE ws ps w,qE ws ps w])=us at t S
  refine #[7,_,hl,by show(W.map D.int).length<=1000;rw[J7];omega,λp L V=>?_]
  exists us,λi ks n=>(∀z∈ks,z∈us)/\(∀w∈W.take i,pE ws ps w∈ks/\qE ws ps w∈ks)/\n=av M p (QI L ks),(),#[(λz h=>nomatch h),(λz h=>by rw[List.take_zero]at h;exact nomatch h),rfl],λi ks n _ q=>by rw[q.2.2];show(av M p _) l=_;rw[ak (aw hl V)];exact hl,?_
  .rintro i ks d n hi hd ⟨O,B,rfl⟩;let[w,ew,8]:=qe hd;let g:=JN ew;let kp:∀{o:MO} c u,M c=MW u->(av M p o) c=MW u:=λc u h=>by rw[ak (aw h V)];exact h
   exists 7,a,_,_,7,kp _ _ U.ha,T.cl_Cutter,T.na_ends,8,7,_,_,kp _ _ U.he,D1 (F.b _ g),[.int (pE ws ps w),.int (qE ws ps w)],8,(():2<=1000);exists λj m n=>(∀z∈m,z∈us)/\(∀w∈W.take i,pE ws ps w∈m/\qE ws ps w∈m)/\(1<=j->pE ws ps w∈m)/\(2<=j->qE ws ps w∈m)/\n=av M p (QI L m),#[O,B,λh=>(),λh=>(),rfl],λj m n _ q=>rfl,?_
   .rintro j m e n hj he ⟨X,R,Y,z4,rfl⟩;let hj:j<2:=hj
    obtain⟨c,rfl,C,c0,c1⟩:∃c,e=.int c/\c∈us/\(j=0->c=pE ws ps w)/\(j=1->c=qE ws ps w):=by
     let he:([.int (pE ws ps w),.int (qE ws ps w)]:ox)[j]?=MW e:=he;rcases(():j=0\/j=1)with rfl|rfl
     .cases he;exact #[7,(t w g).1,λ_=>rfl,λh=>()]
     .cases he;exact #[7,(t w g).2,λh=>(),λ_=>rfl]
    let z5:∀z∈c::m,z∈us:=λz Z=>(JU.mp Z).elim (λh=>h▸C) (X z);refine #[7,c,7,.refl,aj,z5,z5,λv I=>#[JC _ (R v I).1,JC _ (R v I).2],λh=>?_,λh=>?_,by rw[eG]]
    .by_cases j0:j=0
     .rw[c0 j0];exact JW ..
     .exact JC _ (Y ())
    .rw[c1 ()];exact JW ..
   .rintro m n ⟨X,R,Y,z4,rfl⟩;refine #[X,λv I=>?_,rfl];rw[List.take_succ,ew]at I;rcases K5.mp I with h|h
    .exact R v h
    .have:v=w:=‹h›
     subst this;exact #[Y (by show 1<=2;omega),z4 (by show 2<=2;omega)]
  rintro ks n ⟨O,B,rfl⟩
  refine #[aj,O,λz ns Z mm nd _=>?_]
  let B:∀w∈W,pE ws ps w∈ks/\qE ws ps w∈ks:=λw g=>B w (by rw[L8 (by rw[J7];exact Jo _)];exact g)
  let s1:SD.Sub M (av (av M p (QI L ks)) z (.lst (ns.map D.int))):=.new Z (.new V .refl)
  let J:(av (av M p (QI L ks)) z (.lst (ns.map D.int))) z=MW (.lst (ns.map D.int)):=aj
  generalize av (av M p (QI L ks)) z (.lst (ns.map D.int))=M1 at s1 J ⊢
  let ln:ns.length<=18:=K0 (nd.length_le_of_subset λc C=>O c ((mm c).mp C)) ()
  (try dsimp only[SD.aR])
  refine #[7,iL (λc=>decide (x<=c)&&decide (c<=y-2)) J () (λc C M9 sb K2 G=>?_) (λk _ M9 K2 G=>#[7,G]) λq hq=>?_]
  .exists 7,7,7,trivial,7;by_cases z:x<=c
   .rw[ND z,Bool.true_and]at G;rw[NB (ND z)];exact #[7,7,trivial,trivial,7,G]
   .rw[NC z,Bool.false_and]at G;rw[NA (λh=>z (NF h))];exact #[7,G]
  let s2:SD.Sub M1 (av M1 q (.lst ((ns.filter λc=>decide (x<=c)&&decide (c<=y-2)).map D.int))):=.new hq .refl
  let fi:∀c,c∈(ns.filter λc=>decide (x<=c)&&decide (c<=y-2))↔c∈ns/\x<=c/\c<=y-2:=λc=>by simp
  refine Nk (k _ q _ (λc o h=>s2 _ _ (s1 _ _ h)) (iD s1 hq) aj (K0 (Lp ..) ln) (λc C=>((fi c).mp C).2) λw g c ec h1 h2=>(fi c).mpr #[(mm c).mpr ?_,h1,h2])
  rcases ec with rfl|rfl
  .exact(B w g).1
  .exact(B w g).2
theorem jY:N9 ["ends","strip"] ["ends","strip"] (ao dB):=⋯
inductive Oe:Prop
 |mk (p q x y:Int)(_:pa=.tup [.int p,.int q])(_:p3=.tup [.int x,.int y])(_:Q (.bl (decide (p<y-1)&&decide (x<=q))) M)
def kZ(T:Tx K mg):Cal P w K mg base 1 "reaches_into" (OV Oe):=by refine bK (k:=0) T.f' jY λf _ _ _ s H _ b=>#[_,(ar (aE (fo (bL (cY b.units) (aD (dv 0) ai) (aA br (aD (dv 1) ai) ai)) (fR (bL Ds (aD (dv 0) ai) (aD (dv 1) ai)))))),λ_ _ M Q h=>?_];let[p,q,x,y,8,8,k]:=h;refine n9 (decide (p<y-1)) (decide (x<=q)) (λK a=>#[7,7,7,7,trivial,trivial,a]) (λ_ K a=>#[7,7,7,7,trivial,a]) (Nk k)
theorem aY:N9 ["self","strip","walls","cut","strips","ahead","behind"] ["self","strip","walls","cut"] (ao bO):=⋯
def aW(K:J1):OE:=λd M Q=>match d with
 |[s,u,v,e]=>∃(a:k_) (ws:n_) (ps:List Vc) (ze f la:k_) (ab:m_) (x y:Int) (W:ml) (l:k_) (c:Int),s=.ref a/\u=.tup [.int x,.int y]/\v=.ref l/\e=.int c/\Cu (cl K "Cutter") M a ws ps ze f la ab/\Wk ws ps x y W/\M l=MW (.lst (W.map D.int))/\ws.length<=40/\
  ∀(b:MH)(p q:k_),SD.Sub M b->M p=MX->M q=MX->b p=MW (.lst ((W.filter (O5 (pE ws ps) (qE ws ps) x (c+1))).map D.int))->b q=MW (.lst ((W.filter (O5 (pE ws ps) (qE ws ps) (c+1) y)).map D.int))->Q (.tup [.tup [.tup [.int x,.int (c+1)],.ref p],.tup [.tup [.int (c+1),.int y],.ref q]]) b
 |_=>False
theorem eO(K:J1):∀a M Q,(aW K) a M Q->a.length=4:=λa M Q h=>by
 unfold aW at h;split at h
 .rfl
 .exact h.elim
def fj(T:Tx K mg):j6 P w K mg base 2 (cl K "Cutter") "cut_at_corner" (aW K):=by
 refine qY (k:=1) (N:=["self","strip","walls","cut","strips","ahead","behind"]) (ps:=["self","strip","walls","cut"]) T.kr aY (λ_ _ _ _ _ _ us hl=>by let[_,_,_,_,8]:=SD.Io hl;rfl) (eO K) λf _ _ _ s H _ Z=>#[_,(aq (aI 4 aY.nd (aK (af (aK (af (aD (dv 1) ai) (af (aA aP (dv 3) ai) ag))) (af (aK (af (aA aP (dv 3) ai) (af (aD (dv 1) ai) ag))) ag)))) (aq (dj (bU (Na.of (xs:=["part"]) (js:=[2,0]) rfl) rfl (aZ (dv 4)) (λ_ _ _ _=>cw) (λ_ _ _ _=>(bU (Na.of (xs:=["wall"]) (js:=[2,0]) rfl) rfl (aZ (dv 1)) (λ_ _ _ _=>(fy (bW (au (kZ T).m Z (af (aD (gH (K:=K) rfl (dv 1)) (dv 0)) (af (dv 2) ag)))))) (λ_ _ _ _=>(dv 0))))) (AO rfl (aH (aG 5 aY.nd) (aH (aG 6 aY.nd) bS)))) (ar (aE (aK (af (aK (af (aD (dv 4) ai) (af (dv 5) ag))) (af (aK (af (aD (dv 4) ai) (af (dv 6) ag))) ag))))))),λds M Q h=>?r]
 case r=>
  unfold aW at h
  split at h
  case h_2=>exact h.elim
  let[a,ws,ps,ze,tb,la,ab,x,y,W,l,c,8,8,8,8,U,O,hl,R,k]:=h
  let F:=O.fs
  let wl:=O.bd
  (try dsimp only[SD.aR])
  exists 7,7,7,Ng rfl,7,7,7,Ng rfl,Ng rfl
  refine #[7,7,by show 2<=1000000;omega,λq S=>?_]
  exists λi B u=>∃g:m_,B=g.map D.ref/\g.length=i/\SD.Sub M u/\u q=MW (.lst B)/\q∉g/\(∀p∈g,M p=MX)/\(∀p,g[0]?=MW p->u p=MW (.lst ((W.filter (O5 (pE ws ps) (qE ws ps) x (c+1))).map D.int)))/\(∀p,g[1]?=MW p->u p=MW (.lst ((W.filter (O5 (pE ws ps) (qE ws ps) (c+1) y)).map D.int))),#[[],8,8,.new S .refl,aj,by simp,(λp h=>nomatch h),λp h=>(by cases h),λp h=>(by cases h)],λi B u _ q=>rfl,?_
  .rintro i B d u hi hd ⟨g,rfl,j,v,n,I,fr,J,V⟩;let hi:i<2:=hi
   obtain⟨x1,y1,rfl,h0,h1⟩:∃x1 y1,d=.tup [.int x1,.int y1]/\(i=0->x1=x/\y1=c+1)/\(i=1->x1=c+1/\y1=y):=by
    let hd:([.tup [.int x,.int (c+1)],.tup [.int (c+1),.int y]]:ox)[i]?=MW d:=hd;rcases(():i=0\/i=1)with rfl|rfl
    .cases hd;exact #[_,7,λ_=>#[8,rfl],λh=>()]
    .cases hd;exact #[_,7,λh=>(),λ_=>#[8,rfl]]
   exists 7;dsimp only[SD.cT];refine mw ?_;refine #[7,iL (O5 (pE ws ps) (qE ws ps) x1 y1) (v _ _ hl) () (λk1 hk M9 s9 K2 L=>?_) (λk _ M9 K2 L=>#[7,L]) λp G=>?_]
   .have X:=SD.Sub.trans v s9;exact #[7,a,_,_,7,X _ _ U.ha,T.cl_Cutter,T.na_ends,8,7,_,_,X _ _ U.he,D1 (F.b _ hk),7,_,_,_,7,8,7,L]
   .have t:q≠p:=aw n G;refine #[_,.refl,(ak t).trans n,g++[p],by simp,by simp[j],λc o h=>?_,aj,?_,λY h=>?_,λY h=>?_,λY h=>?_]
    .rw[ak (aw h S),ak (aw (v _ _ h) G)];exact v _ _ h
    .simp only[K5,L9,not_or];exact #[I,t]
    .rcases K5.mp h with h|h
     .exact fr _ h
     .rw[L9.mp h];exact iD v G
    .cases g with
     |nil=>
      cases h
      let[8,8]:=h0 j.symm
      exact(ak t.symm).trans aj
     |cons z g=>
      cases h
      let e:=J _ rfl
      rw[ak (λe2=>by subst e2;exact I (JW ..)),ak (aw e G)];exact e
    .match g,j with
     |[],j=>cases h
     |[z],j=>
      cases h
      let[8,8]:=h1 j.symm
      exact(ak t.symm).trans aj
     |_::_::_,j=>simp at j;omega
  rintro B u ⟨g,rfl,j,v,n,I,fr,J,V⟩
  obtain⟨p0,C,rfl⟩:∃p0 C,g=[p0,C]:=by
   match g,j with
   |[p0,C],_=>exact #[p0,C,rfl]
  exists q,7,n,8,_,7,_,7,8
  exact #[7,7,7,Ng rfl,7,7,7,Ng rfl,Ng rfl,Nk (k _ p0 C v (fr _ (_)) (fr _ (_)) (J _ rfl) (V _ rfl))]
theorem aU:N9 ["self","strip","walls","cuts","wall","below","above","corner"] ["self","strip","walls"] (ao cJ):=⋯
def bP(K:J1):OE:=λb M Q=>match b with
 |[s,u,v]=>∃(a:k_) (ws:n_) (ps:List Vc) (ze e la:k_) (ab:m_) (x y:Int) (W:ml) (l:k_),s=.ref a/\u=.tup [.int x,.int y]/\v=.ref l/\Cu (cl K "Cutter") M a ws ps ze e la ab/\Nt ws ps/\Wk ws ps x y W/\M l=MW (.lst (W.map D.int))/\ws.length<=5/\ps.length<=10/\Tb M/\
  ∀(c:MH)(z:k_)(b:ox),cH 244 M c->c z=MW (.lst b)->b.length<=100->(W≠[]->b≠[])->(∀d∈b,wq c ws ps x y W d)->Tb c->Q (.ref z) c
 |_=>False
theorem g8(K:J1):∀a M Q,(bP K) a M Q->a.length=3:=λa M Q h=>by
 unfold bP at h;split at h
 .rfl
 .exact h.elim
def iE(T:Tx K mg):j6 P w K mg base 6 (cl K "Cutter") "all_cuts" (bP K):=by
 refine qY (k:=5) (N:=["self","strip","walls","cuts","wall","below","above","corner"]) (ps:=["self","strip","walls"]) T.kz aU (λ_ _ _ _ _ _ us hl=>by let[_,_,_,8]:=SD.wu hl;rfl) (g8 K) λf cdv A outer s H E hr=>#[_,(aq (aI 3 aU.nd (eE ag)) (aq (ff Ks rfl (aZ (e7 T.cl_Cutter ((gR T).mono ⋯) hr (dv 0) (af (dv 1) (af (dv 2) ag)))) (aG 4 aU.nd) (aq (dj (e7 T.cl_Cutter ((fM T).mono ⋯) hr (dv 0) (af (dv 2) (af (dv 4) ag))) (c6 rfl (aH (aG 5 aU.nd) (aH (aG 6 aU.nd) bS)))) (ar (fx (gf (dv 3) (af (aK (af (aK (af (dv 1) (af (dv 5) ag))) (af (aK (af (dv 1) (af (dv 6) ag))) ag))) ag)))))) (aq (ff Ks rfl (aZ (e7 T.cl_Cutter ((eD T).mono ⋯) hr (dv 0) (af (dv 1) (af (dv 2) ag)))) (aG 7 aU.nd) (ar (fx (gf (dv 3) (af (e7 T.cl_Cutter ((fj T).mono ⋯) hr (dv 0) (af (dv 1) (af (dv 2) (af (dv 7) ag)))) ag))))) (ar (aE (dv 3)))))),λb M Q h=>?r]
 case r=>
  unfold bP at h
  split at h
  case h_2=>exact h.elim
  let[a,ws,ps,ze,tb,la,ab,x,y,W,l,8,8,8,U,E,G,hl,a0,e0,hT,k]:=h
  let F:=G.fs
  let wl:=G.bd
  refine #[Ng rfl,λe m=>?_]
  let S:SD.Sub M (av M e (.lst [])):=.new m .refl
  let I:(av M e (.lst [])) e=MW (.lst []):=aj
  let J:Tb (av M e (.lst [])):=hT.new m
  generalize av M e (.lst [])=M1 at S I J ⊢
  refine #[7,a,7,S _ _ U.ha,8,7,7,a,ws,ps,ze,tb,la,ab,x,y,W,l,8,8,8,U.to (.sub S),G,S _ _ hl,(),J,λM2 p Z s2 f0 V pm b0=>?_]
  let X:=s2 _ _ (J.neL I) I
  let k2:O7 a M M2:=(O7.sub S).trans (O7.F9 K J (S _ _ U.ha) s2)
  let RP:cH 244 M M2:=λc o g h=>s2 _ _ g (S _ _ h)
  let g0:=k2.l _ _ hl
  let U2:=U.to k2
  let sl:Z.length<=5:=by have:=pm.length_eq;have:=Lp (Ri ws ps x y) W;omega
  let c0:=(aw I f0).symm
  exists _,V
  exists λi δ n=>ZA λ(b:ox) (o4 o5 o6:oy)=>Ww (δ=[MW (.ref a),MW (.tup [.int x,.int y]),MW (.ref l),MW (.ref e),o4,o5,o6,MX]) (cH e M2 n) (n e=MW (.lst b)) (b.length=i) (∀d∈b,wq (iV n e) ws ps x y W d),#[[],_,_,7,.refl,X,8,λd h=>nomatch h],λi δ n _ q=>(let⟨_,_,_,_,_,s,_,_,_⟩:=q;s _ _ c0 V),?_
  .rintro i d δ n hi hd ⟨b,o4,o5,o6,rfl,Y,u,B,t⟩;let[c,ec,8]:=qe hd;let O:=pm.mem_iff.mp (JN ec);let[cW,cO]:=Ke.mp O;let li:=(Jp.mp ec).1;let R:O7 a M n:=k2.fresh m Y;(try dsimp only[SD.aR])
   refine #[7,a,7,R.a _ U.ha,8,7,7,a,ws,ps,ze,tb,la,ab,x,y,W,l,c,8,8,8,U.to R,G,R.l _ _ hl,(),cW,λM4 p1 p2 L f1 f2 h1 h2=>?_];let C:=L _ _ u;let n1:=(aw u f1).symm;let n2:=(aw u f2).symm;exists 7,8,_,7,_,7,8;exists 7,e,b,8,C,7,7,Ng rfl,7,7,Ng rfl,Ng rfl,b,7,C,();refine #[_,_,_,7,λc o g h=>by rw[ak g];exact L _ _ (Y _ _ g h),aj,by simp[B],λd hd=>?_];let st:cH e n (av M4 e (.lst (b++[.tup [.tup [.tup [.int x,.int y],.ref p1],.tup [.tup [.int x,.int y],.ref p2]]]))):=λc o g h=>by rw[ak g];exact L _ _ h
   rcases K5.mp hd with hd|hd
   .exact(t d hd).to (nE st)
   .rw[L9.mp hd];refine #[x,y,p1,_,x,y,p2,7,kD ((ak n1).trans h1) n1,kD ((ak n2).trans h2) n2,G.wall E cW ?_];unfold Ri at cO;simpa using cO
  rintro δ M3 ⟨b,o4,o5,o6,rfl,Y,u,B,t⟩
  let B:b.length=Z.length:=by rw[B];exact J7 ..
  let R:O7 a M M3:=k2.fresh m Y
  let h0:Tb M3:=b0.kx (xs:=[e]) (λc o g h=>Y _ _ ‹g› h) (λc O A h=>by
   rw[L9.mp O,X]at h;cases h)
  let Pr:cH 244 M M3:=λc o g h=>Y _ _ (aw h m) (RP _ _ g h)
  clear Y b0 V c0 k2 RP X U2 g0 s2
  refine #[7,a,7,R.a _ U.ha,8,7,7,a,ws,ps,ze,tb,la,ab,x,y,W,l,8,8,8,U.to R,E,G,R.l _ _ hl,a0,e0,λM4 pc cs L fc d0 lc hb hm=>?_]
  let i0:=(aw u fc).symm
  let C:=L _ _ u
  exists _,d0
  exists λi δ n=>Ro λ(b:ox) (o7:oy)=>Ww (δ=[MW (.ref a),MW (.tup [.int x,.int y]),MW (.ref l),MW (.ref e),o4,o5,o6,o7]) (cH e M4 n) (n e=MW (.lst b)) (b.length=Z.length+i) (∀d∈b,wq (iV n e) ws ps x y W d),#[b,7,.refl,C,B,λd h=>(t d h).to (nE λc o _ h=>L _ _ h)],λi δ n _ q=>(let⟨_,_,_,s,_,_,_⟩:=q;s _ _ i0 d0),?_
  .rintro i d δ n hi hd ⟨b,o7,rfl,s5,v,B,t⟩;let[c,ec,8]:=qe hd;let O:=hb _ (JN ec);let li:=(Jp.mp ec).1;let k5:O7 a M n:=(R.trans (.sub L)).fresh m s5;(try dsimp only[SD.aR])
   obtain⟨j,rfl⟩:∃j:Nat,c=(j:Int):=#[c.toNat,by have:=G.x0;omega];refine #[7,e,b,8,v,7,a,7,k5.a _ U.ha,8,7,7,7,a,ws,ps,ze,tb,la,ab,x,y,W,l,7,8,8,8,U.to k5,G,k5.l _ _ hl,(),λM6 p1 p2 s6 f1 f2 h1 h2=>?_];let j0:=s6 _ _ v;let n1:=(aw v f1).symm;let n2:=(aw v f2).symm;exists b,7,j0,();refine #[_,7,λc o g h=>by rw[ak g];exact s6 _ _ (s5 _ _ g h),aj,by simp[B];omega,λd hd=>?_];let st:cH e n (av M6 e (.lst (b++[.tup [.tup [.tup [.int x,.int ((j:Int)+1)],.ref p1],.tup [.tup [.int ((j:Int)+1),.int y],.ref p2]]]))):=λc o g h=>by rw[ak g];exact s6 _ _ h
   rcases K5.mp hd with hd|hd
   .exact(t d hd).to (nE st)
   .rw[L9.mp hd];exact #[x,_,p1,_,_,y,p2,7,kD ((ak n1).trans h1) n1,kD ((ak n2).trans h2) n2,G.qV E O.1 O.2]
  rintro δ M5 ⟨b,o7,rfl,s5,v,B,t⟩
  let B:b.length=Z.length+cs.length:=by rw[B];exact congrArg _ (J7 ..)
  let k0:Tb M5:=(h0.sub L).kx (xs:=[e]) (λc o g h=>s5 _ _ ‹g› h) (λc O A h=>by
   rw[L9.mp O,C]at h;cases h)
  refine #[7,Nk (k _ e b (λc o g h=>s5 _ _ (aw h m) (L _ _ (Pr _ _ g h))) v () (λne=>?_) (λd hd=>(t d hd).to AH) k0)]
  let[w,hw]:=List.exists_mem_of_ne_nil _ ne
  rintro rfl
  let l0:0=Z.length+cs.length:=B
  rcases G.some E hw with z|z|z
  .have:w∈Z:=pm.mem_iff.mpr (Ke.mpr #[hw,by unfold Ri;simpa using z]);have:=List.length_pos_of_mem this;omega
  .have:=List.length_pos_of_mem (hm w hw _ (.inl rfl) z.1 z.2);omega
  .have:=List.length_pos_of_mem (hm w hw _ (.inr rfl) z.1 z.2);omega
theorem bZ:N9 ["self","strip","walls","known","key"] ["self","strip","walls","known"] (ao cb):=⋯
def mO(K:J1)(n:Nat):OE:=λg M Q=>match g with
 |[s,u,v,e]=>∃(a:k_) (ws:n_) (ps:List Vc) (ze h la:k_) (ab:m_) (x y:Int) (W:ml) (l c:k_) (kvs:Of),s=.ref a/\u=.tup [.int x,.int y]/\v=.ref l/\e=.ref c/\Cu (cl K "Cutter") M a ws ps ze h la ab/\Nt ws ps/\Wk ws ps x y W/\M l=MW (.lst (W.map D.int))/\ws.length<=5/\ps.length<=10/\M c=MW (Oq kvs)/\Kv ws ps kvs/\a≠c/\Tb M/\(W.length:Int)+(y-x)<=n/\
  ∀(d:MH)(f:Nat)(b:Of),KpK 244 c M d->d c=MW (Oq b)->Kv ws ps b->Tb d->GW ws ps x y W f->(W=[]->f=0)->Q (.int (f:Int)) d
 |_=>False
theorem CP(K:J1)(n:Nat):∀a M Q,mO K n a M Q->a.length=4:=λa M Q h=>by
 unfold mO at h;split at h
 .rfl
 .exact h.elim
def gh(K:J1):OE:=mO K 16
theorem HI(T:Tx K mg):∀n:Nat,j6 P w K mg base (n+7) (cl K "Cutter") "fewest_for" (mO K n)
 |0=>by
  refine qY (k:=6) (N:=["self","strip","walls","known","key"]) (ps:=["self","strip","walls","known"]) T.kS bZ (λ_ _ _ _ _ _ us hl=>match us,hl with|[_,_,_,_],_=>rfl) (CP K 0) λf cdv A outer s H E X=>#[_,m5,λds M Q h=>?r]
  case r=>
   unfold mO at h
   split at h
   case h_2=>exact h.elim
   let[a,ws,ps,ze,tb,la,ab,x,y,W,l,v,kvs,8,8,8,8,U,E,hW,hl,u,L,Y,hv,ne,hT,hn,k]:=h
   have:=hW.xy
   omega
 |n+1=>by
  let ih:=HI T n
  refine qY (k:=n+7) (N:=["self","strip","walls","known","key"]) (ps:=["self","strip","walls","known"]) T.kS bZ (λ_ _ _ _ _ _ us hl=>match us,hl with|[_,_,_,_],_=>rfl) (CP K (n+1)) λf cdv A outer s H E X=>#[_,(aq (bz (jk (Fl (dv 2))) (ar (aE ai)) aN)
   (aq (aI 4 bZ.nd (aK (af (dv 1) (af (eK qt rfl T.i3 qz (af (dv 2) ag)) ag))))
   (aq (bz (rH (md X) (dv 4) (dv 3)) (ar (zz (md X) (dv 3) (dv 4) (aA aP ai (aF (Bs rfl X.units) rfl T.h_ qH (af (bU (Na.of (xs:=["parts"]) (js:=[0,3]) rfl) rfl (aZ (e7 T.cl_Cutter ((iE T).mono ()) X (dv 0) (af (dv 1) (af (dv 2) ag)))) (λ_ _ _ _=>cw) (λ_ _ _ _=>(aF (CA rfl X.units) rfl T.h7 rT (af (lZ (Na.of (xs:=["part","left"]) (js:=[1,2]) rfl) rfl (aZ (dv 0)) (λ_ _ _ _=>cw) (λ_ _ _ _=>(e7 T.cl_Cutter ih X (dv 2) (af (dv 0) (af (dv 1) (af (dv 3) ag)))))) ag)))) ag))))) aN)
   (ar (aE (xN (md X) (dv 3) (dv 4) (by intro _ _;with_unfolding_all rfl))))))),λds M Q h=>?r]
  case r=>
   unfold mO at h
   split at h
   case h_2=>exact h.elim
   let[a,ws,ps,ze,tb,la,ab,x,y,W,l,v,kvs,8,8,8,8,U,E,hW,hl,u,L,Y,hv,ne,hT,hn,k]:=h
   let xy:=hW.xy
   let wl:=hW.bd
   refine #[7,l,7,hl,cD (λe=>?_) (λe=>?_)]
   .have e:W=[]:=by
     cases W with
     |nil=>rfl
     |cons _ _=>cases e
    subst e
    exact Nk (k M 0 kvs (λc o _ _ h=>h) Y hv hT (GG.nil ()) λ_=>rfl)
   let Z:W≠[]:=λz=>by subst z;exact e rfl
   clear e
   (try dsimp only[SD.aR])
   exists 7,7,_,hl,Ng rfl
   exists 7,7,v,kvs,([x,y],W),8,8,Y,7
   cases ev:dh kvs ([x,y],W)with
   |some d=>
    refine jE rfl ?_
    let[f,8,g]:=hv.val ev
    exact #[7,7,v,kvs,([x,y],W),7,8,Y,ev,Nk (k M f kvs (λc o _ _ h=>h) Y hv hT g λz=>absurd z Z)]
   |none=>
    refine zw rfl ?_
    refine #[7,a,7,U.ha,8,7,7,a,ws,ps,ze,tb,la,ab,x,y,W,l,8,8,8,U,E,hW,hl,u,L,hT,λM1 z cs s1 hz t0 nz n0 a0=>?_]
    let k1:=O7.F9 K hT U.ha s1
    let o0:=hT.neD K P w Y
    let O:=s1 _ _ o0 Y
    let U1:=U.to k1
    refine #[cs,hz,by show cs.length<=1000000;omega,λq hq=>?_]
    let h0:q≠v:=(aw O hq).symm
    exists λi ys B=>∃(ns:ml) (b:Of),ys=ns.map D.int/\ns.length=i/\(∀m∈ns,∃f:Nat,m=(f:Int)/\GW ws ps x y W (1+f))/\(∀c o,c≠244->c≠v->c≠q->M1 c=MW o->B c=MW o)/\B q=MW (.lst ys)/\B v=MW (Oq b)/\Kv ws ps b/\Tb B,#[[],kvs,8,8,(λm h=>nomatch h),λc o _ _ nc h=>by rw[ak nc];exact h,aj,by rw[ak h0.symm];exact O,hv,a0.new hq],λi ys B _ q9=>?_,?_
    .obtain⟨_,_,_,_,_,s,_⟩:=q9
     exact(O7.kx3 K a0 U1.ha O ne hq s).l _ _ hz
    .rintro i ys d M2 hi hd ⟨ns,C,rfl,nl,b0,s2,c0,t,R,F⟩
     let[x1,y1,p1,W1,x2,y2,p2,W2,8,h1,h2,cut]:=n0 d (JN hd)
     let k2:=O7.kx3 K a0 U1.ha O ne hq s2
     let U2:=U1.to k2
     let h1:=k2.l _ _ h1
     let h2:=k2.l _ _ h2
     exists 7
     dsimp only[SD.cT]
     refine mw ?_
     refine #[7,7,by show 2<=1000000;omega,λq2 p=>?_]
     let G:q2≠v:=(aw t p).symm
     exists λj zs B=>∃(ms:ml) (b:Of),zs=ms.map D.int/\ms.length=j/\(∀m,ms[0]?=MW m->∃f:Nat,m=(f:Int)/\GW ws ps x1 y1 W1 f)/\(∀m,ms[1]?=MW m->∃f:Nat,m=(f:Int)/\GW ws ps x2 y2 W2 f)/\(∀c o,c≠244->c≠v->c≠q2->M2 c=MW o->B c=MW o)/\B q2=MW (.lst zs)/\B v=MW (Oq b)/\Kv ws ps b/\Tb B,#[[],C,8,8,(λm h=>by cases h),(λm h=>by cases h),λc o _ _ nc h=>by rw[ak nc];exact h,aj,by rw[ak G.symm];exact t,R,F.new p],λi ys B _ q9=>rfl,?_
     .rintro j zs d M3 hj hd ⟨ms,I,rfl,J,m0,m1,s3,S,d0,e0,V⟩
      let hj:j<2:=hj
      let k3:=O7.kx3 K F U2.ha t ne p s3
      let U3:=U2.to k3
      obtain⟨xi,yi,pi,Wi,rfl,hp,wk,lt,j0,j1⟩:∃(xi yi:Int) (pi:k_) (Wi:ml),d=.tup [.tup [.int xi,.int yi],.ref pi]/\M3 pi=MW (.lst (Wi.map D.int))/\Wk ws ps xi yi Wi/\(Wi.length:Int)+(yi-xi)<W.length+(y-x)/\(j=0->∀f,GW ws ps xi yi Wi f->GW ws ps x1 y1 W1 f)/\(j=1->∀f,GW ws ps xi yi Wi f->GW ws ps x2 y2 W2 f):=by
       let hd:([.tup [.tup [.int x1,.int y1],.ref p1],.tup [.tup [.int x2,.int y2],.ref p2]]:ox)[j]?=MW d:=hd
       rcases(():j=0\/j=1)with rfl|rfl
       .cases hd;exact #[_,_,_,W1,8,k3.l _ _ h1,cut.w1,cut.m1,λ_ _ h=>h,λh=>()]
       .cases hd;exact #[_,_,_,W2,8,k3.l _ _ h2,cut.w2,cut.m2,λh=>(),λ_ _ h=>h]
      exists _,#[7,8,rfl]
      dsimp only[SD.cT]
      refine mw ?_
      refine #[7,a,7,U3.ha,8,7,7,7,a,ws,ps,ze,tb,la,ab,xi,yi,Wi,pi,v,I,8,8,8,8,U3,E,wk,hp,u,L,d0,e0,ne,V,(),λM4 f i0 s4 q0 r0 s0 g _=>?_]
      let k0:=s4 _ _ (V.neL S) G S
      refine #[M4,.refl,k0,ms++[(f:Int)],i0,by simp,by simp[J],λm h=>?_,λm h=>?_,λc o n1 n2 n3 h=>?_,aj,?_,r0,s0.upd k0]
      .cases ms with
       |nil=>cases h;exact #[f,8,j0 J.symm f g]
       |cons z ms=>cases h;exact m0 _ rfl
      .match ms,J with
       |[],J=>cases h
       |[z],J=>cases h;exact #[f,8,j1 J.symm f g]
       |_::_::_,J=>simp at J;omega
      .rw[ak n3];exact s4 _ _ n1 n2 (s3 _ _ n1 n2 n3 h)
      .rw[ak G.symm];exact q0
     rintro zs M3 ⟨ms,I,rfl,J,m0,m1,s3,S,d0,e0,V⟩
     obtain⟨u0,u1,rfl⟩:∃u0 u1,ms=[u0,u1]:=by
      match ms,J with
      |[u0,u1],_=>exact #[u0,u1,rfl]
     let[f0,8,g0]:=m0 _ rfl
     let[f1,8,g1]:=m1 _ rfl
     let k3:=O7.kx3 K F U2.ha t ne p s3
     let l0:=k3.l _ _ c0
     refine #[(f0:Int),(f1:Int),S,M3,.refl,l0,ns++[max (f0:Int) (f1:Int)],I,by simp,by simp[nl],λm h=>?_,λc o n1 n2 n3 h=>?_,aj,?_,e0,V.upd l0]
     .rcases K5.mp h with h|h
      .exact b0 m h
      .rw[L9.mp h]
       exact #[max f0 f1,(),cut.g f0 f1 g0 g1]
     .rw[ak n3];exact s3 _ _ n1 n2 (aw (s2 _ _ n1 n2 n3 h) p) (s2 _ _ n1 n2 n3 h)
     .rw[ak h0.symm];exact d0
    rintro ys M2 ⟨ns,C,rfl,nl,b0,s2,c0,t,R,F⟩
    refine #[ns,c0,λz=>nz Z (KR.mp (by rw[<-show ns.length=cs.length from nl,z];rfl)),λm hm=>?_]
    let[f,8,g]:=b0 m hm
    let kl:=R.len u L
    exists 7,7,v,C,([x,y],W),8,8,t,()
    let ei:((1:Int)+(f:Int))=((1+f:Nat):Int):=()
    rw[ei]
    refine #[7,7,v,_,([x,y],W),7,8,aj,vF _ _,Nk (k _ (1+f) _ (λc o n1 n2 h=>?_) aj (R.put hW g) (F.dc K P w t λc o nc h=>by rw[ak nc];exact h) g λz=>absurd z Z)]
    rw[ak n2]
    exact s2 _ _ n1 n2 (aw (s1 _ _ n1 h) hq) (s1 _ _ n1 h)
theorem gT(T:Tx K mg):j6 P w K mg base 23 (cl K "Cutter") "fewest_for" (gh K):=HI T 16
theorem jz:N9 ["plot","cutter"] ["plot"] (ao lP):=⋯
inductive PD(u:D)(M:MH)(Q:DK):Prop
 |mk (t b X Y:Int)(ws:n_)(hh0:u=.tup (ws.map (Nm t b X Y)))(hh1:PB t b X Y)(hh2:ws.length<=5)(hh3:(∀w∈ws,OB w))(hh4:PF ws)(hh5:Tb M)(hh6:∀(M':MH)(f:Nat),cH 244 M M'->Tb M'->(ws=[]->f=0)->(ws≠[]->3<=f/\ws.length+(OA ws ws.length).length<2^f)->f<=16->Q (.int (f:Int)) M'):PD u M Q
def gI:OE:=λa M Q=>match a with
 |[u]=>PD u M Q
 |_=>False
theorem vP:∀a M Q,gI a M Q->a.length=1:=λa M Q h=>by
 unfold gI at h;split at h
 .rfl
 .exact h.elim
def xV(T:Tx K mg):Cal P w K mg base 24 "fewest" gI:=by
 refine Ag (k:=23) T.gi jz (λ_ _ _ _ _ _ us hl=>by let[_,8]:=SD.vy hl;rfl) vP λf cdv A outer s H E v=>#[_,(aq (bz (aO (dI v.units) (aF bD rfl T.hV bG (af (dv 0) ag)) (pb rfl T.g_MOST_FOR_FEWEST)) (ar qh) aN) (aq (aI 1 jz.nd (AU ((iH T).mono ⋯) v (af (dv 0) ag))) (ar (aE (e7 T.cl_Cutter ((gT T).mono ⋯) v (dv 1) (af (kI (dv 1)) (af (kI (dv 1)) (af Ae ag)))))))),λds M Q h=>?r]
 case r=>
  unfold gI at h
  split at h
  case h_2=>exact h.elim
  let[t,b,X,Y,ws,8,S,i,hU,hF,I,k]:=h
  let J:(ws.map (Nm t b X Y)).length=ws.length:=J7 ..
  refine #[7,trivial,7,jE (by rw[J];exact NC ()) ?_]
  refine #[7,λa ha=>?_]
  let x:Tb (av M a (cm (cl K "Cutter") [])):=I.new ha
  let L:SD.Sub M (av M a (cm (cl K "Cutter") [])):=.new ha .refl
  refine #[a,t,b,X,Y,ws,8,8,aj,S,(),hU,λn ps ze N la ab D U l up=>#[8,?_]]
  let y:Tb n:=x.ins K aj D
  let nd:ps.Nodup:=up.imp λz e=>by subst e;exact nZ _ z
  let he:∀w∈ws,ea w∈ps/\eb w∈ps:=λw O=>by let[j,p]:=List.getElem?_of_mem O;exact #[l.mem_iff.mpr ((fu _).mpr #[j,w,(Jp.mp p).1,p,.inl rfl]),l.mem_iff.mpr ((fu _).mpr #[j,w,(Jp.mp p).1,p,.inr rfl])]
  let E:Nt ws ps:=#[hU,hF,up,he]
  let pl:ps.length<=10:=by have:=l.length_eq;have:=dX ws ws.length;omega
  let m:cH 244 M n:=λc o q h=>D _ _ (aw h ha) (L _ _ h)
  (try dsimp only[SD.aR])
  exists 7,a,7,U.ha,8
  exists 7,a,_,_,7,U.ha,T.cl_Cutter,T.na_whole_strip,8
  refine #[7,a,_,_,7,U.ha,T.cl_Cutter,T.na_all_walls,8,λF d=>?_]
  let B:SD.Sub n (av n F (Oq [])):=.new d .refl
  refine #[a,ws,ps,ze,N,la,ab,0,(ps.length:Int)+1,rng ws.length,la,F,[],8,8,8,8,U.to (.sub B),E,.all E,B _ _ U.hl,i,pl,aj,.nil,aw U.ha d,y.new d,by rw[fv];omega,λR f kvs V _ _ C g W=>?_]
  let G:=GW.all E (FO λu Z=>l.mem_iff.mp Z) g
  let pe:=l.length_eq
  refine Nk (k R f (λc o q h=>V _ _ q (aw (m _ _ q h) d) (B _ _ (m _ _ q h))) C (λz=>W ?_) (λne=>#[G.2.1 ne,()]) ())
  subst z;rfl
def fg(K:J1):qQ:=λd M R=>match d with
 |[u]=>∃(t b X Y:Int) (ws:n_),u=.tup (ws.map (Nm t b X Y))/\5<ws.length/\ws.length<=40/\∀a c,SD.Sub M a->a c=MW (wM [("count",.int (ws.length:Int))])->R (cl K "TooMany") (MW c) a
 |_=>False
theorem rY(K:J1):∀a M Q,fg K a M Q->a.length=1:=λa M Q h=>by
 unfold fg at h;split at h
 .rfl
 .exact h.elim
def zQ(T:Tx K mg):mF P w K mg base 24 "fewest" (fg K):=by
 refine GX (k:=23) (N:=["plot","cutter"]) (ps:=["plot"]) T.gi jz (λ_ _ _ _ _ _ us hl=>match us,hl with|[_],_=>rfl) (rY K) λf cdv A outer s H E R e hE=>#[_,(aq (bz (aO (dI e.units) (aF bD rfl T.hV bG (af (dv 0) ag)) (pb rfl T.g_MOST_FOR_FEWEST)) (ar (wj hE ((qS T).mono ⋯) e (af (aF bD rfl T.hV bG (af (dv 0) ag)) ag))) aN)
  m5),λl M h=>?r]
 case r=>
  unfold fg at h
  split at h
  case h_2=>exact h.elim
  let[t,b,X,Y,ws,8,m,g,k]:=h
  let a:(ws.map (Nm t b X Y)).length=ws.length:=J7 ..
  let j:∀d∈[D.int ((ws.map (Nm t b X Y)).length:Nat)],Qv ["count"] d:=λd hd=>by rw[L9.mp hd,a];exact .int () ()
  refine #[7,trivial,7,zw (by rw[a];exact ND ()) ?_]
  exists 7
  refine #[8,(⋯:1<=1000),j,λi c=>?_]
  show R _ _ (av M i (wM [("count",D.int ((ws.map (Nm t b X Y)).length:Nat))]))
  rw[a]
  exact k _ i (.new c .refl) aj
theorem jg:N9 ["_law_e"] ["_law_e"] (ao di):=⋯
def b4(K:J1):OE:=λb M Q=>match b with
 |[x]=>∃(a:k_) (c:Option k_),x=.ref a/\M a=MW (jX (cl K "TooMany") c)/\Q (.bl MZ) M
 |_=>False
theorem jC(K:J1):∀a M Q,(b4 K) a M Q->a.length=1:=λa M Q h=>by
 unfold b4 at h;split at h
 .rfl
 .exact h.elim
def j4(T:Tx K mg):Cal P w K mg base 1 "_law_of_others" (b4 K):=by
 refine Ag (k:=0) T.gw jg (λ_ _ _ _ _ _ us hl=>by let[_,8]:=SD.vy hl;rfl) (jC K) λf _ _ _ s H _ g=>#[_,(ar (aE (GV (aF (cx (K:=K) rfl) rfl T.hQ bE (af (dv 0) (af (aK (af (gZ rfl T.r_Absent) (af (gZ rfl T.r_Crossing) (af (gZ rfl T.r_NoFraction) (af (gZ rfl T.r_NoRow) (af (gZ rfl T.r_NoText) (af (gZ rfl T.r_NoWall) ag))))))) ag))) (fR (xa (aF (cx (K:=K) rfl) rfl T.hQ bE (af (dv 0) (af (pI rfl T.gS mx) ag)))))))),λi M Q h=>?r]
 case r=>
  unfold b4 at h
  split at h
  case h_2=>exact h.elim
  let[a,j,8,b,k]:=h
  let e:PySem.W.kitAny K (.ref (cl K "TooMany")) ([cl K "Absent",cl K "Crossing",cl K "NoFraction",cl K "NoRow",cl K "NoText",cl K "NoWall"].map JV)=MW MZ:=uc λc d=>by
   simp only[J9,L7,JU,List.not_mem_nil,or_false]at d;rcases d with rfl|rfl|rfl|rfl|rfl|rfl
   .exact T.ki_TooMany_Absent
   .exact T.ki_TooMany_Crossing
   .exact T.ki_TooMany_NoFraction
   .exact T.ki_TooMany_NoRow
   .exact T.ki_TooMany_NoText
   .exact T.ki_TooMany_NoWall
  refine #[7,Ng rfl,.inr #[a,_,_,_,7,b,T.ek_TooMany,e,?_]]
  exists 7
  refine jE (by rfl) ?_
  refine #[7,.inl (.inr #[a,_,_,_,_,7,b,T.ek_TooMany,8,T.kv_TooMany,?_])]
  exact #[7,Nk k]
theorem a9:N9 ["_law_plot_here","_law_corners_here","_law_found","_law_kept","_law_e","_law_room","_law_k"] ["_law_plot_here","_law_corners_here"] (ao f7):=⋯
inductive PN:Prop
 |mk (t b X Y:Int)(ws:n_)(c:Nat)(_:pa=.tup (ws.map (Nm t b X Y)))(_:p3=.int (c:Int))(_:PB t b X Y)(_:ws.length<=40)(_:(∀w∈ws,OB w))(_:PF ws)(_:Tb M)(_:(ws.length<=5->c=(OA ws ws.length).length))(_:∀M':MH,cH 244 M M'->Tb M'->Q (.bl MY) M')
def jM(T:Tx K mg):Cal P w K mg base 25 "_law_right" (OV PN):=by
 refine bK (k:=24) T.gx a9 λf _ _ _ s H _ g=>#[_,(aq (aI 2 a9.nd oH) (aq (aI 3 a9.nd oH) (aq (BA 4 a9.nd T.e_SpotError T.r_SpotError T.eb_SpotError (ar (aI 2 a9.nd (au (xV T).m g (af (dv 0) ag)))) (B5 (vB ((zQ T).mono ⋯) g (af (dv 0) ag)) rfl) (λ_=>(ar (aI 3 a9.nd (dv 4))))) (aq (bz (aO (dI g.units) (aF bD rfl T.hV bG (af (dv 0) ag)) ai) (aq (bz (sF (pX (jk (bW (aF (cx (K:=K) rfl) rfl T.hQ bE (af (dv 3) (af (gZ rfl T.r_TooMany) ag))))) (pX (bW (au (j4 T).m g (af (dv 3) ag))) (sW (bW (aF (cx (K:=K) rfl) rfl T.hQ bE (af (nQ (dv 3)) (af (pI rfl T.hH uJ) ag)))))))) (ar (aE iJ)) aN) (ar (aE (fo (bL GL (dv 2) oH) (fo (bL (dn g.units) (nQ (dv 3)) (aF bD rfl T.hV bG (af (dv 0) ag))) (fR (aF (cx (K:=K) rfl) rfl T.hQ bE (af (nQ (dv 3)) (af (pI rfl T.hL ot) ag))))))))) aN) (aq (bz (sF (pX (aO zg (dv 3) oH) (pX (jk (bW (aF (cx (K:=K) rfl) rfl T.hQ bE (af (dv 2) (af (pI rfl T.hL ot) ag))))) (sW (bW (aF (cx (K:=K) rfl) rfl T.hQ bE (af (dv 2) (af (pI rfl T.hH uJ) ag)))))))) (ar (aE iJ)) aN) (aq (bz (aO (dn g.units) (aF bD rfl T.hV bG (af (dv 0) ag)) ai) (ar (aE (bL (dn g.units) (dv 2) ai))) aN) (aq (aI 5 a9.nd ai) (aq (oO Ks rfl rfl T.ia (af (dv 2) ag) (aG 6 a9.nd) (ar (aI 5 a9.nd (aA aV ai (dv 5))))) (ar (aE (fo (bL (dI g.units) (dv 2) ai) (fR (bL (dI g.units) (dv 5) (aA aP (aF bD rfl T.hV bG (af (dv 0) ag)) (dv 1))))))))))))))),λ_ _ M Q h=>?_];let[t,b,X,Y,ws,c,8,8,S,u,hU,hF,F,N,k]:=h;let v:(ws.map (Nm t b X Y)).length=ws.length:=J7 ..;by_cases G:ws.length<=5
 .refine .inl #[7,t,b,X,Y,ws,8,S,G,hU,hF,F,λn f I x O R W=>?_];(try dsimp only[SD.aR])
  refine #[7,trivial,7,jE (by rw[v];exact NC ()) ?_];walk_at "u"
  refine Wy MZ MZ (λj d=>?_) (λ_ j d=>?_) (jE rfl ?_)
  .exact #[7,7,7,d]
  .refine Wy MZ MZ (λq a=>#[7,.inl (.inl #["int",MY,8,8,7,a])]) (λ_ q a=>#[7,.inl (.inl #["int",MZ,8,8,7,a])]) d
  exists 7,7;refine cD (λe=>?_) (λe=>?_)
  .have U:ws.length=0:=by rw[v]at e;have:=NF e;omega
   let z:=O (KR.mp U);subst z;exact #[7,Nk (k n I x)]
  let ne:ws≠[]:=λz=>by subst z;exact e rfl
  let[Z,fl]:=R ne;let c5:=N G;exists 7,f,8,(),λi δ r=>r=n/\∃y:oy,δ=[MW (.tup (ws.map (Nm t b X Y))),MW (.int (c:Int)),MW (.int (f:Int)),MW .non,MX,MW (.int ((2^i:Nat):Int)),y],#[8,7],?_
  .rintro i δ r hi ⟨rfl,y,rfl⟩;(try dsimp only[SD.aR])
   exists 7,bC ⋯,8,MW (.int (i:Int));let e2:(2:Int)*((2^i:Nat):Int)=((2^(i+1):Nat):Int):=by rw[Nat.pow_succ];omega
   show([MW (.tup (ws.map (Nm t b X Y))),MW (.int (c:Int)),MW (.int (f:Int)),MW .non,MX,MW (.int ((2:Int)*((2^i:Nat):Int))),MW (.int (i:Int))]:oi)=_;rw[e2]
  .rintro δ r ⟨rfl,y,rfl⟩;walk_at "u"
   refine n9 MY MY (λj d=>?_) (λ_ j d=>?_) (Nk (k r I x))
   .exists 7,trivial;show j (.bl (decide ((2:Int)<(f:Int)))) r;rw[ND ()];exact d
   .exists 7,7,7,trivial;show j (.bl (decide (((ws.map (Nm t b X Y)).length:Int)+(c:Int)<((2^f:Nat):Int)))) r;rw[v,ND ()];exact d
 .refine .inr #[7,t,b,X,Y,ws,8,(),u,λn l V J=>#[T.es_TooMany_SpotError,λe he=>?_]];let hE:(av n e (jX (cl K "TooMany") (MW l))) e=MW (jX (cl K "TooMany") (MW l)):=aj;let hF:(av n e (jX (cl K "TooMany") (MW l))) l=MW (wM [("count",.int (ws.length:Int))]):=by rw[ak (aw J he)];exact J
  let p:SD.Sub M (av n e (jX (cl K "TooMany") (MW l))):=.new he V;generalize av n e (jX (cl K "TooMany") (MW l))=L at hE hF p ⊢;exists 7;(try dsimp only[SD.aR])
  refine #[7,trivial,7,zw (by rw[v];exact ND ()) ?_];walk_at "u"
  let B:Rp K (cl K "TooMany") "count":=#[T.ek_TooMany.c,T.hd_TooMany,T.fn_TooMany_count];let C:Qv ["count","count"] (.int (ws.length:Int)):=.int () ();refine Wy MZ MZ (λj d=>#[7,.inl (.inr #[e,_,_,_,_,7,hE,T.ek_TooMany,8,T.ki_TooMany_TooMany,7,d])]) (λ_ j d=>?_) (jE rfl ?_)
  .refine Wy MZ MZ (λq a=>#[7,e,7,hE,7,a]) (λ_ q a=>#[7,e,_,l,_,7,hE,hF,B,8,C,.inl (.inl #["int",MZ,8,8,7,a])]) d
  refine n9 MY MY (λj d=>#[7,7,d]) (λ_ j d=>?_) (Nk (k L (λc o _ h=>p _ _ h) (F.sub p)))
  .refine n9 MY MY (λq a=>#[7,e,_,l,_,7,hE,hF,B,8,C,7,?_]) (λ_ q a=>#[7,e,_,l,_,7,hE,hF,B,8,C,.inl (.inl #["int",MY,8,8,a])]) d;show q (.bl (decide ((ws.length:Int)=((ws.map (Nm t b X Y)).length:Nat)))) L;rw[v,ND rfl];exact a
theorem cF:N9 ["_law_shuts","_law_found","_law_shut"] ["_law_shuts"] (ao ef):=⋯
inductive Oj:Prop
 |mk (l:k_)(g h:Int)(ws:n_)(_:pa=.ref l)(_:Gs g h)(_:M l=MW (.lst (ws.map (Nj g h))))(_:(∀w∈ws,OB w))(_:ws.length<=40)(_:(OA ws ws.length).length<64)(_:∀(M':MH)(z:k_)(ps:List Vc),SD.Sub M M'->M z=MX->M' z=MW (.lst (ps.map (gp g h)))->ps.Perm (OA ws ws.length)->ps.Pairwise ON->Q (.ref z) M')
def eF(T:Tx K mg):Cal P w K mg base 1 "_law_corners" (Ru Oj):=by
 refine pZ (k:=0) T.gy cF λf _ _ _ s H _ W=>#[_,(aq (aI 1 cF.nd (eE ag)) (aq (ff Ks rfl (aZ (dv 0)) (aG 2 cF.nd) (ar (aI 1 cF.nd (aA aP (dv 1) (bU (Na.of (xs:=["_law_spot"]) (js:=[1]) rfl) rfl (aZ (dv 2)) (λ_ _ _ _=>(fy (aO (lh (md W)) (dv 0) (dv 1) (by with_unfolding_all rfl)))) (λ_ _ _ _=>(dv 0))))))) (ar (aE (aF vS rfl T.ix jq (af (dv 1) ag)))))),λ_ M Q h=>?_];let[l,g,h,ws,8,G,hl,hU,O,y,k]:=h;refine #[Ng rfl,λc p=>?_];refine #[7,ws.map (Nj g h),(by show(av M c _) l=_;rw[ak (aw hl p)];exact hl),?_];exists λj δ m=>Ro λ(c:k_) (B:oy)=>δ=[MW (.ref l),MW (.ref c),B]/\SD.Sub M m/\m c=MW (.lst (((OA ws j).map (gq g h)).map OW)),#[c,7,.new p .refl,aj],λj δ m _ q=>let⟨_,_,_,s,_⟩:=q;s _ _ hl,?_
 .rintro j d δ m hj hd ⟨c,B,rfl,x,b⟩;let hd:(ws.map (Nj g h))[j]?=MW d:=hd;rw[JI]at hd;cases r:ws[j]? with
  |none=>rw[r]at hd;cases hd
  |some w=>
   rw[r]at hd
   cases hd
   let jw:j<ws.length:=(Jp.mp r).1
   let X:=hU w (JN r)
   let Y:=dX ws j
   let ne:gq g h (ea w)≠gq g h (eb w):=λe=>X.eab (sL G.g0 e)
   let e:(OA ws (j+1)).map (gq g h)=cU (cU ((OA ws j).map (gq g h)) (gq g h (ea w))) (gq g h (eb w)):=by
    rw[uF G.g0,uF G.g0]
    show(match ws[j]? with|some w=>cU (cU (OA ws j) (ea w)) (eb w)|none=>OA ws j).map (gq g h)=_
    rw[r]
   rw[e]
   let lq:((OA ws j).map (gq g h)).length<=2*j:=by rw[J7];exact Y
   clear e
   generalize (OA ws j).map (gq g h)=us at b lq ⊢
   refine #[7,7,[OW (gq g h (ea w)),OW (gq g h (eb w))],8,nD (λC=>if C=0 then(if gq g h (ea w)∈us then MX else MW (OW (gq g h (ea w))))else(if gq g h (eb w)∈us then MX else MW (OW (gq g h (eb w))))) (Ng rfl) (λ_ _ _=>rfl) ?_ (λF i=>?_)]
   .intro a d M6 ha hd I;let ha:a<2:=ha
    obtain⟨u,rfl,R⟩:∃u,d=OW u/\(if a=0 then(if gq g h (ea w)∈us then MX else MW (OW (gq g h (ea w))))else(if gq g h (eb w)∈us then MX else MW (OW (gq g h (eb w)))))=(if u∈us then MX else MW (OW u)):=by
     let hd:([OW (gq g h (ea w)),OW (gq g h (eb w))]:ox)[a]?=MW d:=hd;rcases(():a=0\/a=1)with rfl|rfl
     .cases hd;exact #[7,rfl]
     .cases hd;exact #[7,rfl]
    refine #[7,λK n=>?_,λv t K n=>?_]
    .rw[R]at n;refine #[7,7,E6 u _ _ (I _ _ b) #[7,?_]];by_cases h:u∈us
     .rw[NB h]at n;rw[ND h];exact n
     .rw[NA h]at n;rw[NC h];exact n
    .rw[R]at t;by_cases h:u∈us
     .rw[NB h]at t;cases t
     .rw[NA h]at t;cases t;exact #[7,n _ .refl]
   .have J:∀{G},(av m F G) c=MW (.lst (us.map OW)):=λ{G}=>by rw[ak (aw b i)];exact b
    let S:=List.length_filterMap_le (λC:Nat=>if C=0 then(if gq g h (ea w)∈us then MX else MW (OW (gq g h (ea w))))else(if gq g h (eb w)∈us then MX else MW (OW (gq g h (eb w))))) (JM 2);rw[MG]at S;refine #[_,_,J,aj,?_,λq Z=>#[q,7,.new Z (.new i x),?_]]
    .have sz:1000000<=JJ:=Ng rfl;rw[J7];exact K0 (Nat.add_le_add_left S _) ()
    .rw[aj];exact congrArg (λz=>MW (MO.lst z)) (Cv us _ _ ne)
 .rintro δ m ⟨c,B,rfl,x,b⟩;let b:m c=MW (.lst (((OA ws (ws.map (Nj g h)).length).map (gq g h)).map OW)):=b;rw[J7]at b;let U:∀u∈OA ws ws.length,OO u:=CO hU;refine #[7,_,b,F6 G U (nH ws _) y,λz vs V pm up=>?_];let[ps,8,L,N]:=Bz G U pm up;exact Nk (k _ z ps (.new V x) (by cases e:M z with|none=>rfl|some o=>have:=x _ _ e;rw[V]at this;cases this) (by rw[aj,Fb]) L N)
theorem jH:N9 ["_law_script","_law_k","_law_pot_here","_law_shuts","_law_plot_here","_law_few"] ["_law_script"] (ao zS):=⋯
inductive Qx(x:D)(M:MH)(Q:DK):Prop
 |mk (ns:_)(hh0:x=.rol (LG D.int ns))(hh1:ns.length<=63)(hh2:Tb M)(hh3:∀M',Q (.bl MY) M'):Qx x M Q
def jD:OE:=λa M Q=>match a with
 |[x]=>Qx x M Q
 |_=>False
theorem EU:∀a M Q,jD a M Q->a.length=1:=λa M Q h=>by
 unfold jD at h;split at h
 .rfl
 .exact h.elim
def GO{P:Jv}{w:JP}{K:J1}{mg:Str->Option J3}{fa:k_}(T:Tx K mg)(d0:mg "law"=MW (.ref fa)):∃fd,(∀(s:J4)(u:J3),BindsTo s fd #[[u],[]] [("_law_script",u)])/\∀base:lj,Np P w K mg base Oa 26 fa fd ["_law_script"] (dC K jD):=by
 refine IV (k:=25) (N:=["_law_script","_law_k","_law_pot_here","_law_shuts","_law_plot_here","_law_few"]) T.gz d0 jH (λ_ _ _ _ _ _ us hl=>by let[_,8]:=SD.vy hl;rfl) EU λbase f cdv A outer s H E a=>#[_,(aq (oO Ks rfl rfl T.ia (af (aA aP ai (aF (oJ rfl a.units) rfl T.h_ qH (af ai (af (aF bD rfl T.hV bG (af (dv 0) ag)) ag)))) ag) (aG 1 jH.nd) (aq (aI 2 jH.nd (au (vU T).m a (af (dv 0) (af (dv 1) ag)))) (aq (aI 3 jH.nd (au (jG T).m a (af (dv 2) (af ai ag)))) (aq (aI 4 jH.nd (au (sN T).m a (af (au (p8 T).m a (af (dv 2) (af ai ag))) (af (dv 3) ag)))) (aq (bz (sF (oo (aO (dI a.units) (aF bD rfl T.hV bG (af (dv 4) ag)) ai) (km (jk (bW (au (jM T).m a (af (dv 4) (af (aF bD rfl T.hV bG (af (au (eF T).m a (af (dv 3) ag)) ag)) ag)))))))) (ar (aE iJ)) aN) (aq (aI 5 jH.nd (jm (dv 3) nR (ou ai))) (aq (iO Ks (aO (dI a.units) (aF bD rfl T.hV bG (af (au (eF T).m a (af (dv 5) ag)) ag)) ai) (ar (fx (vp (dv 5))))) (ar (bz (jk (bW (au (jM T).m a (af (jm (dv 4) nR (ou (aF bD rfl T.hV bG (af (dv 5) ag)))) (af (aF bD rfl T.hV bG (af (au (eF T).m a (af (dv 5) ag)) ag)) ag))))) (ar (aE iJ)) aN))))))))) (ar (aE iJ))),λds M Q h=>?r]
 case r=>
  unfold jD at h
  split at h
  case h_2=>exact h.elim
  let[ns,8,n0,R,k]:=h
  obtain⟨m,hm,o0⟩:∃m:Nat,1+min (2:Int) ((LG D.int ns).length:Nat)=(m:Int)/\m<=3:=#[(1+min (2:Int) ((LG D.int ns).length:Nat)).toNat,(),()]
  refine #[7,m,(by rw[hm]),(),λi δ M=>Tb M/\∃T:oi,δ=MW (.rol (LG D.int ns))::T/\T.length=5,#[R,7,rfl],?_,λδ M q=>?_]
  rotate_left
  .obtain⟨hT,z,rfl,_⟩:=q;exact Nk (k _)
  rintro i δ M hi ⟨hT,z,rfl,d⟩
  refine W4 d λo1 z d=>?_
  refine W4 d λo2 z d=>?_
  refine W4 d λo3 z d=>?_
  refine W4 d λo4 z d=>?_
  refine W4 d λo5 z d=>?_
  obtain rfl:z=[]:=KR.mp d
  (try dsimp only[SD.aR])
  refine Zn λB hB=>?_
  refine #[7,7,ns,(i:Int),8,8,(),λr ob a P0=>?_]
  let C:Tb (av M r ob):=hT.new a
  generalize av M r ob=Ma at P0 C ⊢
  clear hT R
  refine #[7,r,0,5,8,8,⋯,P0,⋯,λl ws Mb e0 fl kx hl hU hF m0 P1=>?_]
  let W:Tb Mb:=C.pot P0 kx
  clear C
  (try dsimp only[SD.aR])
  let cl:=dX ws ws.length
  let G:Gs 6 24:=#[⋯,⋯,⋯,⋯]
  refine #[7,r,0+400,9,8,8,P1,(),λt b x y M5 S ht hb hx hy F P5=>?_]
  let c:=F l _ ‹e0.symm› hl
  let g:Tb M5:=W.pot P1 F
  clear hl F P1 W Mb fl kx P0
  refine #[7,t,b,x,y,l,ws.map (raw 6 24),8,8,(by rw[y8];exact c),S,by rw[J7];omega,λw hw=>?_,?_]
  .obtain⟨w0,f0,rfl⟩:=JZ.mp hw;let[a1,a2,a3,a4]:=Fg G (hU w0 f0);exact #[(),(),(),()]
  rw[yt]
  let X:=AD S G ht hb hx hy
  generalize x-24*t=I at X ⊢
  generalize y-24*t=J at X ⊢
  generalize (6:Int)*t=L at X ⊢
  let el:(ws.map (Nm L b I J)).length=ws.length:=J7 ..
  clear S ht hb hx hy
  (try dsimp only[SD.aR])
  refine fm (λδ Y=>δ=[MW (.rol (LG D.int ns)),MW (.int (i:Int)),MW (.ref r),MW (.ref l),MW (.tup (ws.map (Nm L b I J))),o5]/\Y l=MW (.lst (ws.map (Nj 6 24)))/\Tb Y) ?_ (λhu=>?_)
  rotate_left
  .exists 7,trivial,7;by_cases h5:5<ws.length
   .refine zw (by rw[el];exact ND ()) ?_;refine #[7,7,l,6,24,ws,8,G,c,hU,(),(),λM6 zc ps s6 fc hc pm pw=>?_];refine #[_,hc,L,b,I,J,ws,(ps.map (gp 6 24)).length,8,8,X,(),hU,hF,g.sub s6,λh=>(),λM7 s7 o=>#[7,?_]];exact jE rfl (hu _ _ #[8,s7 _ _ ((g.sub s6).neL (s6 _ _ c)) (s6 _ _ c),o])
   .refine jE (by rw[el];exact NC ()) ?_;exact jE rfl (hu _ _ #[8,c,g])
  clear c g
  rintro δ M6 ⟨rfl,g0,h0⟩
  refine #[7,7,_,g0,λp hp=>?_]
  let ec:cutD (ws.map (Nj 6 24)) MX (MW (5:Int))=(ws.take 5).map (Nj 6 24):=uA _ _ 5
  rw[ec]
  let o:Tb (av M6 p (.lst ((ws.take 5).map (Nj 6 24)))):=h0.new hp
  let Z:(av M6 p (.lst ((ws.take 5).map (Nj 6 24)))) p=MW (.lst ((ws.take 5).map (Nj 6 24))):=aj
  generalize av M6 p (.lst ((ws.take 5).map (Nj 6 24)))=M7 at o Z ⊢
  (try dsimp only[SD.aR])
  exists λm δ Y=>Ww (m<=5) (m<=ws.length) (δ=[MW (.rol (LG D.int ns)),MW (.int (i:Int)),MW (.ref r),MW (.ref l),MW (.tup (ws.map (Nm L b I J))),MW (.ref p)]) (Y p=MW (.lst ((ws.take m).map (Nj 6 24)))) (Tb Y),#[min 5 ws.length,(),(),8,?_,o]
  .rw[Z];rcases Nat.le_total 5 ws.length with h|h
   .rw[Nat.min_eq_left h]
   .rw[Nat.min_eq_right h,L8 h,L8 (Jo _)]
  rintro n δ M8 ⟨n5,nl,rfl,a0,i0⟩
  let ln:(ws.take n).length=n:=by rw[La];omega
  let O:∀w∈ws.take n,OB w:=λw hw=>hU w (List.mem_of_mem_take hw)
  let cn:=dX (ws.take n) (ws.take n).length
  refine #[7,p,6,24,ws.take n,8,G,a0,O,(),(),λM9 zc ps s9 fc hc pm pw=>?_]
  let v:=s9 _ _ a0
  let b0:=i0.sub s9
  let pe:=pm.length_eq
  refine #[_,hc,trivial,7,cD (λe=>?_) (λ_=>?_)]
  .have n4:4<=n:=by
    have:=NF e
    rw[J7]at this
    omega
   let lm:((ws.take n).map (Nj 6 24)).length=n:=by rw[J7,ln]
   refine #[7,p,_,7,v,JB (),n-1,(),(),(),8,?_,b0.upd v];rw[aj,List.dropLast_eq_take,lm,<-List.map_take,List.take_take,Nat.min_eq_left ()]
  walk_at "u"
  let j0:cutD (ws.map (Nm L b I J)) MX (MW ((((ws.take n).map (Nj 6 24)).length:Nat):Int))=(ws.take n).map (Nm L b I J):=by rw[uA,J7,ln]
  let k0:PF (ws.take n):=λi j U V ij h1 h2=>by
   let tk:∀{i:Nat}{U:Wl},(ws.take n)[i]?=MW U->ws[i]?=MW U:=λ{i U} h=>by
    rw[List.getElem?_take]at h;split at h
    .exact h
    .cases h
   exact hF i j U V ij (tk h1) (tk h2)
  refine #[7,7,_,v,7,7,p,6,24,ws.take n,8,G,v,O,(),(),λq0 zd qs l0 fd hd qm qw=>?_]
  refine #[_,hd,L,b,I,J,ws.take n,(qs.map (gp 6 24)).length,congrArg D.tup j0,8,X,(),O,k0,b0.sub l0,λ_=>(J7 ..).trans qm.length_eq,λr0 s0 c0=>#[7,?_]]
  exact jE rfl (hB _ _ #[c0,7,rfl])
theorem DC(ns:ml)(M:MH)(h:ns.length<=63)(a:M 244=MW (rQ #[])):jD [.rol (ns.map D.int)] M (λd _=>d=.bl MY):=#[ns,8,h,.inl a,λ_=>rfl]
def kE(P:JA)(n:String)(k:Nat)(v:J3):KH:={ hash:=PyData.keyHash P (Km n),key:=.str (Km n) k,val:=v }
def kF(i:Nat)(n m:String)(k c:Nat):Obj:={ cls:=.type "function",data:=.func { name:=Km n,qualname:=Km n,params:=aT (top i),body:=.stmts (aJ (top i)),scope:=ao (top i),globals:=!3,closure:=[],defaults:=.none,kwdefaults:=.none,pyModule:=.str (Km m) k,code:=.ref c } }
def kD0(P:JA):List KH:=[kE P "__name__" ↑165 (.str "law_spotlook_k45_fewest_refused" 645),kE P "__doc__" ↑166 (.none),kE P "__package__" ↑167 (.none),kE P "__loader__" ↑168 (.builtin "__main__.__loader__#opaque"),kE P "__spec__" ↑169 (.none),kE P "__annotations__" ↑170 (.ref !6),kE P "__builtins__" ↑171 (.ref !4),kE P "__file__" ↑173 (.str "/claim/cut.py" 172)]
def kD1(P:JA):List KH:=[kE P "__cached__" ↑174 (.none),kE P "_wall" ↑193 (.ref !21),kE P "SpotError" ↑213 (.ref !31),kE P "NoFraction" ↑229 (.ref !44),kE P "NoWall" ↑245 (.ref !56),kE P "TooMany" ↑270 (.ref !75),kE P "Crossing" ↑297 (.ref !94),kE P "Absent" ↑322 (.ref !113)]
def kD2(P:JA):List KH:=[kE P "NoText" ↑347 (.ref !132),kE P "NoRow" ↑363 (.ref !144),kE P "greatest_divisor" ↑373 (.ref !153),kE P "fraction" ↑382 (.ref !160),kE P "is_less" ↑390 (.ref !167),kE P "is_ahead" ↑400 (.ref !174),kE P "later_of" ↑408 (.ref !181),kE P "earlier_of" ↑416 (.ref !188)]
def kD3(P:JA):List KH:=[kE P "place_among" ↑427 (.ref !195),kE P "ahead_first" ↑436 (.ref !202),kE P "own_spot" ↑445 (.ref !209),kE P "gap" ↑453 (.ref !216),kE P "lean" ↑471 (.ref !223),kE P "side_of" ↑480 (.ref !230),kE P "is_above" ↑494 (.ref !237),kE P "above_table" ↑500 (.ref !242)]
def kD4(P:JA):List KH:=[kE P "lowest_first" ↑510 (.ref !249),kE P "corners_of" ↑522 (.ref !256),kE P "ends_by_number" ↑528 (.ref !261),kE P "MOST_FOR_FEWEST" ↑532 (.int 5 531),kE P "reaches_over" ↑540 (.ref !268),kE P "reaches_into" ↑548 (.ref !275),kE P "Cutter" ↑636 (.ref !331),kE P "fewest" ↑644 (.ref !342)]
def kD5(P:JA):List KH:=[kE P "_law_pot" ↑655 (.ref !349),kE P "_law_take" ↑665 (.ref !356),kE P "_law_side" ↑678 (.ref !363),kE P "_law_on" ↑686 (.ref !370),kE P "_law_apart" ↑698 (.ref !377),kE P "_law_new_spot" ↑706 (.ref !384),kE P "_law_some_spot" ↑715 (.ref !391),kE P "_law_square" ↑726 (.ref !398)]
def kD6(P:JA):List KH:=[kE P "_law_laid" ↑732 (.ref !403),kE P "_law_shuts_here" ↑738 (.ref !408),kE P "_law_frac" ↑748 (.ref !415),kE P "_law_frame" ↑754 (.ref !420),kE P "_law_given" ↑766 (.ref !427),kE P "_law_plot" ↑772 (.ref !432),kE P "_law_corners" ↑778 (.ref !437),kE P "_law_of_others" ↑785 (.ref !444)]
def Zz(P:JA):List KH:=[kE P "_law_right" ↑798 (.ref !451),kE P "law" ↑810 (.ref !458)]
def kG(P:JA):Obj:={ cls:=.type "dict",data:=.dict (Jy (kD0 P++(kD1 P++(kD2 P++(kD3 P++(kD4 P++(kD5 P++(kD6 P++(Zz P))))))))) 58 }
def OQ(n:String)(a0:Nat)(h:Nat)(i:Nat)(j:Nat)(k:Nat)(l:Nat)(a:Nat)(b:Nat)(c:Nat)(d:Nat)(e:Nat)(f:Nat)(g:Nat):Obj:={ cls:=.type "code",data:=.fields (List.toArray [.str (Km n) a0,.str (Km n) h,.str "/claim/cut.py" i,.int (MR j) 0,.int (MR k) 0,.int 0 0,.int 0 0,.int 3 0,.ref l,.bool MY,.int 181 0,.ref a,.none,.ref b,.ref c,.ref d,.int (MR e) 0,.int (MR f) 0,.str "/claim/cut.py" g]) }
def kM(i j:Nat)(n q m:String)(k c:Nat):Obj:={ cls:=.type "function",data:=.func { name:=Km n,qualname:=Km q,params:=aT (SD.fU (top i) j),body:=.stmts (aJ (SD.fU (top i) j)),scope:=ao (SD.fU (top i) j),globals:=!3,closure:=[],defaults:=.none,kwdefaults:=.none,pyModule:=.str (Km m) k,code:=.ref c } }
def IU(P:JA):Obj:={ cls:=.type "dict",data:=.dict (Jy [kE P "__module__" ↑203 (.str "spotlook.errors" 194),kE P "__firstlineno__" ↑207 (.int 5 206),kE P "__static_attributes__" ↑208 (.ref !29),kE P "__weakref__" ↑210 (.ref !32),kE P "__doc__" ↑211 (.none)]) 3 }
def IP(P:JA):Obj:={ cls:=.type "dict",data:=.dict (Jy [kE P "__module__" ↑221 (.str "spotlook.errors" 194),kE P "__firstlineno__" ↑225 (.int 7 224),kE P "__static_attributes__" ↑226 (.ref !42),kE P "__doc__" ↑227 (.none)]) 2 }
def Iq(P:JA):Obj:={ cls:=.type "dict",data:=.dict (Jy [kE P "__module__" ↑237 (.str "spotlook.errors" 194),kE P "__firstlineno__" ↑241 (.int 9 240),kE P "__static_attributes__" ↑242 (.ref !54),kE P "__doc__" ↑243 (.none)]) 2 }
def IT(P:JA):Obj:={ cls:=.type "dict",data:=.dict (Jy [kE P "__module__" ↑253 (.str "spotlook.errors" 194),kE P "__firstlineno__" ↑257 (.int 11 256),kE P "__init__" ↑265 (.ref !72),kE P "__static_attributes__" ↑267 (.ref !73),kE P "__doc__" ↑268 (.none)]) 2 }
def Ib(P:JA):Obj:={ cls:=.type "dict",data:=.dict (Jy [kE P "__module__" ↑278 (.str "spotlook.errors" 194),kE P "__firstlineno__" ↑282 (.int 16 281),kE P "__init__" ↑291 (.ref !91),kE P "__static_attributes__" ↑294 (.ref !92),kE P "__doc__" ↑295 (.none)]) 2 }
def Gd(P:JA):Obj:={ cls:=.type "dict",data:=.dict (Jy [kE P "__module__" ↑305 (.str "spotlook.errors" 194),kE P "__firstlineno__" ↑309 (.int 22 308),kE P "__init__" ↑317 (.ref !110),kE P "__static_attributes__" ↑319 (.ref !111),kE P "__doc__" ↑320 (.none)]) 2 }
def HS(P:JA):Obj:={ cls:=.type "dict",data:=.dict (Jy [kE P "__module__" ↑330 (.str "spotlook.errors" 194),kE P "__firstlineno__" ↑334 (.int 27 333),kE P "__init__" ↑342 (.ref !129),kE P "__static_attributes__" ↑344 (.ref !130),kE P "__doc__" ↑345 (.none)]) 2 }
def GH(P:JA):Obj:={ cls:=.type "dict",data:=.dict (Jy [kE P "__module__" ↑355 (.str "spotlook.errors" 194),kE P "__firstlineno__" ↑359 (.int 32 358),kE P "__static_attributes__" ↑360 (.ref !142),kE P "__doc__" ↑361 (.none)]) 2 }
def Gw(P:JA):Obj:={ cls:=.type "dict",data:=.dict (Jy [kE P "__module__" ↑556 (.str "spotlook.cuts" 529),kE P "__firstlineno__" ↑560 (.int 118 559),kE P "__init__" ↑569 (.ref !289),kE P "walls_over" ↑575 (.ref !294),kE P "corners_between" ↑581 (.ref !299),kE P "cut_at_wall" ↑587 (.ref !304),kE P "cut_at_corner" ↑593 (.ref !309),kE P "tree_for" ↑604 (.ref !316),kE P "all_cuts" ↑618 (.ref !323),kE P "fewest_for" ↑624 (.ref !328),kE P "__static_attributes__" ↑629 (.ref !329),kE P "__dict__" ↑631 (.ref !332),kE P "__weakref__" ↑633 (.ref !333),kE P "__doc__" ↑634 (.none)]) 4 }
def kN(l:List Obj)(i:Nat):Obj:=l.getD i { cls:=.none,data:=.dict #[] }
def Nq(n q:Str)(a b c l k f r:Nat)(t:Bool)(s:Nat)(x y z:J3)(d e:Nat):Obj:={ cls:=.type "code",data:=.fields (List.toArray [.str n a,.str q b,.str "/claim/cut.py" c,.int l 0,.int k 0,.int 0 0,.int 0 0,.int f 0,.ref r,.bool t,.int 181 0,.ref s,.none,x,y,z,.int d 0,.int l 0,.str "/claim/cut.py" e]) }
def zzK(n:Str)(s g a i j:Nat):Obj:={ cls:=.type "type",data:=.cls { name:=n,bases:=[.ref 24],mro:=[.ref s,.ref 24,.type "ValueError",.type "Exception",.type "BaseException",.type "object"],ns:=g,qualname:=n,hasDict:=MY,slotNames:=[],subclasses:=[],abstract:=MZ,collection:=MX,hasDel:=MZ },slots:=(List.toArray [MW (.ref a),MX,MW (.str n i),MW (.str n j),MW (.builtin "ValueError.__new__"),MW (.bool MY)]) }
def zzR(n:Str)(s g a i j:Nat):Obj:={ cls:=.type "type",data:=.cls { name:=n,bases:=[.ref !24],mro:=[.ref s,.ref !24,.type "ValueError",.type "Exception",.type "BaseException",.type "object"],ns:=g,qualname:=n,hasDict:=MY,slotNames:=[],subclasses:=[],abstract:=MZ,collection:=MX,hasDel:=MZ },slots:=(List.toArray [MW (.ref a),MX,MW (.str n i),MW (.str n j),MW (.builtin "ValueError.__new__"),MW (.bool MY)]) }
def Oy:J3:=.str "law_spotlook_k45_fewest_refused" 645
def PV(i:Nat)(n:String)(c:Nat):Obj:=kF i n "law_spotlook_k45_fewest_refused" ↑645 c
def R1:List Obj:=[{ cls:=.none,data:=.dict #[] 0 },{ cls:=.type "module",dict:=MW !0,data:=.plain },OQ "_wall" ↑187 ↑188 ↑189 ↑1 ↑1 ↑15 ↑16 ↑17 ↑18 ↑19 ↑191 ↑1 !192,kF ↑0 "_wall" "__main__" ↑164 !20,{ cls:=.type "type",data:=.cls { name:="SpotError",bases:=[(.type "ValueError")],mro:=[(.ref !31),(.type "ValueError"),(.type "Exception"),(.type "BaseException"),(.type "object")],ns:=30,qualname:="SpotError",hasDict:=MY,slotNames:=[],subclasses:=[(.ref !44),(.ref !56),(.ref !75),(.ref !94),(.ref !113),(.ref !132),(.ref !144)],abstract:=MZ,collection:=MX,hasDel:=MZ },slots:=(List.toArray [(MW (.ref !22)),MX,(MW (.str "SpotError" 196)),(MW (.str "SpotError" 204)),(MW (.builtin "ValueError.__new__")),(MW (.bool MY))]) },{ cls:=.type "type",data:=.cls { name:="NoFraction",bases:=[(.ref !31)],mro:=[(.ref !44),(.ref !31),(.type "ValueError"),(.type "Exception"),(.type "BaseException"),(.type "object")],ns:=43,qualname:="NoFraction",hasDict:=MY,slotNames:=[],subclasses:=[],abstract:=MZ,collection:=MX,hasDel:=MZ },slots:=(List.toArray [(MW (.ref !35)),MX,(MW (.str "NoFraction" 214)),(MW (.str "NoFraction" 222)),(MW (.builtin "ValueError.__new__")),(MW (.bool MY))]) },{ cls:=.type "type",data:=.cls { name:="NoWall",bases:=[(.ref !31)],mro:=[(.ref !56),(.ref !31),(.type "ValueError"),(.type "Exception"),(.type "BaseException"),(.type "object")],ns:=55,qualname:="NoWall",hasDict:=MY,slotNames:=[],subclasses:=[],abstract:=MZ,collection:=MX,hasDel:=MZ },slots:=(List.toArray [(MW (.ref !47)),MX,(MW (.str "NoWall" 230)),(MW (.str "NoWall" 238)),(MW (.builtin "ValueError.__new__")),(MW (.bool MY))]) },(Nq "__init__" "TooMany.__init__" 258 259 260 13 2 3 66 MY 67 (.ref 68) (.ref 69) (.ref 70) 263 264)]
def R0:List Obj:=[kM ↑5 ↑0 "__init__" "TooMany.__init__" "spotlook.errors" ↑194 !71,{ cls:=.type "type",data:=.cls { name:="TooMany",bases:=[(.ref !31)],mro:=[(.ref !75),(.ref !31),(.type "ValueError"),(.type "Exception"),(.type "BaseException"),(.type "object")],ns:=74,qualname:="TooMany",hasDict:=MY,slotNames:=[],subclasses:=[],abstract:=MZ,collection:=MX,hasDel:=MZ },slots:=(List.toArray [(MW (.ref !59)),MX,(MW (.str "TooMany" 246)),(MW (.str "TooMany" 254)),(MW (.builtin "ValueError.__new__")),(MW (.bool MY))]) },(Nq "__init__" "Crossing.__init__" 283 284 285 18 3 3 85 MY 86 (.ref 87) (.ref 88) (.ref 89) 289 290),kM ↑6 ↑0 "__init__" "Crossing.__init__" "spotlook.errors" ↑194 !90,{ cls:=.type "type",data:=.cls { name:="Crossing",bases:=[(.ref !31)],mro:=[(.ref !94),(.ref !31),(.type "ValueError"),(.type "Exception"),(.type "BaseException"),(.type "object")],ns:=93,qualname:="Crossing",hasDict:=MY,slotNames:=[],subclasses:=[],abstract:=MZ,collection:=MX,hasDel:=MZ },slots:=(List.toArray [(MW (.ref !78)),MX,(MW (.str "Crossing" 271)),(MW (.str "Crossing" 279)),(MW (.builtin "ValueError.__new__")),(MW (.bool MY))]) },(Nq "__init__" "Absent.__init__" 310 311 312 24 2 3 104 MY 105 (.ref 106) (.ref 107) (.ref 108) 315 316),kM ↑7 ↑0 "__init__" "Absent.__init__" "spotlook.errors" ↑194 !109,{ cls:=.type "type",data:=.cls { name:="Absent",bases:=[(.ref !31)],mro:=[(.ref !113),(.ref !31),(.type "ValueError"),(.type "Exception"),(.type "BaseException"),(.type "object")],ns:=112,qualname:="Absent",hasDict:=MY,slotNames:=[],subclasses:=[],abstract:=MZ,collection:=MX,hasDel:=MZ },slots:=(List.toArray [(MW (.ref !97)),MX,(MW (.str "Absent" 298)),(MW (.str "Absent" 306)),(MW (.builtin "ValueError.__new__")),(MW (.bool MY))]) }]
def RZ:List Obj:=[(Nq "__init__" "NoText.__init__" 335 336 337 29 2 3 123 MY 124 (.ref 125) (.ref 126) (.ref 127) 340 341),kM ↑8 ↑0 "__init__" "NoText.__init__" "spotlook.errors" ↑194 !128,{ cls:=.type "type",data:=.cls { name:="NoText",bases:=[(.ref !31)],mro:=[(.ref !132),(.ref !31),(.type "ValueError"),(.type "Exception"),(.type "BaseException"),(.type "object")],ns:=131,qualname:="NoText",hasDict:=MY,slotNames:=[],subclasses:=[],abstract:=MZ,collection:=MX,hasDel:=MZ },slots:=(List.toArray [(MW (.ref !116)),MX,(MW (.str "NoText" 323)),(MW (.str "NoText" 331)),(MW (.builtin "ValueError.__new__")),(MW (.bool MY))]) },{ cls:=.type "type",data:=.cls { name:="NoRow",bases:=[(.ref !31)],mro:=[(.ref !144),(.ref !31),(.type "ValueError"),(.type "Exception"),(.type "BaseException"),(.type "object")],ns:=143,qualname:="NoRow",hasDict:=MY,slotNames:=[],subclasses:=[],abstract:=MZ,collection:=MX,hasDel:=MZ },slots:=(List.toArray [(MW (.ref !135)),MX,(MW (.str "NoRow" 348)),(MW (.str "NoRow" 356)),(MW (.builtin "ValueError.__new__")),(MW (.bool MY))]) },OQ "greatest_divisor" ↑366 ↑367 ↑368 ↑35 ↑2 ↑147 ↑148 ↑149 ↑150 ↑151 ↑371 ↑35 !372,kF ↑11 "greatest_divisor" "spotlook.fractions" ↑364 !152,OQ "fraction" ↑374 ↑375 ↑376 ↑39 ↑2 ↑154 ↑155 ↑156 ↑157 ↑158 ↑380 ↑39 !381,kF ↑12 "fraction" "spotlook.fractions" ↑364 !159]
def RY:List Obj:=[OQ "is_less" ↑383 ↑384 ↑385 ↑46 ↑2 ↑161 ↑162 ↑163 ↑164 ↑165 ↑388 ↑46 !389,kF ↑13 "is_less" "spotlook.fractions" ↑364 !166,OQ "is_ahead" ↑393 ↑394 ↑395 ↑49 ↑2 ↑168 ↑169 ↑170 ↑171 ↑172 ↑398 ↑49 !399,kF ↑15 "is_ahead" "spotlook.spots" ↑391 !173,OQ "later_of" ↑401 ↑402 ↑403 ↑53 ↑2 ↑175 ↑176 ↑177 ↑178 ↑179 ↑406 ↑53 !407,kF ↑16 "later_of" "spotlook.spots" ↑391 !180,OQ "earlier_of" ↑409 ↑410 ↑411 ↑55 ↑2 ↑182 ↑183 ↑184 ↑185 ↑186 ↑414 ↑55 !415,kF ↑17 "earlier_of" "spotlook.spots" ↑391 !187]
def RX:List Obj:=[OQ "place_among" ↑417 ↑418 ↑419 ↑57 ↑2 ↑189 ↑190 ↑191 ↑192 ↑193 ↑425 ↑57 !426,kF ↑18 "place_among" "spotlook.spots" ↑391 !194,OQ "ahead_first" ↑428 ↑429 ↑430 ↑66 ↑1 ↑196 ↑197 ↑198 ↑199 ↑200 ↑434 ↑66 !435,kF ↑19 "ahead_first" "spotlook.spots" ↑391 !201,OQ "own_spot" ↑437 ↑438 ↑439 ↑71 ↑1 ↑203 ↑204 ↑205 ↑206 ↑207 ↑443 ↑71 !444,kF ↑20 "own_spot" "spotlook.spots" ↑391 !208,OQ "gap" ↑446 ↑447 ↑448 ↑74 ↑2 ↑210 ↑211 ↑212 ↑213 ↑214 ↑451 ↑74 !452,kF ↑21 "gap" "spotlook.spots" ↑391 !215]
def RW:List Obj:=[OQ "lean" ↑454 ↑455 ↑456 ↑76 ↑2 ↑217 ↑218 ↑219 ↑220 ↑221 ↑469 ↑76 !470,kF ↑22 "lean" "spotlook.spots" ↑391 !222,OQ "side_of" ↑472 ↑473 ↑474 ↑82 ↑2 ↑224 ↑225 ↑226 ↑227 ↑228 ↑478 ↑82 !479,kF ↑23 "side_of" "spotlook.spots" ↑391 !229,OQ "is_above" ↑483 ↑484 ↑485 ↑90 ↑2 ↑231 ↑232 ↑233 ↑234 ↑235 ↑492 ↑90 !493,kF ↑25 "is_above" "spotlook.above" ↑481 !236,(Nq "above_table" "above_table" 495 496 497 98 1 3 238 MY 239 .none .none (.ref 240) 498 499),kF ↑26 "above_table" "spotlook.above" ↑481 !241]
def RV:List Obj:=[OQ "lowest_first" ↑501 ↑502 ↑503 ↑100 ↑2 ↑243 ↑244 ↑245 ↑246 ↑247 ↑508 ↑100 !509,kF ↑27 "lowest_first" "spotlook.above" ↑481 !248,OQ "corners_of" ↑513 ↑514 ↑515 ↑103 ↑1 ↑250 ↑251 ↑252 ↑253 ↑254 ↑520 ↑103 !521,kF ↑29 "corners_of" "spotlook.plots" ↑511 !255,(Nq "ends_by_number" "ends_by_number" 523 524 525 109 2 3 257 MY 258 .none .none (.ref 259) 526 527),kF ↑30 "ends_by_number" "spotlook.plots" ↑511 !260,OQ "reaches_over" ↑533 ↑534 ↑535 ↑114 ↑2 ↑262 ↑263 ↑264 ↑265 ↑266 ↑538 ↑114 !539,kF ↑33 "reaches_over" "spotlook.cuts" ↑529 !267]
def RU:List Obj:=[OQ "reaches_into" ↑541 ↑542 ↑543 ↑116 ↑2 ↑269 ↑270 ↑271 ↑272 ↑273 ↑546 ↑116 !547,kF ↑34 "reaches_into" "spotlook.cuts" ↑529 !274,(Nq "__init__" "Cutter.__init__" 561 562 563 120 2 3 283 MY 284 (.ref 285) (.ref 286) (.ref 287) 567 568),kM ↑35 ↑0 "__init__" "Cutter.__init__" "spotlook.cuts" ↑529 !288,(Nq "walls_over" "Cutter.walls_over" 570 571 572 127 3 3 290 MY 291 .none .none (.ref 292) 573 574),kM ↑35 ↑1 "walls_over" "Cutter.walls_over" "spotlook.cuts" ↑529 !293,(Nq "corners_between" "Cutter.corners_between" 576 577 578 130 3 3 295 MY 296 .none .none (.ref 297) 579 580),kM ↑35 ↑2 "corners_between" "Cutter.corners_between" "spotlook.cuts" ↑529 !298]
def RT:List Obj:=[(Nq "cut_at_wall" "Cutter.cut_at_wall" 582 583 584 134 3 3 300 MY 301 .none .none (.ref 302) 585 586),kM ↑35 ↑3 "cut_at_wall" "Cutter.cut_at_wall" "spotlook.cuts" ↑529 !303,(Nq "cut_at_corner" "Cutter.cut_at_corner" 588 589 590 138 4 3 305 MY 306 .none .none (.ref 307) 591 592),kM ↑35 ↑4 "cut_at_corner" "Cutter.cut_at_corner" "spotlook.cuts" ↑529 !308,(Nq "tree_for" "Cutter.tree_for" 594 595 596 143 5 3 310 MY 311 (.ref 312) (.ref 313) (.ref 314) 602 603),kM ↑35 ↑5 "tree_for" "Cutter.tree_for" "spotlook.cuts" ↑529 !315,(Nq "all_cuts" "Cutter.all_cuts" 605 606 607 146 3 3 317 MY 318 (.ref 319) (.ref 320) (.ref 321) 616 617),kM ↑35 ↑6 "all_cuts" "Cutter.all_cuts" "spotlook.cuts" ↑529 !322]
def RS:List Obj:=[(Nq "fewest_for" "Cutter.fewest_for" 619 620 621 155 4 3 324 MY 325 .none .none (.ref 326) 622 623),kM ↑35 ↑7 "fewest_for" "Cutter.fewest_for" "spotlook.cuts" ↑529 !327,{ cls:=.type "type",data:=.cls { name:="Cutter",bases:=[(.type "object")],mro:=[(.ref !331),(.type "object")],ns:=330,qualname:="Cutter",hasDict:=MY,slotNames:=[],subclasses:=[],abstract:=MZ,collection:=MX,hasDel:=MZ },slots:=(List.toArray [MX,MX,(MW (.str "Cutter" 549)),(MW (.str "Cutter" 557)),(MW (.builtin "object.__new__")),(MW (.bool MY))]) },OQ "fewest" ↑637 ↑638 ↑639 ↑162 ↑1 ↑336 ↑337 ↑338 ↑339 ↑340 ↑642 ↑162 !643,kF ↑36 "fewest" "spotlook.cuts" ↑529 !341,OQ "_law_pot" ↑647 ↑648 ↑649 ↑168 ↑2 ↑343 ↑344 ↑345 ↑346 ↑347 ↑653 ↑168 !654,PV ↑38 "_law_pot" !348,OQ "_law_take" ↑656 ↑657 ↑658 ↑173 ↑2 ↑350 ↑351 ↑352 ↑353 ↑354 ↑663 ↑173 !664]
def Pb:List Obj:=[PV ↑39 "_law_take" !355,OQ "_law_side" ↑666 ↑667 ↑668 ↑182 ↑2 ↑357 ↑358 ↑359 ↑360 ↑361 ↑676 ↑182 !677,PV ↑40 "_law_side" !362,OQ "_law_on" ↑679 ↑680 ↑681 ↑187 ↑2 ↑364 ↑365 ↑366 ↑367 ↑368 ↑684 ↑187 !685,PV ↑41 "_law_on" !369,OQ "_law_apart" ↑687 ↑688 ↑689 ↑189 ↑2 ↑371 ↑372 ↑373 ↑374 ↑375 ↑696 ↑189 !697,PV ↑42 "_law_apart" !376,OQ "_law_new_spot" ↑699 ↑700 ↑701 ↑196 ↑2 ↑378 ↑379 ↑380 ↑381 ↑382 ↑704 ↑196 !705]
def Pa:List Obj:=[PV ↑43 "_law_new_spot" !383,OQ "_law_some_spot" ↑707 ↑708 ↑709 ↑198 ↑3 ↑385 ↑386 ↑387 ↑388 ↑389 ↑713 ↑198 !714,PV ↑44 "_law_some_spot" !390,OQ "_law_square" ↑716 ↑717 ↑718 ↑202 ↑2 ↑392 ↑393 ↑394 ↑395 ↑396 ↑724 ↑202 !725,PV ↑45 "_law_square" !397,(Nq "_law_laid" "_law_laid" 727 728 729 208 3 3 399 MY 400 .none .none (.ref 401) 730 731),PV ↑46 "_law_laid" !402,(Nq "_law_shuts_here" "_law_shuts_here" 733 734 735 213 2 3 404 MY 405 .none .none (.ref 406) 736 737)]
def P9:List Obj:=[PV ↑47 "_law_shuts_here" !407,OQ "_law_frac" ↑739 ↑740 ↑741 ↑225 ↑2 ↑409 ↑410 ↑411 ↑412 ↑413 ↑746 ↑225 !747,PV ↑48 "_law_frac" !414,(Nq "_law_frame" "_law_frame" 749 750 751 231 2 3 416 MY 417 .none .none (.ref 418) 752 753),PV ↑49 "_law_frame" !419,OQ "_law_given" ↑755 ↑756 ↑757 ↑240 ↑2 ↑421 ↑422 ↑423 ↑424 ↑425 ↑764 ↑240 !765,PV ↑50 "_law_given" !426,(Nq "_law_plot" "_law_plot" 767 768 769 243 2 3 428 MY 429 .none .none (.ref 430) 770 771)]
def P8:List Obj:=[PV ↑51 "_law_plot" !431,(Nq "_law_corners" "_law_corners" 773 774 775 245 1 3 433 MY 434 .none .none (.ref 435) 776 777),PV ↑52 "_law_corners" !436,OQ "_law_of_others" ↑779 ↑780 ↑781 ↑250 ↑1 ↑438 ↑439 ↑440 ↑441 ↑442 ↑783 ↑250 !784,PV ↑53 "_law_of_others" !443,OQ "_law_right" ↑786 ↑787 ↑788 ↑252 ↑2 ↑445 ↑446 ↑447 ↑448 ↑449 ↑796 ↑252 !797,PV ↑54 "_law_right" !450,OQ "law" ↑799 ↑800 ↑801 ↑271 ↑1 ↑452 ↑453 ↑454 ↑455 ↑456 ↑808 ↑271 !809]
def Yt:List Obj:=[PV ↑55 "law" !457]
def kK:JA->J1:=λP=>(!2,kN R1 !0)::(!3,kG P)::(!4,kN R1 !1)::(!20,kN R1 !2)::(!21,kN R1 !3)::(!30,IU P)::(!31,kN R1 !4)::(!43,IP P)::(!44,kN R1 !5)::(!55,Iq P)::(!56,kN R1 !6)::(!71,kN R1 !7)::(!72,kN R0 !0)::(!74,IT P)::(!75,kN R0 !1)::(!90,kN R0 !2)::(!91,kN R0 !3)::(!93,Ib P)::(!94,kN R0 !4)::(!109,kN R0 !5)::(!110,kN R0 !6)::(!112,Gd P)::(!113,kN R0 !7)::(!128,kN RZ !0)::(!129,kN RZ !1)::(!131,HS P)::(!132,kN RZ !2)::(!143,GH P)::(!144,kN RZ !3)::(!152,kN RZ !4)::(!153,kN RZ !5)::(!159,kN RZ !6)::(!160,kN RZ !7)::(!166,kN RY !0)::(!167,kN RY !1)::(!173,kN RY !2)::(!174,kN RY !3)::(!180,kN RY !4)::(!181,kN RY !5)::(!187,kN RY !6)::(!188,kN RY !7)::(!194,kN RX !0)::(!195,kN RX !1)::(!201,kN RX !2)::(!202,kN RX !3)::(!208,kN RX !4)::(!209,kN RX !5)::(!215,kN RX !6)::(!216,kN RX !7)::(!222,kN RW !0)::(!223,kN RW !1)::(!229,kN RW !2)::(!230,kN RW !3)::(!236,kN RW !4)::(!237,kN RW !5)::(!241,kN RW !6)::(!242,kN RW !7)::(!248,kN RV !0)::(!249,kN RV !1)::(!255,kN RV !2)::(!256,kN RV !3)::(!260,kN RV !4)::(!261,kN RV !5)::(!267,kN RV !6)::(!268,kN RV !7)::(!274,kN RU !0)::(!275,kN RU !1)::(!288,kN RU !2)::(!289,kN RU !3)::(!293,kN RU !4)::(!294,kN RU !5)::(!298,kN RU !6)::(!299,kN RU !7)::(!303,kN RT !0)::(!304,kN RT !1)::(!308,kN RT !2)::(!309,kN RT !3)::(!315,kN RT !4)::(!316,kN RT !5)::(!322,kN RT !6)::(!323,kN RT !7)::(!327,kN RS !0)::(!328,kN RS !1)::(!330,Gw P)::(!331,kN RS !2)::(!341,kN RS !3)::(!342,kN RS !4)::(!348,kN RS !5)::(!349,kN RS !6)::(!355,kN RS !7)::(!356,kN Pb !0)::(!362,kN Pb !1)::(!363,kN Pb !2)::(!369,kN Pb !3)::(!370,kN Pb !4)::(!376,kN Pb !5)::(!377,kN Pb !6)::(!383,kN Pb !7)::(!384,kN Pa !0)::(!390,kN Pa !1)::(!391,kN Pa !2)::(!397,kN Pa !3)::(!398,kN Pa !4)::(!402,kN Pa !5)::(!403,kN Pa !6)::(!407,kN Pa !7)::(!408,kN P9 !0)::(!414,kN P9 !1)::(!415,kN P9 !2)::(!419,kN P9 !3)::(!420,kN P9 !4)::(!426,kN P9 !5)::(!427,kN P9 !6)::(!431,kN P9 !7)::(!432,kN P8 !0)::(!436,kN P8 !1)::(!437,kN P8 !2)::(!443,kN P8 !3)::(!444,kN P8 !4)::(!450,kN P8 !5)::(!451,kN P8 !6)::(!457,kN P8 !7)::(!458,kN Yt !0)::[]
end QQ
section
namespace QQ
open PySem L2
inductive Tg{A:Type}(a:A):Type where|mk:Tg a
def pk{A:Type}{a:A}(_:Tg a):A:=a
def hE(P:JA)(n:Str)(k:Nat)(v:J3):KH:={ hash:=PyData.keyHash P n,key:=.str n k,val:=v }
def OS(k:Nat)(l:List KH):Obj:={ cls:=.type "dict",data:=.dict (Jy l) k }
def OJ:J3:=.str "spotlook.errors" 194
def kU(s:lb)(n q:Str)(g:Nat)(m c:J3):MA:={ name:=n,qualname:=q,params:=aT s,body:=.stmts (aJ s),scope:=ao s,globals:=g,closure:=[],defaults:=.none,kwdefaults:=.none,pyModule:=m,code:=c }
def kC(s:lb)(i:Nat):lb:=match s with
 |.ClassDef (body:=b) ..=>b.getD i (.Pass #[0,0,0,0])
 |s=>s
def Nr(l:List J3):Obj:={ cls:=.type "tuple",data:=.seq l.toArray 0 }
def W5(l:List J3):Obj:={ cls:=.none,data:=.fields l.toArray }
local macro_rules | `(tactic| walk_at "st") => `(tactic| (intro t; (conv at t => (arg 1; whnf)); exact pk (.mk : type_of% t)))
local macro_rules | `(⇑$n:num) => `((by refine' (?_ : Tg (top $n) → lb) .mk; walk_at "st" : lb))
def SO:lb:=⇑0
def ZE:lb:=⇑1
def RP:lb:=⇑2
def Pr:lb:=⇑3
def PY:lb:=⇑4
def Ot:lb:=⇑5
def Rt:lb:=⇑6
def Oo:lb:=⇑7
def SG:lb:=⇑8
def XJ:lb:=⇑9
def Qq:lb:=⇑10
def PZ:lb:=⇑11
def Qp:lb:=⇑12
def PH:lb:=⇑13
def SN:lb:=⇑14
def Qo:lb:=⇑15
def Qn:lb:=⇑16
def Qm:lb:=⇑17
def Ql:lb:=⇑18
def Qk:lb:=⇑19
def Qj:lb:=⇑20
def Qi:lb:=⇑21
def Qh:lb:=⇑22
def Qg:lb:=⇑23
def SM:lb:=⇑24
def Qf:lb:=⇑25
def Qe:lb:=⇑26
def Qd:lb:=⇑27
def SK:lb:=⇑28
def Qc:lb:=⇑29
def Qb:lb:=⇑30
def SJ:lb:=⇑31
def Rg:lb:=⇑32
def Qa:lb:=⇑33
def Q9:lb:=⇑34
def OD:lb:=⇑35
def Q8:lb:=⇑36
def SH:lb:=⇑37
def Q7:lb:=⇑38
def Q6:lb:=⇑39
def Q5:lb:=⇑40
def Q4:lb:=⇑41
def Q3:lb:=⇑42
def Q2:lb:=⇑43
def Q1:lb:=⇑44
def Q0:lb:=⇑45
def QZ:lb:=⇑46
def QY:lb:=⇑47
def QX:lb:=⇑48
def QW:lb:=⇑49
def QV:lb:=⇑50
def QU:lb:=⇑51
def QT:lb:=⇑52
def QS:lb:=⇑53
def QR:lb:=⇑54
def QP:lb:=⇑55
def Zj:Lq:=(by refine'(?_:Tg (Ka.main.scope)->Lq) .mk;walk_at "st")
def fil:Str:=(by refine'(?_:Tg (Ka.main.file)->Str) .mk;walk_at "st")
def giv:Given:=(by refine'(?_:Tg (Ka.given)->Given) .mk;walk_at "st")
def Zk:mv:=QX::QW::QV::QU::QT::QS::QR::QP::[]
def Zl:mv:=Rg::Qa::Q9::OD::Q8::SH::Q7::Q6::Q5::Q4::Q3::Q2::Q1::Q0::QZ::QY::Zk
def Zm:mv:=Qn::Qm::Ql::Qk::Qj::Qi::Qh::Qg::SM::Qf::Qe::Qd::SK::Qc::Qb::SJ::Zl
def pw2:Jv:={ main:={ body:=SO::ZE::RP::Pr::PY::Ot::Rt::Oo::SG::XJ::Qq::PZ::Qp::PH::SN::Qo::Zm,scope:=Zj,futureAnnotations:=MZ,file:=fil,more:=[] },modules:=[],parses:=[],absent:=[],harvested:=[],given:=giv }
def ZX:mv:=QP::[]
def ZY:mv:=Q6::Q5::Q4::Q3::Q2::Q1::Q0::QZ::QY::QX::QW::QV::QU::QT::QS::QR::ZX
def ZZ:mv:=Qk::Qj::Qi::Qh::Qg::Qf::Qe::Qd::Qc::Qb::Rg::Qa::Q9::OD::Q8::Q7::ZY
def vw:Jv:={ pw2 with main:={ pw2.main with body:=SO::RP::Pr::PY::Ot::Rt::Oo::SG::XJ::PZ::Qp::PH::Qo::Qn::Qm::Ql::ZZ } }
def sx0:mv:=[SO,ZE,RP]
def sx1:mv:=[Pr]
def sx2:mv:=[PY]
def sx3:mv:=[Ot]
def sx4:mv:=[Rt]
def sx5:mv:=[Oo]
def sx6:mv:=[SG]
def sx7:mv:=[XJ,Qq,PZ,Qp,PH,SN,Qo,Qn]
def sx8:mv:=[Qm,Ql,Qk,Qj,Qi,Qh,Qg,SM,Qf,Qe,Qd,SK,Qc,Qb]
def sx9:mv:=[SJ,Rg,Qa,Q9]
def sx10:mv:=[OD]
def sx11:mv:=[Q8,SH,Q7,Q6,Q5,Q4,Q3,Q2,Q1,Q0,QZ,QY,QX]
def sx12:mv:=[QW,QV,QU,QT,QS,QR,QP]
def Wf(P:JA):List KH:=[hE P "__doc__" 166 .none,hE P "__package__" 167 .none,hE P "__loader__" 168 (.builtin "__main__.__loader__#opaque"),hE P "__spec__" 169 .none,hE P "__annotations__" 170 (.ref 6),hE P "__builtins__" 171 (.ref 4),hE P "__file__" 173 (.str "/claim/cut.py" 172),hE P "__cached__" 174 .none]
def We(P:JA):List KH:=[hE P "_wall" 193 (.ref 21),hE P "SpotError" 213 (.ref 31),hE P "NoFraction" 229 (.ref 44),hE P "NoWall" 245 (.ref 56),hE P "TooMany" 270 (.ref 75),hE P "Crossing" 297 (.ref 94),hE P "Absent" 322 (.ref 113),hE P "NoText" 347 (.ref 132)]
def Wd(P:JA):List KH:=[hE P "NoRow" 363 (.ref 144),hE P "greatest_divisor" 373 (.ref 153),hE P "fraction" 382 (.ref 160),hE P "is_less" 390 (.ref 167),hE P "is_ahead" 400 (.ref 174),hE P "later_of" 408 (.ref 181),hE P "earlier_of" 416 (.ref 188),hE P "place_among" 427 (.ref 195)]
def Wc(P:JA):List KH:=[hE P "ahead_first" 436 (.ref 202),hE P "own_spot" 445 (.ref 209),hE P "gap" 453 (.ref 216),hE P "lean" 471 (.ref 223),hE P "side_of" 480 (.ref 230),hE P "is_above" 494 (.ref 237),hE P "above_table" 500 (.ref 242),hE P "lowest_first" 510 (.ref 249)]
def Wb(P:JA):List KH:=[hE P "corners_of" 522 (.ref 256),hE P "ends_by_number" 528 (.ref 261),hE P "MOST_FOR_FEWEST" 532 (.int 5 531),hE P "reaches_over" 540 (.ref 268),hE P "reaches_into" 548 (.ref 275),hE P "Cutter" 636 (.ref 331),hE P "fewest" 644 (.ref 342),hE P "_law_pot" 655 (.ref 349)]
def Wa(P:JA):List KH:=[hE P "_law_take" 665 (.ref 356),hE P "_law_side" 678 (.ref 363),hE P "_law_on" 686 (.ref 370),hE P "_law_apart" 698 (.ref 377),hE P "_law_new_spot" 706 (.ref 384),hE P "_law_some_spot" 715 (.ref 391),hE P "_law_square" 726 (.ref 398),hE P "_law_laid" 732 (.ref 403)]
def W9(P:JA):List KH:=[hE P "_law_shuts_here" 738 (.ref 408),hE P "_law_frac" 748 (.ref 415),hE P "_law_frame" 754 (.ref 420),hE P "_law_given" 766 (.ref 427),hE P "_law_plot" 772 (.ref 432),hE P "_law_corners" 778 (.ref 437),hE P "_law_of_others" 785 (.ref 444),hE P "_law_right" 798 (.ref 451)]
def W8(P:JA):List KH:=[hE P "law" 810 (.ref 458)]
def QE(P:JA):List KH:=Wf P++(We P++(Wd P++(Wc P++(Wb P++(Wa P++(W9 P++(W8 P)))))))
def OX:List J3:=[(.int 1 0),(.int 0 0),(.ref 20),(.int 5 0),(.int 0 0),(.ref 27),(.int 7 0),(.int 0 0),(.ref 40),(.int 9 0),(.int 0 0),(.ref 52),(.int 11 0),(.int 0 0),(.ref 64),(.int 16 0),(.int 0 0),(.ref 83),(.int 22 0),(.int 0 0),(.ref 102),(.int 27 0),(.int 0 0),(.ref 121),(.int 32 0),(.int 0 0),(.ref 140),(.int 35 0),(.int 0 0),(.ref 152),(.int 39 0),(.int 0 0),(.ref 159),(.int 46 0),(.int 0 0),(.ref 166),(.int 49 0),(.int 0 0),(.ref 173),(.int 53 0),(.int 0 0),(.ref 180),(.int 55 0),(.int 0 0),(.ref 187),(.int 57 0),(.int 0 0),(.ref 194),(.int 66 0),(.int 0 0),(.ref 201),(.int 71 0),(.int 0 0),(.ref 208),(.int 74 0),(.int 0 0),(.ref 215),(.int 76 0),(.int 0 0),(.ref 222),(.int 82 0),(.int 0 0),(.ref 229),(.int 90 0),(.int 0 0),(.ref 236),(.int 98 0),(.int 0 0),(.ref 241),(.int 100 0),(.int 0 0),(.ref 248),(.int 103 0),(.int 0 0),(.ref 255),(.int 109 0),(.int 0 0),(.ref 260),(.int 114 0),(.int 0 0),(.ref 267),(.int 116 0),(.int 0 0),(.ref 274),(.int 118 0),(.int 0 0),(.ref 281),(.int 162 0),(.int 0 0),(.ref 341),(.int 168 0),(.int 0 0),(.ref 348),(.int 173 0),(.int 0 0),(.ref 355),(.int 182 0),(.int 0 0),(.ref 362),(.int 187 0),(.int 0 0),(.ref 369),(.int 189 0),(.int 0 0),(.ref 376),(.int 196 0),(.int 0 0),(.ref 383),(.int 198 0),(.int 0 0),(.ref 390),(.int 202 0),(.int 0 0),(.ref 397),(.int 208 0),(.int 0 0),(.ref 402),(.int 213 0),(.int 0 0),(.ref 407),(.int 225 0),(.int 0 0),(.ref 414),(.int 231 0),(.int 0 0),(.ref 419),(.int 240 0),(.int 0 0),(.ref 426),(.int 243 0),(.int 0 0),(.ref 431),(.int 245 0),(.int 0 0),(.ref 436),(.int 250 0),(.int 0 0),(.ref 443),(.int 252 0),(.int 0 0),(.ref 450),(.int 271 0),(.int 0 0),(.ref 457)]
def hC(n:Str)(i j k a l b c d e m o p q r f g h:Nat)(s:Bool):Obj:={ cls:=.type "code",data:=.fields (List.toArray [.str n i,.str n j,.str "/claim/cut.py" k,.int (MR m) 0,.int (MR o) 0,.int (MR p) 0,.int (MR q) 0,.int (MR r) 0,.ref l,.bool s,.int (MR f) 0,.ref b,.none,.ref c,.ref d,.ref e,.int (MR g) 0,.int (MR h) 0,.str "/claim/cut.py" a]) }
def hF(t:J3)(s:lb)(n:Str)(g:Nat)(m c:J3):Obj:={ cls:=t,data:=.func (kU s n n g m c) }
def OC(s:lb)(n:Str)(m:J3)(r:Nat):Obj:=hF (.type "function") s n 3 m (.ref r)
def Yi:Obj:=Nr []
def Yh:Obj:={ cls:=.none,data:=.fields (Jy (OX.take 0)) }
def Yg:Obj:=Nq "<module>" "<module>" 182 183 184 1 0 0 11 MZ 12 .none .none .none 185 186
def Yf:Obj:={ cls:=(.type "frame"),slots:=(List.toArray [(MW (.ref 13)),(MW (.ref 3)),(MW (.ref 3)),MX,(MW (.str "__main__" 164)),MX,(MW (.ref 0))]) }
def Ye(P:JA):Obj:=OS 11 (hE P "__name__" 165 OJ::(QE P).take 10)
def Yd:Obj:={ cls:=.none,data:=.fields (Jy (OX.take 6)) }
def Yc:Obj:=Nr [(.str "k" 190)]
def Yb:Obj:=hF .none SO "_wall" 0 .none .none
def Ya:Obj:=hC "_wall" 187 188 189 192 15 16 17 18 19 1 1 0 0 3 181 191 1 MY
def Y9:Obj:=OC SO "_wall" (.str "__main__" 164) 20
def Y8:Obj:=Nr [(.type "ValueError")]
def Y7:Obj:={ cls:=(.type "builtin_function_or_method"),data:=(.fields (List.toArray [(.builtin "type.__prepare__"),(.type "type")])) }
def Y6(P:JA):Obj:=OS 4 [hE P "__module__" 203 OJ,hE P "__qualname__" 205 (.str "SpotError" 204),hE P "__firstlineno__" 207 (.int 5 206),hE P "__static_attributes__" 208 (.ref 29)]
def Y5:Obj:=Nq "SpotError" "SpotError" 198 199 200 5 0 0 25 MZ 26 .none .none .none 201 202
def Y4:Obj:={ cls:=(.type "frame"),slots:=(List.toArray [(MW (.ref 27)),(MW (.ref 3)),(MW (.ref 24)),MX,(MW OJ),MX,(MW (.ref 0))]) }
def Y3(P:JA):Obj:=OS 3 [hE P "__module__" 203 OJ,hE P "__firstlineno__" 207 (.int 5 206),hE P "__static_attributes__" 208 (.ref 29),hE P "__weakref__" 210 (.ref 32),hE P "__doc__" 211 .none]
def Y2:Obj:={ cls:=(.type "type"),data:=(.cls { name:="SpotError",bases:=[(.type "ValueError")],mro:=[(.ref 31),(.type "ValueError"),(.type "Exception"),(.type "BaseException"),(.type "object")],ns:=30,qualname:="SpotError",hasDict:=MY,slotNames:=[],subclasses:=[],abstract:=MZ,collection:=MX,hasDel:=MZ }),slots:=(List.toArray [(MW (.ref 22)),MX,(MW (.str "SpotError" 196)),(MW (.str "SpotError" 204)),(MW (.builtin "ValueError.__new__")),(MW (.bool MY))]) }
def Y1:Obj:={ cls:=(.type "getset_descriptor"),data:=(.fields (List.toArray [(.str "__weakref__" 209),(.ref 31),(.builtin "ExceptionGroup.__weakref__"),.none])) }
def Y0:Obj:={ cls:=(.type "super"),data:=(.fields (List.toArray [(.ref 31),(.ref 31),(.ref 31)])) }
def YZ:Obj:={ cls:=(.type "builtin_function_or_method"),data:=(.fields (List.toArray [(.builtin "object.__init_subclass__"),(.ref 31)])) }
def YY(P:JA):Obj:=OS 12 (hE P "__name__" 165 OJ::(QE P).take 11)
def YX:Obj:={ cls:=.none,data:=.fields (Jy (OX.take 9)) }
def YW:Obj:={ cls:=(.type "type"),data:=(.cls { name:="SpotError",bases:=[(.type "ValueError")],mro:=[(.ref 31),(.type "ValueError"),(.type "Exception"),(.type "BaseException"),(.type "object")],ns:=30,qualname:="SpotError",hasDict:=MY,slotNames:=[],subclasses:=[(.ref 44)],abstract:=MZ,collection:=MX,hasDel:=MZ }),slots:=(List.toArray [(MW (.ref 22)),MX,(MW (.str "SpotError" 196)),(MW (.str "SpotError" 204)),(MW (.builtin "ValueError.__new__")),(MW (.bool MY))]) }
def YV:Obj:=Nr [(.ref 31)]
def YU(P:JA):Obj:=OS 4 [hE P "__module__" 221 OJ,hE P "__qualname__" 223 (.str "NoFraction" 222),hE P "__firstlineno__" 225 (.int 7 224),hE P "__static_attributes__" 226 (.ref 42)]
def YT:Obj:=Nq "NoFraction" "NoFraction" 216 217 218 7 0 0 38 MZ 39 .none .none .none 219 220
def YS:Obj:={ cls:=(.type "frame"),slots:=(List.toArray [(MW (.ref 40)),(MW (.ref 3)),(MW (.ref 37)),MX,(MW OJ),MX,(MW (.ref 0))]) }
def YR(P:JA):Obj:=OS 2 [hE P "__module__" 221 OJ,hE P "__firstlineno__" 225 (.int 7 224),hE P "__static_attributes__" 226 (.ref 42),hE P "__doc__" 227 .none]
def YQ:Obj:={ cls:=(.type "type"),data:=(.cls { name:="NoFraction",bases:=[(.ref 31)],mro:=[(.ref 44),(.ref 31),(.type "ValueError"),(.type "Exception"),(.type "BaseException"),(.type "object")],ns:=43,qualname:="NoFraction",hasDict:=MY,slotNames:=[],subclasses:=[],abstract:=MZ,collection:=MX,hasDel:=MZ }),slots:=(List.toArray [(MW (.ref 35)),MX,(MW (.str "NoFraction" 214)),(MW (.str "NoFraction" 222)),(MW (.builtin "ValueError.__new__")),(MW (.bool MY))]) }
def YO:Obj:={ cls:=(.type "super"),data:=(.fields (List.toArray [(.ref 44),(.ref 44),(.ref 44)])) }
def YN:Obj:={ cls:=(.type "builtin_function_or_method"),data:=(.fields (List.toArray [(.builtin "object.__init_subclass__"),(.ref 44)])) }
def YM(P:JA):Obj:=OS 13 (hE P "__name__" 165 OJ::(QE P).take 12)
def YL:Obj:={ cls:=.none,data:=.fields (Jy (OX.take 12)) }
def YK:Obj:={ cls:=(.type "type"),data:=(.cls { name:="SpotError",bases:=[(.type "ValueError")],mro:=[(.ref 31),(.type "ValueError"),(.type "Exception"),(.type "BaseException"),(.type "object")],ns:=30,qualname:="SpotError",hasDict:=MY,slotNames:=[],subclasses:=[(.ref 44),(.ref 56)],abstract:=MZ,collection:=MX,hasDel:=MZ }),slots:=(List.toArray [(MW (.ref 22)),MX,(MW (.str "SpotError" 196)),(MW (.str "SpotError" 204)),(MW (.builtin "ValueError.__new__")),(MW (.bool MY))]) }
def YJ(P:JA):Obj:=OS 4 [hE P "__module__" 237 OJ,hE P "__qualname__" 239 (.str "NoWall" 238),hE P "__firstlineno__" 241 (.int 9 240),hE P "__static_attributes__" 242 (.ref 54)]
def YI:Obj:=Nq "NoWall" "NoWall" 232 233 234 9 0 0 50 MZ 51 .none .none .none 235 236
def YH:Obj:={ cls:=(.type "frame"),slots:=(List.toArray [(MW (.ref 52)),(MW (.ref 3)),(MW (.ref 49)),MX,(MW OJ),MX,(MW (.ref 0))]) }
def YG(P:JA):Obj:=OS 2 [hE P "__module__" 237 OJ,hE P "__firstlineno__" 241 (.int 9 240),hE P "__static_attributes__" 242 (.ref 54),hE P "__doc__" 243 .none]
def YF:Obj:={ cls:=(.type "type"),data:=(.cls { name:="NoWall",bases:=[(.ref 31)],mro:=[(.ref 56),(.ref 31),(.type "ValueError"),(.type "Exception"),(.type "BaseException"),(.type "object")],ns:=55,qualname:="NoWall",hasDict:=MY,slotNames:=[],subclasses:=[],abstract:=MZ,collection:=MX,hasDel:=MZ }),slots:=(List.toArray [(MW (.ref 47)),MX,(MW (.str "NoWall" 230)),(MW (.str "NoWall" 238)),(MW (.builtin "ValueError.__new__")),(MW (.bool MY))]) }
def YE:Obj:={ cls:=(.type "super"),data:=(.fields (List.toArray [(.ref 56),(.ref 56),(.ref 56)])) }
def YD:Obj:={ cls:=(.type "builtin_function_or_method"),data:=(.fields (List.toArray [(.builtin "object.__init_subclass__"),(.ref 56)])) }
def YC(P:JA):Obj:=OS 14 (hE P "__name__" 165 OJ::(QE P).take 13)
def YB:Obj:={ cls:=.none,data:=.fields (Jy (OX.take 15)) }
def YA:Obj:={ cls:=(.type "type"),data:=(.cls { name:="SpotError",bases:=[(.type "ValueError")],mro:=[(.ref 31),(.type "ValueError"),(.type "Exception"),(.type "BaseException"),(.type "object")],ns:=30,qualname:="SpotError",hasDict:=MY,slotNames:=[],subclasses:=[(.ref 44),(.ref 56),(.ref 75)],abstract:=MZ,collection:=MX,hasDel:=MZ }),slots:=(List.toArray [(MW (.ref 22)),MX,(MW (.str "SpotError" 196)),(MW (.str "SpotError" 204)),(MW (.builtin "ValueError.__new__")),(MW (.bool MY))]) }
def Xz(P:JA):Obj:=OS 5 [hE P "__module__" 253 OJ,hE P "__qualname__" 255 (.str "TooMany" 254),hE P "__firstlineno__" 257 (.int 11 256),hE P "__init__" 265 (.ref 72),hE P "__static_attributes__" 267 (.ref 73)]
def Xy:Obj:=W5 [(.int 13 0),(.int 4 0),(.ref 71)]
def Xx:Obj:=Nq "TooMany" "TooMany" 248 249 250 11 0 0 62 MZ 63 .none .none .none 251 252
def Xw:Obj:={ cls:=(.type "frame"),slots:=(List.toArray [(MW (.ref 64)),(MW (.ref 3)),(MW (.ref 61)),MX,(MW OJ),MX,(MW (.ref 0))]) }
def Xv:Obj:=Nr [(.str "self" 261),(.str "count" 262)]
def Xu:Obj:={ cls:=.none,data:=(.func (kU (kC Ot 0) "__init__" "TooMany.__init__" 0 .none .none)) }
def Xt:Obj:=Nq "__init__" "TooMany.__init__" 258 259 260 13 2 3 66 MY 67 (.ref 68) (.ref 69) (.ref 70) 263 264
def Xs:Obj:={ cls:=(.type "function"),data:=(.func (kU (kC Ot 0) "__init__" "TooMany.__init__" 3 OJ (.ref 71))) }
def Xr:Obj:=Nr [(.str "count" 266)]
def Xq(P:JA):Obj:=OS 2 [hE P "__module__" 253 OJ,hE P "__firstlineno__" 257 (.int 11 256),hE P "__init__" 265 (.ref 72),hE P "__static_attributes__" 267 (.ref 73),hE P "__doc__" 268 .none]
def Xp:Obj:={ cls:=(.type "type"),data:=(.cls { name:="TooMany",bases:=[(.ref 31)],mro:=[(.ref 75),(.ref 31),(.type "ValueError"),(.type "Exception"),(.type "BaseException"),(.type "object")],ns:=74,qualname:="TooMany",hasDict:=MY,slotNames:=[],subclasses:=[],abstract:=MZ,collection:=MX,hasDel:=MZ }),slots:=(List.toArray [(MW (.ref 59)),MX,(MW (.str "TooMany" 246)),(MW (.str "TooMany" 254)),(MW (.builtin "ValueError.__new__")),(MW (.bool MY))]) }
def Xo:Obj:={ cls:=(.type "super"),data:=(.fields (List.toArray [(.ref 75),(.ref 75),(.ref 75)])) }
def Xn:Obj:={ cls:=(.type "builtin_function_or_method"),data:=(.fields (List.toArray [(.builtin "object.__init_subclass__"),(.ref 75)])) }
def Xm(P:JA):Obj:=OS 15 (hE P "__name__" 165 OJ::(QE P).take 14)
def Xl:Obj:={ cls:=.none,data:=.fields (Jy (OX.take 18)) }
def Xk:Obj:={ cls:=(.type "type"),data:=(.cls { name:="SpotError",bases:=[(.type "ValueError")],mro:=[(.ref 31),(.type "ValueError"),(.type "Exception"),(.type "BaseException"),(.type "object")],ns:=30,qualname:="SpotError",hasDict:=MY,slotNames:=[],subclasses:=[(.ref 44),(.ref 56),(.ref 75),(.ref 94)],abstract:=MZ,collection:=MX,hasDel:=MZ }),slots:=(List.toArray [(MW (.ref 22)),MX,(MW (.str "SpotError" 196)),(MW (.str "SpotError" 204)),(MW (.builtin "ValueError.__new__")),(MW (.bool MY))]) }
def Xj(P:JA):Obj:=OS 5 [hE P "__module__" 278 OJ,hE P "__qualname__" 280 (.str "Crossing" 279),hE P "__firstlineno__" 282 (.int 16 281),hE P "__init__" 291 (.ref 91),hE P "__static_attributes__" 294 (.ref 92)]
def Xi:Obj:=W5 [(.int 18 0),(.int 4 0),(.ref 90)]
def Xh:Obj:=Nq "Crossing" "Crossing" 273 274 275 16 0 0 81 MZ 82 .none .none .none 276 277
def Xg:Obj:={ cls:=(.type "frame"),slots:=(List.toArray [(MW (.ref 83)),(MW (.ref 3)),(MW (.ref 80)),MX,(MW OJ),MX,(MW (.ref 0))]) }
def Xf:Obj:=Nr [(.str "self" 286),(.str "wall" 287),(.str "other" 288)]
def Xe:Obj:={ cls:=.none,data:=(.func (kU (kC Rt 0) "__init__" "Crossing.__init__" 0 .none .none)) }
def Xd:Obj:=Nq "__init__" "Crossing.__init__" 283 284 285 18 3 3 85 MY 86 (.ref 87) (.ref 88) (.ref 89) 289 290
def Xc:Obj:={ cls:=(.type "function"),data:=(.func (kU (kC Rt 0) "__init__" "Crossing.__init__" 3 OJ (.ref 90))) }
def Xb:Obj:=Nr [(.str "other" 292),(.str "wall" 293)]
def Xa(P:JA):Obj:=OS 2 [hE P "__module__" 278 OJ,hE P "__firstlineno__" 282 (.int 16 281),hE P "__init__" 291 (.ref 91),hE P "__static_attributes__" 294 (.ref 92),hE P "__doc__" 295 .none]
def X9:Obj:={ cls:=(.type "type"),data:=(.cls { name:="Crossing",bases:=[(.ref 31)],mro:=[(.ref 94),(.ref 31),(.type "ValueError"),(.type "Exception"),(.type "BaseException"),(.type "object")],ns:=93,qualname:="Crossing",hasDict:=MY,slotNames:=[],subclasses:=[],abstract:=MZ,collection:=MX,hasDel:=MZ }),slots:=(List.toArray [(MW (.ref 78)),MX,(MW (.str "Crossing" 271)),(MW (.str "Crossing" 279)),(MW (.builtin "ValueError.__new__")),(MW (.bool MY))]) }
def X8:Obj:={ cls:=(.type "super"),data:=(.fields (List.toArray [(.ref 94),(.ref 94),(.ref 94)])) }
def X7:Obj:={ cls:=(.type "builtin_function_or_method"),data:=(.fields (List.toArray [(.builtin "object.__init_subclass__"),(.ref 94)])) }
def X6(P:JA):Obj:=OS 16 (hE P "__name__" 165 OJ::(QE P).take 15)
def X5:Obj:={ cls:=.none,data:=.fields (Jy (OX.take 21)) }
def X4:Obj:={ cls:=(.type "type"),data:=(.cls { name:="SpotError",bases:=[(.type "ValueError")],mro:=[(.ref 31),(.type "ValueError"),(.type "Exception"),(.type "BaseException"),(.type "object")],ns:=30,qualname:="SpotError",hasDict:=MY,slotNames:=[],subclasses:=[(.ref 44),(.ref 56),(.ref 75),(.ref 94),(.ref 113)],abstract:=MZ,collection:=MX,hasDel:=MZ }),slots:=(List.toArray [(MW (.ref 22)),MX,(MW (.str "SpotError" 196)),(MW (.str "SpotError" 204)),(MW (.builtin "ValueError.__new__")),(MW (.bool MY))]) }
def X3(P:JA):Obj:=OS 5 [hE P "__module__" 305 OJ,hE P "__qualname__" 307 (.str "Absent" 306),hE P "__firstlineno__" 309 (.int 22 308),hE P "__init__" 317 (.ref 110),hE P "__static_attributes__" 319 (.ref 111)]
def X2:Obj:=W5 [(.int 24 0),(.int 4 0),(.ref 109)]
def X1:Obj:=Nq "Absent" "Absent" 300 301 302 22 0 0 100 MZ 101 .none .none .none 303 304
def X0:Obj:={ cls:=(.type "frame"),slots:=(List.toArray [(MW (.ref 102)),(MW (.ref 3)),(MW (.ref 99)),MX,(MW OJ),MX,(MW (.ref 0))]) }
def XZ:Obj:=Nr [(.str "self" 313),(.str "number" 314)]
def XY:Obj:={ cls:=.none,data:=(.func (kU (kC Oo 0) "__init__" "Absent.__init__" 0 .none .none)) }
def XX:Obj:=Nq "__init__" "Absent.__init__" 310 311 312 24 2 3 104 MY 105 (.ref 106) (.ref 107) (.ref 108) 315 316
def XW:Obj:={ cls:=(.type "function"),data:=(.func (kU (kC Oo 0) "__init__" "Absent.__init__" 3 OJ (.ref 109))) }
def XU:Obj:=Nr [(.str "number" 318)]
def XT(P:JA):Obj:=OS 2 [hE P "__module__" 305 OJ,hE P "__firstlineno__" 309 (.int 22 308),hE P "__init__" 317 (.ref 110),hE P "__static_attributes__" 319 (.ref 111),hE P "__doc__" 320 .none]
def XS:Obj:={ cls:=(.type "type"),data:=(.cls { name:="Absent",bases:=[(.ref 31)],mro:=[(.ref 113),(.ref 31),(.type "ValueError"),(.type "Exception"),(.type "BaseException"),(.type "object")],ns:=112,qualname:="Absent",hasDict:=MY,slotNames:=[],subclasses:=[],abstract:=MZ,collection:=MX,hasDel:=MZ }),slots:=(List.toArray [(MW (.ref 97)),MX,(MW (.str "Absent" 298)),(MW (.str "Absent" 306)),(MW (.builtin "ValueError.__new__")),(MW (.bool MY))]) }
def XR:Obj:={ cls:=(.type "super"),data:=(.fields (List.toArray [(.ref 113),(.ref 113),(.ref 113)])) }
def XQ:Obj:={ cls:=(.type "builtin_function_or_method"),data:=(.fields (List.toArray [(.builtin "object.__init_subclass__"),(.ref 113)])) }
def W3(P:JA):Obj:=OS 17 (hE P "__name__" 165 OJ::(QE P).take 16)
def W0:Obj:={ cls:=.none,data:=.fields (Jy (OX.take 24)) }
def WZ:Obj:={ cls:=(.type "type"),data:=(.cls { name:="SpotError",bases:=[(.type "ValueError")],mro:=[(.ref 31),(.type "ValueError"),(.type "Exception"),(.type "BaseException"),(.type "object")],ns:=30,qualname:="SpotError",hasDict:=MY,slotNames:=[],subclasses:=[(.ref 44),(.ref 56),(.ref 75),(.ref 94),(.ref 113),(.ref 132)],abstract:=MZ,collection:=MX,hasDel:=MZ }),slots:=(List.toArray [(MW (.ref 22)),MX,(MW (.str "SpotError" 196)),(MW (.str "SpotError" 204)),(MW (.builtin "ValueError.__new__")),(MW (.bool MY))]) }
def WY(P:JA):Obj:=OS 5 [hE P "__module__" 330 OJ,hE P "__qualname__" 332 (.str "NoText" 331),hE P "__firstlineno__" 334 (.int 27 333),hE P "__init__" 342 (.ref 129),hE P "__static_attributes__" 344 (.ref 130)]
def WX:Obj:=W5 [(.int 29 0),(.int 4 0),(.ref 128)]
def WW:Obj:=Nq "NoText" "NoText" 325 326 327 27 0 0 119 MZ 120 .none .none .none 328 329
def WV:Obj:={ cls:=(.type "frame"),slots:=(List.toArray [(MW (.ref 121)),(MW (.ref 3)),(MW (.ref 118)),MX,(MW OJ),MX,(MW (.ref 0))]) }
def WU:Obj:=Nr [(.str "self" 338),(.str "row" 339)]
def WT:Obj:={ cls:=.none,data:=(.func (kU (kC SG 0) "__init__" "NoText.__init__" 0 .none .none)) }
def WS:Obj:=Nq "__init__" "NoText.__init__" 335 336 337 29 2 3 123 MY 124 (.ref 125) (.ref 126) (.ref 127) 340 341
def WR:Obj:={ cls:=(.type "function"),data:=(.func (kU (kC SG 0) "__init__" "NoText.__init__" 3 OJ (.ref 128))) }
def WQ:Obj:=Nr [(.str "row" 343)]
def WO(P:JA):Obj:=OS 2 [hE P "__module__" 330 OJ,hE P "__firstlineno__" 334 (.int 27 333),hE P "__init__" 342 (.ref 129),hE P "__static_attributes__" 344 (.ref 130),hE P "__doc__" 345 .none]
def WN:Obj:={ cls:=(.type "type"),data:=(.cls { name:="NoText",bases:=[(.ref 31)],mro:=[(.ref 132),(.ref 31),(.type "ValueError"),(.type "Exception"),(.type "BaseException"),(.type "object")],ns:=131,qualname:="NoText",hasDict:=MY,slotNames:=[],subclasses:=[],abstract:=MZ,collection:=MX,hasDel:=MZ }),slots:=(List.toArray [(MW (.ref 116)),MX,(MW (.str "NoText" 323)),(MW (.str "NoText" 331)),(MW (.builtin "ValueError.__new__")),(MW (.bool MY))]) }
def WM:Obj:={ cls:=(.type "super"),data:=(.fields (List.toArray [(.ref 132),(.ref 132),(.ref 132)])) }
def WL:Obj:={ cls:=(.type "builtin_function_or_method"),data:=(.fields (List.toArray [(.builtin "object.__init_subclass__"),(.ref 132)])) }
def WK(P:JA):Obj:=OS 23 (hE P "__name__" 165 (.str "spotlook.spots" 391)::(QE P).take 22)
def WJ:Obj:={ cls:=.none,data:=.fields (Jy (OX.take 42)) }
def WI:Obj:={ cls:=(.type "type"),data:=(.cls { name:="SpotError",bases:=[(.type "ValueError")],mro:=[(.ref 31),(.type "ValueError"),(.type "Exception"),(.type "BaseException"),(.type "object")],ns:=30,qualname:="SpotError",hasDict:=MY,slotNames:=[],subclasses:=[(.ref 44),(.ref 56),(.ref 75),(.ref 94),(.ref 113),(.ref 132),(.ref 144)],abstract:=MZ,collection:=MX,hasDel:=MZ }),slots:=(List.toArray [(MW (.ref 22)),MX,(MW (.str "SpotError" 196)),(MW (.str "SpotError" 204)),(MW (.builtin "ValueError.__new__")),(MW (.bool MY))]) }
def WH(P:JA):Obj:=OS 4 [hE P "__module__" 355 OJ,hE P "__qualname__" 357 (.str "NoRow" 356),hE P "__firstlineno__" 359 (.int 32 358),hE P "__static_attributes__" 360 (.ref 142)]
def WG:Obj:=Nq "NoRow" "NoRow" 350 351 352 32 0 0 138 MZ 139 .none .none .none 353 354
def WE:Obj:={ cls:=(.type "frame"),slots:=(List.toArray [(MW (.ref 140)),(MW (.ref 3)),(MW (.ref 137)),MX,(MW OJ),MX,(MW (.ref 0))]) }
def WD(P:JA):Obj:=OS 2 [hE P "__module__" 355 OJ,hE P "__firstlineno__" 359 (.int 32 358),hE P "__static_attributes__" 360 (.ref 142),hE P "__doc__" 361 .none]
def WC:Obj:={ cls:=(.type "type"),data:=(.cls { name:="NoRow",bases:=[(.ref 31)],mro:=[(.ref 144),(.ref 31),(.type "ValueError"),(.type "Exception"),(.type "BaseException"),(.type "object")],ns:=143,qualname:="NoRow",hasDict:=MY,slotNames:=[],subclasses:=[],abstract:=MZ,collection:=MX,hasDel:=MZ }),slots:=(List.toArray [(MW (.ref 135)),MX,(MW (.str "NoRow" 348)),(MW (.str "NoRow" 356)),(MW (.builtin "ValueError.__new__")),(MW (.bool MY))]) }
def WB:Obj:={ cls:=(.type "super"),data:=(.fields (List.toArray [(.ref 144),(.ref 144),(.ref 144)])) }
def WA:Obj:={ cls:=(.type "builtin_function_or_method"),data:=(.fields (List.toArray [(.builtin "object.__init_subclass__"),(.ref 144)])) }
def Vz:Obj:=Nr [(.str "one" 369),(.str "other" 370)]
def Vy:Obj:=hF .none PZ "greatest_divisor" 0 .none .none
def Vx:Obj:=hC "greatest_divisor" 366 367 368 372 147 148 149 150 151 35 2 0 0 3 181 371 35 MY
def Vw:Obj:=OC PZ "greatest_divisor" (.str "spotlook.fractions" 364) 152
def Vv:Obj:=Nr [(.str "top" 377),(.str "bottom" 378),(.str "divisor" 379)]
def Vu:Obj:=hF .none Qp "fraction" 0 .none .none
def Vt:Obj:=hC "fraction" 374 375 376 381 154 155 156 157 158 39 2 0 0 3 181 380 39 MY
def Vs:Obj:=OC Qp "fraction" (.str "spotlook.fractions" 364) 159
def Vr:Obj:=Nr [(.str "one" 386),(.str "other" 387)]
def Vq:Obj:=hF .none PH "is_less" 0 .none .none
def Vp:Obj:=hC "is_less" 383 384 385 389 161 162 163 164 165 46 2 0 0 3 181 388 46 MY
def Vo:Obj:=OC PH "is_less" (.str "spotlook.fractions" 364) 166
def Vn:Obj:=Nr [(.str "one" 396),(.str "other" 397)]
def Vm:Obj:=hF .none Qo "is_ahead" 0 .none .none
def Vl:Obj:=hC "is_ahead" 393 394 395 399 168 169 170 171 172 49 2 0 0 3 181 398 49 MY
def Vk:Obj:=OC Qo "is_ahead" (.str "spotlook.spots" 391) 173
def Vj:Obj:=Nr [(.str "one" 404),(.str "other" 405)]
def Vi:Obj:=hF .none Qn "later_of" 0 .none .none
def Vh:Obj:=hC "later_of" 401 402 403 407 175 176 177 178 179 53 2 0 0 3 181 406 53 MY
def Vg:Obj:=OC Qn "later_of" (.str "spotlook.spots" 391) 180
def Vf(P:JA):Obj:=OS 35 (hE P "__name__" 165 (.str "spotlook.plots" 511)::(QE P).take 34)
def Ve:Obj:={ cls:=.none,data:=.fields (Jy (OX.take 78)) }
def Vd:Obj:=Nr [(.str "one" 412),(.str "other" 413)]
def Vb:Obj:=hF .none Qm "earlier_of" 0 .none .none
def Va:Obj:=hC "earlier_of" 409 410 411 415 182 183 184 185 186 55 2 0 0 3 181 414 55 MY
def V9:Obj:=OC Qm "earlier_of" (.str "spotlook.spots" 391) 187
def V8:Obj:=Nr [(.str "row" 420),(.str "spot" 421),(.str "low" 422),(.str "high" 423),(.str "middle" 424)]
def V7:Obj:=hF .none Ql "place_among" 0 .none .none
def V6:Obj:=hC "place_among" 417 418 419 426 189 190 191 192 193 57 2 0 0 3 181 425 57 MY
def V5:Obj:=OC Ql "place_among" (.str "spotlook.spots" 391) 194
def V4:Obj:=Nr [(.str "spots" 431),(.str "row" 432),(.str "spot" 433)]
def V3:Obj:=hF .none Qk "ahead_first" 0 .none .none
def V2:Obj:=hC "ahead_first" 428 429 430 435 196 197 198 199 200 66 1 0 0 3 181 434 66 MY
def V1:Obj:=OC Qk "ahead_first" (.str "spotlook.spots" 391) 201
def V0:Obj:=Nr [(.str "spot" 440),(.str "x" 441),(.str "y" 442)]
def VZ:Obj:=hF .none Qj "own_spot" 0 .none .none
def VY:Obj:=hC "own_spot" 437 438 439 444 203 204 205 206 207 71 1 0 0 3 181 443 71 MY
def VX:Obj:=OC Qj "own_spot" (.str "spotlook.spots" 391) 208
def VW:Obj:=Nr [(.str "one" 449),(.str "other" 450)]
def VV:Obj:=hF .none Qi "gap" 0 .none .none
def VU:Obj:=hC "gap" 446 447 448 452 210 211 212 213 214 74 2 0 0 3 181 451 74 MY
def VT:Obj:=OC Qi "gap" (.str "spotlook.spots" 391) 215
def VS:Obj:=Nr [(.str "wall" 457),(.str "spot" 458),(.str "a" 459),(.str "b" 460),(.str "c" 461),(.str "d" 462),(.str "x" 463),(.str "y" 464),(.str "across" 465),(.str "up" 466),(.str "along" 467),(.str "high" 468)]
def VR:Obj:=hF .none Qh "lean" 0 .none .none
def VQ:Obj:=hC "lean" 454 455 456 470 217 218 219 220 221 76 2 0 0 3 181 469 76 MY
def VP:Obj:=OC Qh "lean" (.str "spotlook.spots" 391) 222
def VO:Obj:=Nr [(.str "wall" 475),(.str "spot" 476),(.str "top" 477)]
def VN:Obj:=hF .none Qg "side_of" 0 .none .none
def VM:Obj:=hC "side_of" 472 473 474 479 224 225 226 227 228 82 2 0 0 3 181 478 82 MY
def VL:Obj:=OC Qg "side_of" (.str "spotlook.spots" 391) 229
def VJ:Obj:=Nr [(.str "one" 486),(.str "other" 487),(.str "start" 488),(.str "end" 489),(.str "place" 490),(.str "deciding" 491)]
def VI:Obj:=hF .none Qf "is_above" 0 .none .none
def VH:Obj:=hC "is_above" 483 484 485 493 231 232 233 234 235 90 2 0 0 3 181 492 90 MY
def VG:Obj:=OC Qf "is_above" (.str "spotlook.above" 481) 236
def VF:Obj:=hF .none Qe "above_table" 0 .none .none
def VE:Obj:=Nq "above_table" "above_table" 495 496 497 98 1 3 238 MY 239 .none .none (.ref 240) 498 499
def VD:Obj:=OC Qe "above_table" (.str "spotlook.above" 481) 241
def VC:Obj:=Nr [(.str "row" 504),(.str "above" 505)]
def VB:Obj:=Nr [(.str "row" 506),(.str "above" 507)]
def VA:Obj:=hF .none Qd "lowest_first" 0 .none .none
def Uz:Obj:=hC "lowest_first" 501 502 503 509 243 244 245 246 247 100 2 0 0 3 181 508 100 MY
def Uy:Obj:=OC Qd "lowest_first" (.str "spotlook.above" 481) 248
def Ux:Obj:=Nr [(.str "plot" 516),(.str "corners" 517),(.str "wall" 518),(.str "end" 519)]
def Uw:Obj:=hF .none Qc "corners_of" 0 .none .none
def Uv:Obj:=hC "corners_of" 513 514 515 521 250 251 252 253 254 103 1 0 0 3 181 520 103 MY
def Uu:Obj:=OC Qc "corners_of" (.str "spotlook.plots" 511) 255
def Ut:Obj:=hF .none Qb "ends_by_number" 0 .none .none
def Us:Obj:=Nq "ends_by_number" "ends_by_number" 523 524 525 109 2 3 257 MY 258 .none .none (.ref 259) 526 527
def Ur:Obj:=OC Qb "ends_by_number" (.str "spotlook.plots" 511) 260
def Uq(P:JA):Obj:=OS 38 (hE P "__name__" 165 (.str "spotlook.cuts" 529)::(QE P).take 37)
def Uo:Obj:={ cls:=.none,data:=.fields (Jy (OX.take 84)) }
def Um:Obj:=Nr [(.str "ends" 536),(.str "strip" 537)]
def Ul:Obj:=hF .none Qa "reaches_over" 0 .none .none
def Uk:Obj:=hC "reaches_over" 533 534 535 539 262 263 264 265 266 114 2 0 0 3 181 538 114 MY
def Uj:Obj:=OC Qa "reaches_over" (.str "spotlook.cuts" 529) 267
def Ui:Obj:=Nr [(.str "ends" 544),(.str "strip" 545)]
def Uh:Obj:=hF .none Q9 "reaches_into" 0 .none .none
def Ug:Obj:=hC "reaches_into" 541 542 543 547 269 270 271 272 273 116 2 0 0 3 181 546 116 MY
def Ue:Obj:=OC Q9 "reaches_into" (.str "spotlook.cuts" 529) 274
def Ud(P:JA):Obj:=OS 39 (hE P "__name__" 165 (.str "spotlook.cuts" 529)::(QE P).take 38)
def Uc:Obj:={ cls:=.none,data:=.fields (Jy (OX.take 87)) }
def Ub(P:JA):Obj:=OS 12 [hE P "__module__" 556 (.str "spotlook.cuts" 529),hE P "__qualname__" 558 (.str "Cutter" 557),hE P "__firstlineno__" 560 (.int 118 559),hE P "__init__" 569 (.ref 289),hE P "walls_over" 575 (.ref 294),hE P "corners_between" 581 (.ref 299),hE P "cut_at_wall" 587 (.ref 304),hE P "cut_at_corner" 593 (.ref 309),hE P "tree_for" 604 (.ref 316),hE P "all_cuts" 618 (.ref 323),hE P "fewest_for" 624 (.ref 328),hE P "__static_attributes__" 629 (.ref 329)]
def Ua:Obj:=W5 [(.int 120 0),(.int 4 0),(.ref 288),(.int 127 0),(.int 4 0),(.ref 293),(.int 130 0),(.int 4 0),(.ref 298),(.int 134 0),(.int 4 0),(.ref 303),(.int 138 0),(.int 4 0),(.ref 308),(.int 143 0),(.int 4 0),(.ref 315),(.int 146 0),(.int 4 0),(.ref 322),(.int 155 0),(.int 4 0),(.ref 327)]
def U9:Obj:=Nq "Cutter" "Cutter" 551 552 553 118 0 0 279 MZ 280 .none .none .none 554 555
def U8:Obj:={ cls:=(.type "frame"),slots:=(List.toArray [(MW (.ref 281)),(MW (.ref 3)),(MW (.ref 278)),MX,(MW (.str "spotlook.cuts" 529)),MX,(MW (.ref 0))]) }
def U7:Obj:=Nr [(.str "self" 564),(.str "plot" 565),(.str "corners" 566)]
def U6:Obj:={ cls:=.none,data:=(.func (kU (kC OD 0) "__init__" "Cutter.__init__" 0 .none .none)) }
def U5:Obj:=Nq "__init__" "Cutter.__init__" 561 562 563 120 2 3 283 MY 284 (.ref 285) (.ref 286) (.ref 287) 567 568
def U4:Obj:={ cls:=(.type "function"),data:=(.func (kU (kC OD 0) "__init__" "Cutter.__init__" 3 (.str "spotlook.cuts" 529) (.ref 288))) }
def U0:Obj:={ cls:=.none,data:=(.func (kU (kC OD 1) "walls_over" "Cutter.walls_over" 0 .none .none)) }
def UZ:Obj:=Nq "walls_over" "Cutter.walls_over" 570 571 572 127 3 3 290 MY 291 .none .none (.ref 292) 573 574
def UY:Obj:={ cls:=(.type "function"),data:=(.func (kU (kC OD 1) "walls_over" "Cutter.walls_over" 3 (.str "spotlook.cuts" 529) (.ref 293))) }
def UX:Obj:={ cls:=.none,data:=(.func (kU (kC OD 2) "corners_between" "Cutter.corners_between" 0 .none .none)) }
def UW:Obj:=Nq "corners_between" "Cutter.corners_between" 576 577 578 130 3 3 295 MY 296 .none .none (.ref 297) 579 580
def UU:Obj:={ cls:=(.type "function"),data:=(.func (kU (kC OD 2) "corners_between" "Cutter.corners_between" 3 (.str "spotlook.cuts" 529) (.ref 298))) }
def UT:Obj:={ cls:=.none,data:=(.func (kU (kC OD 3) "cut_at_wall" "Cutter.cut_at_wall" 0 .none .none)) }
def US:Obj:=Nq "cut_at_wall" "Cutter.cut_at_wall" 582 583 584 134 3 3 300 MY 301 .none .none (.ref 302) 585 586
def UR:Obj:={ cls:=(.type "function"),data:=(.func (kU (kC OD 3) "cut_at_wall" "Cutter.cut_at_wall" 3 (.str "spotlook.cuts" 529) (.ref 303))) }
def UQ:Obj:={ cls:=.none,data:=(.func (kU (kC OD 4) "cut_at_corner" "Cutter.cut_at_corner" 0 .none .none)) }
def UP:Obj:=Nq "cut_at_corner" "Cutter.cut_at_corner" 588 589 590 138 4 3 305 MY 306 .none .none (.ref 307) 591 592
def UO:Obj:={ cls:=(.type "function"),data:=(.func (kU (kC OD 4) "cut_at_corner" "Cutter.cut_at_corner" 3 (.str "spotlook.cuts" 529) (.ref 308))) }
def UN:Obj:=Nr [(.str "self" 597),(.str "strip" 598),(.str "walls" 599),(.str "land" 600),(.str "lands" 601)]
def UM:Obj:={ cls:=.none,data:=(.func (kU (kC OD 5) "tree_for" "Cutter.tree_for" 0 .none .none)) }
def UL:Obj:=Nq "tree_for" "Cutter.tree_for" 594 595 596 143 5 3 310 MY 311 (.ref 312) (.ref 313) (.ref 314) 602 603
def UK:Obj:={ cls:=(.type "function"),data:=(.func (kU (kC OD 5) "tree_for" "Cutter.tree_for" 3 (.str "spotlook.cuts" 529) (.ref 315))) }
def UJ:Obj:=Nr [(.str "self" 608),(.str "strip" 609),(.str "walls" 610),(.str "cuts" 611),(.str "wall" 612),(.str "below" 613),(.str "above" 614),(.str "corner" 615)]
def UI:Obj:={ cls:=.none,data:=(.func (kU (kC OD 6) "all_cuts" "Cutter.all_cuts" 0 .none .none)) }
def UH:Obj:=Nq "all_cuts" "Cutter.all_cuts" 605 606 607 146 3 3 317 MY 318 (.ref 319) (.ref 320) (.ref 321) 616 617
def UG:Obj:={ cls:=(.type "function"),data:=(.func (kU (kC OD 6) "all_cuts" "Cutter.all_cuts" 3 (.str "spotlook.cuts" 529) (.ref 322))) }
def UE:Obj:={ cls:=.none,data:=(.func (kU (kC OD 7) "fewest_for" "Cutter.fewest_for" 0 .none .none)) }
def UD:Obj:=Nq "fewest_for" "Cutter.fewest_for" 619 620 621 155 4 3 324 MY 325 .none .none (.ref 326) 622 623
def UC:Obj:={ cls:=(.type "function"),data:=(.func (kU (kC OD 7) "fewest_for" "Cutter.fewest_for" 3 (.str "spotlook.cuts" 529) (.ref 327))) }
def UB:Obj:=Nr [(.str "above" 625),(.str "all_walls" 626),(.str "ends" 627),(.str "whole_strip" 628)]
def UA(P:JA):Obj:=OS 4 [hE P "__module__" 556 (.str "spotlook.cuts" 529),hE P "__firstlineno__" 560 (.int 118 559),hE P "__init__" 569 (.ref 289),hE P "walls_over" 575 (.ref 294),hE P "corners_between" 581 (.ref 299),hE P "cut_at_wall" 587 (.ref 304),hE P "cut_at_corner" 593 (.ref 309),hE P "tree_for" 604 (.ref 316),hE P "all_cuts" 618 (.ref 323),hE P "fewest_for" 624 (.ref 328),hE P "__static_attributes__" 629 (.ref 329),hE P "__dict__" 631 (.ref 332),hE P "__weakref__" 633 (.ref 333),hE P "__doc__" 634 .none]
def Tz:Obj:={ cls:=(.type "type"),data:=(.cls { name:="Cutter",bases:=[(.type "object")],mro:=[(.ref 331),(.type "object")],ns:=330,qualname:="Cutter",hasDict:=MY,slotNames:=[],subclasses:=[],abstract:=MZ,collection:=MX,hasDel:=MZ }),slots:=(List.toArray [MX,MX,(MW (.str "Cutter" 549)),(MW (.str "Cutter" 557)),(MW (.builtin "object.__new__")),(MW (.bool MY))]) }
def Tw:Obj:={ cls:=(.type "getset_descriptor"),data:=(.fields (List.toArray [(.str "__dict__" 630),(.ref 331),(.builtin "function.__dict__"),(.builtin "function.__dict__#set")])) }
def Tv:Obj:={ cls:=(.type "getset_descriptor"),data:=(.fields (List.toArray [(.str "__weakref__" 632),(.ref 331),(.builtin "ExceptionGroup.__weakref__"),.none])) }
def Tu:Obj:={ cls:=(.type "super"),data:=(.fields (List.toArray [(.ref 331),(.ref 331),(.ref 331)])) }
def Tt:Obj:={ cls:=(.type "builtin_function_or_method"),data:=(.fields (List.toArray [(.builtin "object.__init_subclass__"),(.ref 331)])) }
def Ts(P:JA):Obj:=OS 51 (hE P "__name__" 165 Oy::(QE P).take 50)
def Tr:Obj:={ cls:=.none,data:=.fields (Jy (OX.take 123)) }
def Tq:Obj:=Nr [(.str "plot" 640),(.str "cutter" 641)]
def Tp:Obj:=hF .none Q8 "fewest" 0 .none .none
def To:Obj:=hC "fewest" 637 638 639 643 336 337 338 339 340 162 1 0 0 3 181 642 162 MY
def Tn:Obj:=OC Q8 "fewest" (.str "spotlook.cuts" 529) 341
def Tj:Obj:=Nr [(.str "_law_script" 650),(.str "_law_k" 651),(.str "_law_cell" 652)]
def Ti:Obj:=hF .none Q7 "_law_pot" 0 .none .none
def Th:Obj:=hC "_law_pot" 647 648 649 654 343 344 345 346 347 168 2 0 0 3 181 653 168 MY
def Tf:Obj:=OC Q7 "_law_pot" Oy 348
def Te:Obj:=Nr [(.str "_law_pot_here" 659),(.str "_law_size" 660),(.str "_law_digit" 661),(.str "_law_mixed" 662)]
def Td:Obj:=hF .none Q6 "_law_take" 0 .none .none
def Tc:Obj:=hC "_law_take" 656 657 658 664 350 351 352 353 354 173 2 0 0 3 181 663 173 MY
def Ta:Obj:=OC Q6 "_law_take" Oy 355
def T9:Obj:=Nr [(.str "_law_shut" 669),(.str "_law_spot" 670),(.str "_law_a" 671),(.str "_law_b" 672),(.str "_law_c" 673),(.str "_law_d" 674),(.str "_law_way" 675)]
def T8:Obj:=hF .none Q5 "_law_side" 0 .none .none
def T7:Obj:=hC "_law_side" 666 667 668 677 357 358 359 360 361 182 2 0 0 3 181 676 182 MY
def T6:Obj:=OC Q5 "_law_side" Oy 362
def T5:Obj:=Nr [(.str "_law_shut" 682),(.str "_law_spot" 683)]
def T4:Obj:=hF .none Q4 "_law_on" 0 .none .none
def T3:Obj:=hC "_law_on" 679 680 681 685 364 365 366 367 368 187 2 0 0 3 181 684 187 MY
def TZ:Obj:=OC Q4 "_law_on" Oy 369
def TY:Obj:=Nr [(.str "_law_one" 690),(.str "_law_other" 691),(.str "_law_shut" 692),(.str "_law_ends" 693),(.str "_law_spot" 694),(.str "_law_both" 695)]
def TX:Obj:=hF .none Q3 "_law_apart" 0 .none .none
def TV:Obj:=hC "_law_apart" 687 688 689 697 371 372 373 374 375 189 2 0 0 3 181 696 189 MY
def TU:Obj:=OC Q3 "_law_apart" Oy 376
def TQ:Obj:=Nr [(.str "_law_pot_here" 702),(.str "_law_wide" 703)]
def TN:Obj:=hF .none Q2 "_law_new_spot" 0 .none .none
def TM:Obj:=hC "_law_new_spot" 699 700 701 705 378 379 380 381 382 196 2 0 0 3 181 704 196 MY
def TL:Obj:=OC Q2 "_law_new_spot" Oy 383
def TK:Obj:=Nr [(.str "_law_pot_here" 710),(.str "_law_shuts" 711),(.str "_law_wide" 712)]
def TJ:Obj:=hF .none Q1 "_law_some_spot" 0 .none .none
def TH:Obj:=hC "_law_some_spot" 707 708 709 714 385 386 387 388 389 198 3 0 0 3 181 713 198 MY
def TF:Obj:=OC Q1 "_law_some_spot" Oy 390
def TC:Obj:=Nr [(.str "_law_pot_here" 719),(.str "_law_wide" 720),(.str "_law_x" 721),(.str "_law_y" 722),(.str "_law_far" 723)]
def TB:Obj:=hF .none Q0 "_law_square" 0 .none .none
def Sz:Obj:=hC "_law_square" 716 717 718 725 392 393 394 395 396 202 2 0 0 3 181 724 202 MY
def Sy:Obj:=OC Q0 "_law_square" Oy 397
def Sx:Obj:=hF .none QZ "_law_laid" 0 .none .none
def Sw:Obj:=Nq "_law_laid" "_law_laid" 727 728 729 208 3 3 399 MY 400 .none .none (.ref 401) 730 731
def Sv:Obj:=OC QZ "_law_laid" Oy 402
def Su:Obj:=hF .none QY "_law_shuts_here" 0 .none .none
def Ss:Obj:=Nq "_law_shuts_here" "_law_shuts_here" 733 734 735 213 2 3 404 MY 405 .none .none (.ref 406) 736 737
def Sr:Obj:=OC QY "_law_shuts_here" Oy 407
def Sq:Obj:=Nr [(.str "_law_top" 742),(.str "_law_bottom" 743),(.str "_law_one" 744),(.str "_law_other" 745)]
def So:Obj:=hF .none QX "_law_frac" 0 .none .none
def Sn:Obj:=hC "_law_frac" 739 740 741 747 409 410 411 412 413 225 2 0 0 3 181 746 225 MY
def Sm:Obj:=OC QX "_law_frac" Oy 414
def Sl(P:JA):Obj:=OS 58 (hE P "__name__" 165 Oy::(QE P).take 57)
def Sk:Obj:={ cls:=.none,data:=.fields (Jy (OX.take 144)) }
def Sj:Obj:=hF .none QW "_law_frame" 0 .none .none
def Si:Obj:=Nq "_law_frame" "_law_frame" 749 750 751 231 2 3 416 MY 417 .none .none (.ref 418) 752 753
def Sh:Obj:=OC QW "_law_frame" Oy 419
def Sg:Obj:=Nr [(.str "_law_frame_here" 758),(.str "_law_spot" 759),(.str "_law_p" 760),(.str "_law_q" 761),(.str "_law_s" 762),(.str "_law_t" 763)]
def Sf:Obj:=hF .none QV "_law_given" 0 .none .none
def Se:Obj:=hC "_law_given" 755 756 757 765 421 422 423 424 425 240 2 0 0 3 181 764 240 MY
def Sd:Obj:=OC QV "_law_given" Oy 426
def Sb:Obj:=hF .none QU "_law_plot" 0 .none .none
def Sa:Obj:=Nq "_law_plot" "_law_plot" 767 768 769 243 2 3 428 MY 429 .none .none (.ref 430) 770 771
def S9:Obj:=OC QU "_law_plot" Oy 431
def S8:Obj:=hF .none QT "_law_corners" 0 .none .none
def S7:Obj:=Nq "_law_corners" "_law_corners" 773 774 775 245 1 3 433 MY 434 .none .none (.ref 435) 776 777
def S6:Obj:=OC QT "_law_corners" Oy 436
def S5:Obj:=Nr [(.str "_law_e" 782)]
def S4:Obj:=hF .none QS "_law_of_others" 0 .none .none
def S3:Obj:=hC "_law_of_others" 779 780 781 784 438 439 440 441 442 250 1 0 0 3 181 783 250 MY
def S2:Obj:=OC QS "_law_of_others" Oy 443
def S1:Obj:=Nr [(.str "_law_plot_here" 789),(.str "_law_corners_here" 790),(.str "_law_found" 791),(.str "_law_kept" 792),(.str "_law_e" 793),(.str "_law_room" 794),(.str "_law_k" 795)]
def S0:Obj:=hF .none QR "_law_right" 0 .none .none
def SY:Obj:=hC "_law_right" 786 787 788 797 445 446 447 448 449 252 2 0 0 3 181 796 252 MY
def SX:Obj:=OC QR "_law_right" Oy 450
def SW:Obj:=Nr [(.str "_law_script" 802),(.str "_law_k" 803),(.str "_law_pot_here" 804),(.str "_law_shuts" 805),(.str "_law_plot_here" 806),(.str "_law_few" 807)]
def SV:Obj:=hF .none QP "law" 0 .none .none
def SU:Obj:=hC "law" 799 800 801 809 452 453 454 455 456 271 1 0 0 3 181 808 271 MY
def SS:Obj:=OC QP "law" Oy 457
def Zy(P:JA):List Obj:=[PySem.W.boot_o_0 P,PySem.W.boot_o_1 P,PySem.W.boot_o_2 P,PySem.W.boot_o_3 P,PySem.W.boot_o_4 P,PySem.W.boot_o_5 P,PySem.W.boot_o_6 P,PySem.W.boot_o_7 P,PySem.W.boot_o_8 P,PySem.W.boot_o_9 P,PySem.W.boot_o_10 P,Yi,Yh,Yg,Yf,Ye P]
def Zx(P:JA):List Obj:=[Yd,Yc,Yb,Ya,Y9,Y8,Y7,Y6 P,Y5,Y4,Y3 P,Y2,Y1,Y0,YZ,YY P]
def Zw(P:JA):List Obj:=[YX,YW,YV,YU P,YT,YS,YR P,YQ,YO,YN,YM P,YL,YK,YJ P,YI,YH]
def Zv(P:JA):List Obj:=[YG P,YF,YE,YD,YC P,YB,YA,Xz P,Xy,Xx,Xw,Xv,Xu,Xt,Xs,Xr]
def Zu(P:JA):List Obj:=[Xq P,Xp,Xo,Xn,Xm P,Xl,Xk,Xj P,Xi,Xh,Xg,Xf,Xe,Xd,Xc,Xb]
def Zt(P:JA):List Obj:=[Xa P,X9,X8,X7,X6 P,X5,X4,X3 P,X2,X1,X0,XZ,XY,XX,XW,XU]
def Zs(P:JA):List Obj:=[XT P,XS,XR,XQ,W3 P,W0,WZ,WY P,WX,WW,WV,WU,WT,WS,WR,WQ]
def Zr(P:JA):List Obj:=[WO P,WN,WM,WL,WK P,WJ,WI,WH P,WG,WE,WD P,WC,WB,WA,Vz,Vy]
def Zq(P:JA):List Obj:=[Vx,Vw,Vv,Vu,Vt,Vs,Vr,Vq,Vp,Vo,Vn,Vm,Vl,Vk,Vj,Vi]
def Zp(P:JA):List Obj:=[Vh,Vg,Vf P,Ve,Vd,Vb,Va,V9,V8,V7,V6,V5,V4,V3,V2,V1]
def Ys(P:JA):List Obj:=[V0,VZ,VY,VX,VW,VV,VU,VT,VS,VR,VQ,VP,VO,VN,VM,VL]
def Yr(P:JA):List Obj:=[VJ,VI,VH,VG,VF,VE,VD,VC,VB,VA,Uz,Uy,Ux,Uw,Uv,Uu]
def Yq(P:JA):List Obj:=[Ut,Us,Ur,Uq P,Uo,Um,Ul,Uk,Uj,Ui,Uh,Ug,Ue,Ud P,Uc,Ub P]
def Yp(P:JA):List Obj:=[Ua,U9,U8,U7,U6,U5,U4,U0,UZ,UY,UX,UW,UU,UT,US,UR]
def Yo(P:JA):List Obj:=[UQ,UP,UO,UN,UM,UL,UK,UJ,UI,UH,UG,UE,UD,UC,UB,UA P]
def Yn(P:JA):List Obj:=[Tz,Tw,Tv,Tu,Tt,Ts P,Tr,Tq,Tp,To,Tn,Tj,Ti,Th,Tf,Te]
def Ym(P:JA):List Obj:=[Td,Tc,Ta,T9,T8,T7,T6,T5,T4,T3,TZ,TY,TX,TV,TU,TQ]
def Yl(P:JA):List Obj:=[TN,TM,TL,TK,TJ,TH,TF,TC,TB,Sz,Sy,Sx,Sw,Sv,Su,Ss]
def Yk(P:JA):List Obj:=[Sr,Sq,So,Sn,Sm,Sl P,Sk,Sj,Si,Sh,Sg,Sf,Se,Sd,Sb,Sa]
def Yj(P:JA):List Obj:=[S9,S8,S7,S6,S5,S4,S3,S2,S1,S0,SY,SX,SW,SV,SU,SS]
def fA(c i:Nat)(P:JA):Obj:=(([Zy P,Zx P,Zw P,Zv P,Zu P,Zt P,Zs P,Zr P,Zq P,Zp P,Ys P,Yr P,Yq P,Yp P,Yo P,Yn P,Ym P,Yl P,Yk P,Yj P]:List (List Obj)).getD c []).getD i { cls:=.none }
def Zb(n:Nat->Jr->Jr->Jr)(e:Jr):Jr:=(λm:Nat->Jr=>(n 0 (n 1 (n 3 (m 7) (m 11)) (n 5 (m 9) (m 13))) (n 2 (n 4 (m 8) (m 12)) (n 6 (m 10) (m 14))))) λa=>n a e e
def tX0(f:Nat->Nat->JA->Obj)(P:JA):Jr:=Zb (λk=>.node (f (k/16) (k%16) P)) .nil
def Za(n:Nat->Jr->Jr->Jr)(e:Jr):Jr:=(λm:Nat->Jr=>(n 0 (n 1 (n 15 (n 7 (n 11 (m 27) e) (m 22)) (n 11 (m 18) (m 24))) (n 5 (n 9 (n 17 (m 29) e) (m 11)) (n 13 (m 20) (m 11)))) (n 2 (n 4 (n 8 (n 12 (m 28) e) (m 23)) (n 16 (m 19) (m 25))) (n 6 (n 10 (n 11 (m 30) e) (m 12)) (n 14 (m 21) (m 26)))))) λa=>n a e e
def tX1(f:Nat->Nat->JA->Obj)(P:JA):Jr:=Za (λk=>.node (f (k/16) (k%16) P)) .nil
def Z9(n:Nat->Jr->Jr->Jr)(e:Jr):Jr:=(λm:Nat->Jr=>(n 0 (n 1 (n 31 (n 7 (n 11 (m 33) e) (n 22 (m 12) e)) (n 11 (n 18 (m 34) e) (n 24 (m 38) e))) (n 5 (n 9 (n 17 (m 29) e) (n 11 (m 37) e)) (n 13 (n 20 (m 35) e) (n 11 (m 40) e)))) (n 2 (n 4 (n 8 (n 12 (m 28) e) (n 23 (m 36) e)) (n 32 (n 19 (m 22) e) (n 25 (m 39) e))) (n 6 (n 10 (n 11 (m 30) e) (n 12 (m 11) e)) (n 14 (n 21 (m 11) e) (n 26 (m 41) e)))))) λa=>n a e e
def tX2(f:Nat->Nat->JA->Obj)(P:JA):Jr:=Z9 (λk=>.node (f (k/16) (k%16) P)) .nil
def Z8(n:Nat->Jr->Jr->Jr)(e:Jr):Jr:=(λm:Nat->Jr=>(n 0 (n 1 (n 42 (n 7 (n 11 (m 44) (m 34)) (n 22 (m 12) (m 48))) (n 11 (n 18 (m 34) (m 12)) (n 24 (m 38) e))) (n 5 (n 9 (n 17 (m 29) (m 45)) (n 11 (m 37) (m 50))) (n 13 (n 20 (m 35) (m 47)) (n 11 (m 40) e)))) (n 2 (n 4 (n 8 (n 12 (m 28) (m 22)) (n 23 (m 36) (m 49))) (n 43 (n 19 (m 22) (m 46)) (n 25 (m 39) e))) (n 6 (n 10 (n 11 (m 30) (m 11)) (n 12 (m 11) (m 51))) (n 14 (n 21 (m 11) (m 11)) (n 26 (m 41) e)))))) λa=>n a e e
def tX3(f:Nat->Nat->JA->Obj)(P:JA):Jr:=Z8 (λk=>.node (f (k/16) (k%16) P)) .nil
def Z7(n:Nat->Jr->Jr->Jr)(e:Jr):Jr:=(λm:Nat->Jr=>(n 0 (n 1 (n 52 (n 7 (n 11 (n 54 (m 56) e) (m 34)) (n 22 (n 12 (m 61) e) (m 48))) (n 11 (n 18 (n 34 (m 12) e) (m 12)) (n 24 (n 38 (m 65) e) (m 34)))) (n 5 (n 9 (n 17 (n 29 (m 58) e) (m 45)) (n 11 (n 37 (m 63) e) (m 50))) (n 13 (n 20 (n 35 (m 11) e) (m 47)) (n 11 (n 40 (m 67) e) (m 55))))) (n 2 (n 4 (n 8 (n 12 (n 28 (m 57) e) (m 22)) (n 23 (n 36 (m 62) e) (m 49))) (n 53 (n 19 (n 22 (m 59) e) (m 46)) (n 25 (n 39 (m 66) e) (m 22)))) (n 6 (n 10 (n 11 (n 30 (m 11) e) (m 11)) (n 12 (n 11 (m 64) e) (m 51))) (n 14 (n 21 (n 11 (m 60) e) (m 11)) (n 26 (m 41) (m 11))))))) λa=>n a e e
def tX4(f:Nat->Nat->JA->Obj)(P:JA):Jr:=Z7 (λk=>.node (f (k/16) (k%16) P)) .nil
def Z6(n:Nat->Jr->Jr->Jr)(e:Jr):Jr:=(λm:Nat->Jr=>(n 0 (n 1 (n 68 (n 7 (n 11 (n 70 (m 56) (m 82)) (n 34 (m 22) e)) (n 22 (n 12 (m 61) e) (n 48 (m 75) e))) (n 11 (n 18 (n 34 (m 12) e) (n 12 (m 73) e)) (n 24 (n 38 (m 65) e) (n 34 (m 78) e)))) (n 5 (n 9 (n 17 (n 29 (m 58) e) (n 45 (m 11) e)) (n 11 (n 37 (m 63) e) (n 50 (m 76) e))) (n 13 (n 20 (n 35 (m 11) e) (n 47 (m 11) e)) (n 11 (n 40 (m 67) e) (n 55 (m 80) e))))) (n 2 (n 4 (n 8 (n 12 (n 28 (m 57) (m 83)) (n 22 (m 71) e)) (n 23 (n 36 (m 62) e) (n 49 (m 11) e))) (n 69 (n 19 (n 22 (m 59) e) (n 46 (m 74) e)) (n 25 (n 39 (m 66) e) (n 22 (m 79) e)))) (n 6 (n 10 (n 11 (n 30 (m 11) e) (n 11 (m 72) e)) (n 12 (n 11 (m 64) e) (n 51 (m 77) e))) (n 14 (n 21 (n 11 (m 60) e) (n 11 (m 12) e)) (n 26 (n 41 (m 34) e) (n 11 (m 81) e))))))) λa=>n a e e
def tX5(f:Nat->Nat->JA->Obj)(P:JA):Jr:=Z6 (λk=>.node (f (k/16) (k%16) P)) .nil
def Z5(n:Nat->Jr->Jr->Jr)(e:Jr):Jr:=(λm:Nat->Jr=>(n 0 (n 1 (n 84 (n 7 (n 11 (n 86 (m 56) (m 82)) (n 34 (m 22) (m 95))) (n 22 (n 12 (m 61) (m 90)) (n 48 (m 75) e))) (n 11 (n 18 (n 34 (m 12) (m 87)) (n 12 (m 73) (m 99))) (n 24 (n 38 (m 65) (m 11)) (n 34 (m 78) e)))) (n 5 (n 9 (n 17 (n 29 (m 58) (m 34)) (n 45 (m 11) (m 97))) (n 11 (n 37 (m 63) (m 12)) (n 50 (m 76) e))) (n 13 (n 20 (n 35 (m 11) (m 88)) (n 47 (m 11) e)) (n 11 (n 40 (m 67) (m 93)) (n 55 (m 80) e))))) (n 2 (n 4 (n 8 (n 12 (n 28 (m 57) (m 83)) (n 22 (m 71) (m 96))) (n 23 (n 36 (m 62) (m 11)) (n 49 (m 11) e))) (n 85 (n 19 (n 22 (m 59) (m 11)) (n 46 (m 74) e)) (n 25 (n 39 (m 66) (m 92)) (n 22 (m 79) e)))) (n 6 (n 10 (n 11 (n 30 (m 11) (m 22)) (n 11 (m 72) (m 98))) (n 12 (n 11 (m 64) (m 91)) (n 51 (m 77) e))) (n 14 (n 21 (n 11 (m 60) (m 89)) (n 11 (m 12) e)) (n 26 (n 41 (m 34) (m 94)) (n 11 (m 81) e))))))) λa=>n a e e
def tX6(f:Nat->Nat->JA->Obj)(P:JA):Jr:=Z5 (λk=>.node (f (k/16) (k%16) P)) .nil
def Z4(n:Nat->Jr->Jr->Jr)(e:Jr):Jr:=(λm:Nat->Jr=>(n 0 (n 1 (n 100 (n 7 (n 11 (n 102 (n 56 (m 108) e) (m 82)) (n 34 (m 22) (m 95))) (n 22 (n 12 (m 61) (m 90)) (n 48 (m 75) (m 11)))) (n 11 (n 18 (n 34 (n 12 (m 112) e) (m 87)) (n 12 (m 73) (m 99))) (n 24 (n 38 (m 65) (m 11)) (n 34 (m 78) (m 11))))) (n 5 (n 9 (n 17 (n 29 (n 58 (m 110) e) (m 34)) (n 45 (m 11) (m 97))) (n 11 (n 37 (m 63) (m 12)) (n 50 (m 76) (m 105)))) (n 13 (n 20 (n 35 (n 11 (m 114) e) (m 88)) (n 47 (m 11) (m 22))) (n 11 (n 40 (m 67) (m 93)) (n 55 (m 80) (m 107)))))) (n 2 (n 4 (n 8 (n 12 (n 28 (n 57 (m 109) e) (m 83)) (n 22 (m 71) (m 96))) (n 23 (n 36 (m 62) (m 11)) (n 49 (m 11) (m 104)))) (n 101 (n 19 (n 22 (n 59 (m 113) e) (m 11)) (n 46 (m 74) (m 34))) (n 25 (n 39 (m 66) (m 92)) (n 22 (m 79) (m 12))))) (n 6 (n 10 (n 11 (n 30 (n 11 (m 111) e) (m 22)) (n 11 (m 72) (m 98))) (n 12 (n 11 (m 64) (m 91)) (n 51 (m 77) (m 106)))) (n 14 (n 21 (n 11 (n 60 (m 115) e) (m 89)) (n 11 (m 12) (m 103))) (n 26 (n 41 (m 34) (m 94)) (n 11 (m 81) (m 11)))))))) λa=>n a e e
def tX7(f:Nat->Nat->JA->Obj)(P:JA):Jr:=Z4 (λk=>.node (f (k/16) (k%16) P)) .nil
def Z3(n:Nat->Jr->Jr->Jr)(e:Jr):Jr:=(λm:Nat->Jr=>(n 0 (n 1 (n 116 (n 7 (n 11 (n 118 (n 56 (m 108) e) (n 82 (m 132) e)) (n 34 (n 22 (m 122) e) (n 95 (m 11) e))) (n 22 (n 12 (n 61 (m 34) e) (n 90 (m 137) e)) (n 48 (n 75 (m 127) e) (m 11)))) (n 11 (n 18 (n 34 (n 12 (m 112) e) (n 87 (m 134) e)) (n 12 (n 73 (m 11) e) (n 99 (m 143) e))) (n 24 (n 38 (n 65 (m 12) e) (n 11 (m 11) e)) (n 34 (n 78 (m 12) e) (m 11))))) (n 5 (n 9 (n 17 (n 29 (n 58 (m 110) e) (n 34 (m 11) e)) (n 45 (n 11 (m 124) e) (n 97 (m 142) e))) (n 11 (n 37 (n 63 (m 119) e) (n 12 (m 12) e)) (n 50 (n 76 (m 129) e) (m 105)))) (n 13 (n 20 (n 35 (n 11 (m 114) e) (n 88 (m 135) e)) (n 47 (n 11 (m 126) e) (n 22 (m 145) e))) (n 11 (n 40 (n 67 (m 121) e) (n 93 (m 140) e)) (n 55 (n 80 (m 11) e) (m 107)))))) (n 2 (n 4 (n 8 (n 12 (n 28 (n 57 (m 109) e) (n 83 (m 133) e)) (n 22 (n 71 (m 123) e) (n 96 (m 12) e))) (n 23 (n 36 (n 62 (m 22) e) (n 11 (m 11) e)) (n 49 (n 11 (m 128) e) (m 104)))) (n 117 (n 19 (n 22 (n 59 (m 113) e) (n 11 (m 11) e)) (n 46 (n 74 (m 12) e) (n 34 (m 144) e))) (n 25 (n 39 (n 66 (m 120) e) (n 92 (m 139) e)) (n 22 (n 79 (m 130) e) (m 12))))) (n 6 (n 10 (n 11 (n 30 (n 11 (m 111) e) (n 22 (m 12) e)) (n 11 (n 72 (m 125) e) (n 98 (m 11) e))) (n 12 (n 11 (n 64 (m 11) e) (n 91 (m 138) e)) (n 51 (n 77 (m 11) e) (m 106)))) (n 14 (n 21 (n 11 (n 60 (m 115) e) (n 89 (m 136) e)) (n 11 (n 12 (m 11) e) (m 103))) (n 26 (n 41 (n 34 (m 11) e) (n 94 (m 141) e)) (n 11 (n 81 (m 131) e) (m 11)))))))) λa=>n a e e
def tX8(f:Nat->Nat->JA->Obj)(P:JA):Jr:=Z3 (λk=>.node (f (k/16) (k%16) P)) .nil
def Z2(n:Nat->Jr->Jr->Jr)(e:Jr):Jr:=(λm:Nat->Jr=>(n 0 (n 1 (n 146 (n 7 (n 11 (n 118 (n 56 (n 108 (m 190) e) (m 152)) (n 82 (m 132) (m 171))) (n 34 (n 22 (m 122) (m 161)) (n 95 (m 11) (m 12)))) (n 22 (n 12 (n 61 (m 34) (m 11)) (n 90 (m 137) (m 11))) (n 48 (n 75 (m 127) (m 166)) (n 11 (m 12) (m 185))))) (n 11 (n 18 (n 34 (n 12 (n 112 (m 192) e) (m 155)) (n 87 (m 134) (m 11))) (n 12 (n 73 (m 11) (m 12)) (n 99 (m 143) (m 11)))) (n 24 (n 38 (n 65 (m 12) (m 11)) (n 11 (m 11) (m 177))) (n 34 (n 78 (m 12) (m 168)) (n 11 (m 150) (m 12)))))) (n 5 (n 9 (n 17 (n 29 (n 58 (n 110 (m 11) e) (m 153)) (n 34 (m 11) (m 12))) (n 45 (n 11 (m 124) (m 163)) (n 97 (m 142) (m 181)))) (n 11 (n 37 (n 63 (m 119) (m 158)) (n 12 (m 12) (m 176))) (n 50 (n 76 (m 129) (m 11)) (n 105 (m 11) (m 187))))) (n 13 (n 20 (n 35 (n 11 (n 114 (m 194) e) (m 12)) (n 88 (m 135) (m 174))) (n 47 (n 11 (m 126) (m 11)) (n 22 (m 145) (m 183)))) (n 11 (n 40 (n 67 (m 121) (m 160)) (n 93 (m 140) (m 179))) (n 55 (n 80 (m 11) (m 169)) (n 107 (m 11) (m 11))))))) (n 2 (n 4 (n 8 (n 12 (n 28 (n 57 (n 109 (m 191) e) (m 11)) (n 83 (m 133) (m 11))) (n 22 (n 71 (m 123) (m 162)) (n 96 (m 12) (m 180)))) (n 23 (n 36 (n 62 (m 22) (m 157)) (n 11 (m 11) (m 12))) (n 49 (n 11 (m 128) (m 167)) (n 104 (m 148) (m 186))))) (n 147 (n 19 (n 22 (n 59 (n 113 (m 193) e) (m 11)) (n 11 (m 11) (m 173))) (n 46 (n 74 (m 12) (m 164)) (n 34 (m 144) (m 12)))) (n 25 (n 39 (n 66 (m 120) (m 12)) (n 92 (m 139) (m 178))) (n 22 (n 79 (m 130) (m 11)) (n 12 (m 151) (m 188)))))) (n 6 (n 10 (n 11 (n 30 (n 11 (n 111 (m 12) e) (m 154)) (n 22 (m 12) (m 172))) (n 11 (n 72 (m 125) (m 11)) (n 98 (m 11) (m 182)))) (n 12 (n 11 (n 64 (m 11) (m 159)) (n 91 (m 138) (m 11))) (n 51 (n 77 (m 11) (m 12)) (n 106 (m 149) (m 11))))) (n 14 (n 21 (n 11 (n 60 (m 115) (m 156)) (n 89 (m 136) (m 175))) (n 11 (n 12 (m 11) (m 165)) (n 103 (m 11) (m 184)))) (n 26 (n 41 (n 34 (m 11) (m 11)) (n 94 (m 141) (m 11))) (n 11 (n 81 (m 131) (m 170)) (n 11 (m 12) (m 189))))))))) λa=>n a e e
def tX9(f:Nat->Nat->JA->Obj)(P:JA):Jr:=Z2 (λk=>.node (f (k/16) (k%16) P)) .nil
def XH(n:Nat->Jr->Jr->Jr)(e:Jr):Jr:=(λm:Nat->Jr=>(n 0 (n 1 (n 195 (n 7 (n 11 (n 118 (n 56 (n 108 (m 190) e) (m 152)) (n 82 (m 132) (m 171))) (n 34 (n 22 (n 122 (m 201) e) (m 161)) (n 95 (m 11) (m 12)))) (n 22 (n 12 (n 61 (n 34 (m 12) e) (m 11)) (n 90 (m 137) (m 11))) (n 48 (n 75 (m 127) (m 166)) (n 11 (m 12) (m 185))))) (n 11 (n 18 (n 34 (n 12 (n 112 (m 192) e) (m 155)) (n 87 (m 134) (m 11))) (n 12 (n 73 (n 11 (m 204) e) (m 12)) (n 99 (m 143) (m 11)))) (n 24 (n 38 (n 65 (n 12 (m 199) e) (m 11)) (n 11 (m 11) (m 177))) (n 34 (n 78 (m 12) (m 168)) (n 11 (m 150) (m 12)))))) (n 5 (n 9 (n 17 (n 29 (n 58 (n 110 (m 11) e) (m 153)) (n 34 (m 11) (m 12))) (n 45 (n 11 (n 124 (m 202) e) (m 163)) (n 97 (m 142) (m 181)))) (n 11 (n 37 (n 63 (n 119 (m 11) e) (m 158)) (n 12 (m 12) (m 176))) (n 50 (n 76 (m 129) (m 11)) (n 105 (m 11) (m 187))))) (n 13 (n 20 (n 35 (n 11 (n 114 (m 194) e) (m 12)) (n 88 (m 135) (m 174))) (n 47 (n 11 (m 126) (m 11)) (n 22 (m 145) (m 183)))) (n 11 (n 40 (n 67 (n 121 (m 11) e) (m 160)) (n 93 (m 140) (m 179))) (n 55 (n 80 (m 11) (m 169)) (n 107 (m 11) (m 11))))))) (n 2 (n 4 (n 8 (n 12 (n 28 (n 57 (n 109 (m 191) e) (m 11)) (n 83 (m 133) (m 11))) (n 22 (n 71 (n 123 (m 11) e) (m 162)) (n 96 (m 12) (m 180)))) (n 23 (n 36 (n 62 (n 22 (m 197) e) (m 157)) (n 11 (m 11) (m 12))) (n 49 (n 11 (m 128) (m 167)) (n 104 (m 148) (m 186))))) (n 196 (n 19 (n 22 (n 59 (n 113 (m 193) e) (m 11)) (n 11 (m 11) (m 173))) (n 46 (n 74 (m 12) (m 164)) (n 34 (m 144) (m 12)))) (n 25 (n 39 (n 66 (n 120 (m 200) e) (m 12)) (n 92 (m 139) (m 178))) (n 22 (n 79 (m 130) (m 11)) (n 12 (m 151) (m 188)))))) (n 6 (n 10 (n 11 (n 30 (n 11 (n 111 (m 12) e) (m 154)) (n 22 (m 12) (m 172))) (n 11 (n 72 (n 125 (m 203) e) (m 11)) (n 98 (m 11) (m 182)))) (n 12 (n 11 (n 64 (n 11 (m 198) e) (m 159)) (n 91 (m 138) (m 11))) (n 51 (n 77 (m 11) (m 12)) (n 106 (m 149) (m 11))))) (n 14 (n 21 (n 11 (n 60 (n 115 (m 11) e) (m 156)) (n 89 (m 136) (m 175))) (n 11 (n 12 (m 11) (m 165)) (n 103 (m 11) (m 184)))) (n 26 (n 41 (n 34 (n 11 (m 12) e) (m 11)) (n 94 (m 141) (m 11))) (n 11 (n 81 (m 131) (m 170)) (n 11 (m 12) (m 189))))))))) λa=>n a e e
def tX10(f:Nat->Nat->JA->Obj)(P:JA):Jr:=XH (λk=>.node (f (k/16) (k%16) P)) .nil
def XG(n:Nat->Jr->Jr->Jr)(e:Jr):Jr:=(λm:Nat->Jr=>(n 0 (n 1 (n 205 (n 7 (n 11 (n 118 (n 56 (n 108 (m 190) e) (n 152 (m 231) e)) (n 82 (n 132 (m 212) e) (m 171))) (n 34 (n 22 (n 122 (m 201) e) (n 161 (m 244) e)) (n 95 (n 11 (m 222) e) (m 12)))) (n 22 (n 12 (n 61 (n 34 (m 12) e) (n 11 (m 236) e)) (n 90 (n 137 (m 11) e) (m 11))) (n 48 (n 75 (n 127 (m 11) e) (m 166)) (n 11 (n 12 (m 12) e) (m 185))))) (n 11 (n 18 (n 34 (n 12 (n 112 (m 192) e) (n 155 (m 234) e)) (n 87 (n 134 (m 12) e) (m 11))) (n 12 (n 73 (n 11 (m 204) e) (m 12)) (n 99 (n 143 (m 224) e) (m 11)))) (n 24 (n 38 (n 65 (n 12 (m 199) e) (n 11 (m 240) e)) (n 11 (n 11 (m 220) e) (m 177))) (n 34 (n 78 (n 12 (m 11) e) (m 168)) (n 11 (n 150 (m 229) e) (m 12)))))) (n 5 (n 9 (n 17 (n 29 (n 58 (n 110 (m 11) e) (n 153 (m 232) e)) (n 34 (n 11 (m 214) e) (m 12))) (n 45 (n 11 (n 124 (m 202) e) (m 163)) (n 97 (n 142 (m 11) e) (m 181)))) (n 11 (n 37 (n 63 (n 119 (m 11) e) (n 158 (m 238) e)) (n 12 (n 12 (m 218) e) (m 176))) (n 50 (n 76 (n 129 (m 209) e) (m 11)) (n 105 (n 11 (m 11) e) (m 187))))) (n 13 (n 20 (n 35 (n 11 (n 114 (m 194) e) (n 12 (m 12) e)) (n 88 (n 135 (m 216) e) (m 174))) (n 47 (n 11 (n 126 (m 22) e) (m 11)) (n 22 (n 145 (m 226) e) (m 183)))) (n 11 (n 40 (n 67 (n 121 (m 11) e) (n 160 (m 242) e)) (n 93 (n 140 (m 12) e) (m 179))) (n 55 (n 80 (n 11 (m 211) e) (m 169)) (n 107 (n 11 (m 11) e) (m 11))))))) (n 2 (n 4 (n 8 (n 12 (n 28 (n 57 (n 109 (m 191) e) (n 11 (m 11) e)) (n 83 (n 133 (m 213) e) (m 11))) (n 22 (n 71 (n 123 (m 11) e) (m 162)) (n 96 (n 12 (m 223) e) (m 180)))) (n 23 (n 36 (n 62 (n 22 (m 197) e) (n 157 (m 237) e)) (n 11 (n 11 (m 12) e) (m 12))) (n 49 (n 11 (n 128 (m 208) e) (m 167)) (n 104 (n 148 (m 227) e) (m 186))))) (n 206 (n 19 (n 22 (n 59 (n 113 (m 193) e) (n 11 (m 11) e)) (n 11 (n 11 (m 215) e) (m 173))) (n 46 (n 74 (n 12 (m 11) e) (m 164)) (n 34 (n 144 (m 225) e) (m 12)))) (n 25 (n 39 (n 66 (n 120 (m 200) e) (n 12 (m 241) e)) (n 92 (n 139 (m 11) e) (m 178))) (n 22 (n 79 (n 130 (m 12) e) (m 11)) (n 12 (n 151 (m 230) e) (m 188)))))) (n 6 (n 10 (n 11 (n 30 (n 11 (n 111 (m 12) e) (n 154 (m 233) e)) (n 22 (n 12 (m 11) e) (m 172))) (n 11 (n 72 (n 125 (m 203) e) (m 11)) (n 98 (n 11 (m 12) e) (m 182)))) (n 12 (n 11 (n 64 (n 11 (m 198) e) (n 159 (m 239) e)) (n 91 (n 138 (m 219) e) (m 11))) (n 51 (n 77 (n 11 (m 210) e) (m 12)) (n 106 (n 149 (m 228) e) (m 11))))) (n 14 (n 21 (n 11 (n 60 (n 115 (m 11) e) (n 156 (m 235) e)) (n 89 (n 136 (m 217) e) (m 175))) (n 11 (n 12 (n 11 (m 207) e) (m 165)) (n 103 (n 11 (m 11) e) (m 184)))) (n 26 (n 41 (n 34 (n 11 (m 12) e) (n 11 (m 243) e)) (n 94 (n 141 (m 221) e) (m 11))) (n 11 (n 81 (n 131 (m 11) e) (m 170)) (n 11 (n 12 (m 12) e) (m 189))))))))) λa=>n a e e
def tX11(f:Nat->Nat->JA->Obj)(P:JA):Jr:=XG (λk=>.node (f (k/16) (k%16) P)) .nil
def XF(n:Nat->Jr->Jr->Jr)(e:Jr):Jr:=(λm:Nat->Jr=>(n 0 (n 1 (n 245 (n 7 (n 11 (n 118 (n 56 (n 108 (m 190) (m 273)) (n 152 (m 231) e)) (n 82 (n 132 (m 212) (m 292)) (n 171 (m 12) e))) (n 34 (n 22 (n 122 (m 201) (m 11)) (n 161 (m 244) e)) (n 95 (n 11 (m 222) e) (n 12 (m 11) e)))) (n 22 (n 12 (n 61 (n 34 (m 12) (m 278)) (n 11 (m 236) e)) (n 90 (n 137 (m 11) e) (n 11 (m 259) e))) (n 48 (n 75 (n 127 (m 11) (m 287)) (n 166 (m 11) e)) (n 11 (n 12 (m 12) e) (n 185 (m 268) e))))) (n 11 (n 18 (n 34 (n 12 (n 112 (m 192) (m 275)) (n 155 (m 234) e)) (n 87 (n 134 (m 12) e) (n 11 (m 257) e))) (n 12 (n 73 (n 11 (m 204) (m 285)) (n 12 (m 11) e)) (n 99 (n 143 (m 224) e) (n 11 (m 11) e)))) (n 24 (n 38 (n 65 (n 12 (m 199) (m 11)) (n 11 (m 240) e)) (n 11 (n 11 (m 220) e) (n 177 (m 262) e))) (n 34 (n 78 (n 12 (m 11) (m 289)) (n 168 (m 252) e)) (n 11 (n 150 (m 229) e) (n 12 (m 12) e)))))) (n 5 (n 9 (n 17 (n 29 (n 58 (n 110 (m 11) (m 11)) (n 153 (m 232) e)) (n 34 (n 11 (m 214) e) (n 12 (m 11) e))) (n 45 (n 11 (n 124 (m 202) (m 283)) (n 163 (m 12) e)) (n 97 (n 142 (m 11) e) (n 181 (m 265) e)))) (n 11 (n 37 (n 63 (n 119 (m 11) (m 12)) (n 158 (m 238) e)) (n 12 (n 12 (m 218) e) (n 176 (m 260) e))) (n 50 (n 76 (n 129 (m 209) (m 11)) (n 11 (m 251) e)) (n 105 (n 11 (m 11) e) (n 187 (m 270) e))))) (n 13 (n 20 (n 35 (n 11 (n 114 (m 194) (m 276)) (n 12 (m 12) e)) (n 88 (n 135 (m 216) e) (n 174 (m 11) e))) (n 47 (n 11 (n 126 (m 22) (m 12)) (n 11 (m 249) e)) (n 22 (n 145 (m 226) e) (n 183 (m 267) e)))) (n 11 (n 40 (n 67 (n 121 (m 11) (m 281)) (n 160 (m 242) e)) (n 93 (n 140 (m 12) e) (n 179 (m 12) e))) (n 55 (n 80 (n 11 (m 211) (m 290)) (n 169 (m 254) e)) (n 107 (n 11 (m 11) e) (n 11 (m 11) e))))))) (n 2 (n 4 (n 8 (n 12 (n 28 (n 57 (n 109 (m 191) (m 274)) (n 11 (m 11) e)) (n 83 (n 133 (m 213) e) (n 11 (m 255) e))) (n 22 (n 71 (n 123 (m 11) (m 12)) (n 162 (m 11) e)) (n 96 (n 12 (m 223) e) (n 180 (m 264) e)))) (n 23 (n 36 (n 62 (n 22 (m 197) (m 11)) (n 157 (m 237) e)) (n 11 (n 11 (m 12) e) (n 12 (m 11) e))) (n 49 (n 11 (n 128 (m 208) (m 288)) (n 167 (m 12) e)) (n 104 (n 148 (m 227) e) (n 186 (m 269) e))))) (n 246 (n 19 (n 22 (n 59 (n 113 (m 193) (m 11)) (n 11 (m 11) e)) (n 11 (n 11 (m 215) e) (n 173 (m 258) e))) (n 46 (n 74 (n 12 (m 11) (m 11)) (n 164 (m 248) e)) (n 34 (n 144 (m 225) e) (n 12 (m 12) e)))) (n 25 (n 39 (n 66 (n 120 (m 200) (m 280)) (n 12 (m 241) e)) (n 92 (n 139 (m 11) e) (n 178 (m 11) e))) (n 22 (n 79 (n 130 (m 12) (m 11)) (n 11 (m 253) e)) (n 12 (n 151 (m 230) e) (n 188 (m 271) e)))))) (n 6 (n 10 (n 11 (n 30 (n 11 (n 111 (m 12) (m 12)) (n 154 (m 233) e)) (n 22 (n 12 (m 11) e) (n 172 (m 256) e))) (n 11 (n 72 (n 125 (m 203) (m 284)) (n 11 (m 247) e)) (n 98 (n 11 (m 12) e) (n 182 (m 266) e)))) (n 12 (n 11 (n 64 (n 11 (m 198) (m 279)) (n 159 (m 239) e)) (n 91 (n 138 (m 219) e) (n 11 (m 261) e))) (n 51 (n 77 (n 11 (m 210) (m 12)) (n 12 (m 11) e)) (n 106 (n 149 (m 228) e) (n 11 (m 11) e))))) (n 14 (n 21 (n 11 (n 60 (n 115 (m 11) (m 277)) (n 156 (m 235) e)) (n 89 (n 136 (m 217) e) (n 175 (m 12) e))) (n 11 (n 12 (n 11 (m 207) (m 286)) (n 165 (m 250) e)) (n 103 (n 11 (m 11) e) (n 184 (m 11) e)))) (n 26 (n 41 (n 34 (n 11 (m 12) (m 282)) (n 11 (m 243) e)) (n 94 (n 141 (m 221) e) (n 11 (m 263) e))) (n 11 (n 81 (n 131 (m 11) (m 291)) (n 170 (m 11) e)) (n 11 (n 12 (m 12) e) (n 189 (m 272) e))))))))) λa=>n a e e
def tX12(f:Nat->Nat->JA->Obj)(P:JA):Jr:=XF (λk=>.node (f (k/16) (k%16) P)) .nil
def XE(n:Nat->Jr->Jr->Jr)(e:Jr):Jr:=(λm:Nat->Jr=>(n 0 (n 1 (n 293 (n 7 (n 11 (n 118 (n 56 (n 108 (m 190) (m 273)) (n 152 (m 231) (m 312))) (n 82 (n 132 (m 212) (m 292)) (n 171 (m 12) e))) (n 34 (n 22 (n 122 (m 201) (m 11)) (n 161 (m 244) e)) (n 95 (n 11 (m 222) (m 303)) (n 12 (m 11) e)))) (n 22 (n 12 (n 61 (n 34 (m 12) (m 278)) (n 11 (m 236) (m 11))) (n 90 (n 137 (m 11) (m 298)) (n 11 (m 259) e))) (n 48 (n 75 (n 127 (m 11) (m 287)) (n 166 (m 11) e)) (n 11 (n 12 (m 12) (m 12)) (n 185 (m 268) e))))) (n 11 (n 18 (n 34 (n 12 (n 112 (m 192) (m 275)) (n 155 (m 234) (m 315))) (n 87 (n 134 (m 12) (m 296)) (n 11 (m 257) e))) (n 12 (n 73 (n 11 (m 204) (m 285)) (n 12 (m 11) e)) (n 99 (n 143 (m 224) (m 305)) (n 11 (m 11) e)))) (n 24 (n 38 (n 65 (n 12 (m 199) (m 11)) (n 11 (m 240) e)) (n 11 (n 11 (m 220) (m 301)) (n 177 (m 262) e))) (n 34 (n 78 (n 12 (m 11) (m 289)) (n 168 (m 252) e)) (n 11 (n 150 (m 229) (m 310)) (n 12 (m 12) e)))))) (n 5 (n 9 (n 17 (n 29 (n 58 (n 110 (m 11) (m 11)) (n 153 (m 232) (m 313))) (n 34 (n 11 (m 214) (m 12)) (n 12 (m 11) e))) (n 45 (n 11 (n 124 (m 202) (m 283)) (n 163 (m 12) e)) (n 97 (n 142 (m 11) (m 11)) (n 181 (m 265) e)))) (n 11 (n 37 (n 63 (n 119 (m 11) (m 12)) (n 158 (m 238) (m 318))) (n 12 (n 12 (m 218) (m 299)) (n 176 (m 260) e))) (n 50 (n 76 (n 129 (m 209) (m 11)) (n 11 (m 251) e)) (n 105 (n 11 (m 11) (m 11)) (n 187 (m 270) e))))) (n 13 (n 20 (n 35 (n 11 (n 114 (m 194) (m 276)) (n 12 (m 12) (m 12))) (n 88 (n 135 (m 216) (m 11)) (n 174 (m 11) e))) (n 47 (n 11 (n 126 (m 22) (m 12)) (n 11 (m 249) e)) (n 22 (n 145 (m 226) (m 307)) (n 183 (m 267) e)))) (n 11 (n 40 (n 67 (n 121 (m 11) (m 281)) (n 160 (m 242) e)) (n 93 (n 140 (m 12) (m 12)) (n 179 (m 12) e))) (n 55 (n 80 (n 11 (m 211) (m 290)) (n 169 (m 254) e)) (n 107 (n 11 (m 11) (m 11)) (n 11 (m 11) e))))))) (n 2 (n 4 (n 8 (n 12 (n 28 (n 57 (n 109 (m 191) (m 274)) (n 11 (m 11) (m 11))) (n 83 (n 133 (m 213) (m 11)) (n 11 (m 255) e))) (n 22 (n 71 (n 123 (m 11) (m 12)) (n 162 (m 11) e)) (n 96 (n 12 (m 223) (m 304)) (n 180 (m 264) e)))) (n 23 (n 36 (n 62 (n 22 (m 197) (m 11)) (n 157 (m 237) (m 317))) (n 11 (n 11 (m 12) (m 11)) (n 12 (m 11) e))) (n 49 (n 11 (n 128 (m 208) (m 288)) (n 167 (m 12) e)) (n 104 (n 148 (m 227) (m 308)) (n 186 (m 269) e))))) (n 294 (n 19 (n 22 (n 59 (n 113 (m 193) (m 11)) (n 11 (m 11) (m 11))) (n 11 (n 11 (m 215) (m 297)) (n 173 (m 258) e))) (n 46 (n 74 (n 12 (m 11) (m 11)) (n 164 (m 248) e)) (n 34 (n 144 (m 225) (m 306)) (n 12 (m 12) e)))) (n 25 (n 39 (n 66 (n 120 (m 200) (m 280)) (n 12 (m 241) e)) (n 92 (n 139 (m 11) (m 11)) (n 178 (m 11) e))) (n 22 (n 79 (n 130 (m 12) (m 11)) (n 11 (m 253) e)) (n 12 (n 151 (m 230) (m 311)) (n 188 (m 271) e)))))) (n 6 (n 10 (n 11 (n 30 (n 11 (n 111 (m 12) (m 12)) (n 154 (m 233) (m 314))) (n 22 (n 12 (m 11) (m 295)) (n 172 (m 256) e))) (n 11 (n 72 (n 125 (m 203) (m 284)) (n 11 (m 247) e)) (n 98 (n 11 (m 12) (m 12)) (n 182 (m 266) e)))) (n 12 (n 11 (n 64 (n 11 (m 198) (m 279)) (n 159 (m 239) (m 319))) (n 91 (n 138 (m 219) (m 300)) (n 11 (m 261) e))) (n 51 (n 77 (n 11 (m 210) (m 12)) (n 12 (m 11) e)) (n 106 (n 149 (m 228) (m 309)) (n 11 (m 11) e))))) (n 14 (n 21 (n 11 (n 60 (n 115 (m 11) (m 277)) (n 156 (m 235) (m 316))) (n 89 (n 136 (m 217) (m 12)) (n 175 (m 12) e))) (n 11 (n 12 (n 11 (m 207) (m 286)) (n 165 (m 250) e)) (n 103 (n 11 (m 11) (m 11)) (n 184 (m 11) e)))) (n 26 (n 41 (n 34 (n 11 (m 12) (m 282)) (n 11 (m 243) e)) (n 94 (n 141 (m 221) (m 302)) (n 11 (m 263) e))) (n 11 (n 81 (n 131 (m 11) (m 291)) (n 170 (m 11) e)) (n 11 (n 12 (m 12) (m 12)) (n 189 (m 272) e))))))))) λa=>n a e e
def tX13(f:Nat->Nat->JA->Obj)(P:JA):Jr:=XE (λk=>.node (f (k/16) (k%16) P)) .nil
def hX0(f:Nat->Nat->JA->Obj)(P:JA):lj:=(λg:Nat->Obj=>(#[⟨[g 0,g 1,g 2,g 3,g 4,g 5,g 6,g 7,g 8,g 9,g 10,g 11,g 12,g 13,g 14]⟩,{}]:lj)) λk=>f (k/16) (k%16) P
def hX1(f:Nat->Nat->JA->Obj)(P:JA):lj:=(λg:Nat->Obj=>(#[⟨[g 0,g 1,g 2,g 293,g 4,g 5,g 6,g 7,g 8,g 9,g 10,g 11,g 294,g 13,g 14,g 11,g 12,g 17,g 11,g 18,g 19,g 20,g 21,g 22,g 23,g 11,g 12,g 24,g 25,g 11,g 26,g 118,g 28,g 29,g 30,g 34,g 22,g 35,g 11,g 12,g 36,g 37,g 11,g 38,g 39,g 40,g 41,g 34,g 22,g 45,g 11,g 12,g 46,g 47,g 11,g 48,g 49,g 50,g 51,g 34,g 22,g 55,g 11,g 56,g 57,g 58,g 11,g 12,g 59,g 11,g 60,g 61,g 62,g 63,g 64,g 65,g 66,g 67,g 34,g 22,g 71,g 11,g 72,g 73,g 74,g 11,g 12,g 75,g 11,g 76,g 77,g 78,g 79,g 80,g 81,g 82,g 83,g 34,g 22,g 87,g 11,g 88,g 89,g 90,g 11,g 12,g 91,g 11,g 92,g 93,g 94,g 95,g 96,g 97,g 98,g 99,g 34,g 22,g 103,g 11,g 104,g 105,g 106,g 11,g 12,g 107,g 11,g 108,g 109,g 110,g 111,g 112,g 113,g 114,g 115,g 34,g 22,g 119,g 11,g 12,g 120,g 121,g 11,g 122,g 123,g 124,g 125,g 11,g 12,g 126,g 11,g 127,g 128,g 129,g 11,g 12,g 130,g 11,g 131,g 132,g 133,g 11,g 12,g 134,g 11,g 135,g 136,g 137,g 11,g 12,g 138,g 11,g 139,g 140,g 141,g 11,g 12,g 142,g 11,g 143,g 144,g 145,g 11,g 12,g 148,g 11,g 149,g 150,g 151,g 11,g 12,g 152,g 11,g 153,g 154,g 155,g 11,g 12,g 156,g 11,g 157,g 158,g 159,g 11,g 12,g 160,g 11,g 161,g 162,g 163,g 11,g 12,g 164,g 11,g 165,g 166,g 167,g 11,g 12,g 168,g 11,g 169,g 170,g 171,g 11,g 12,g 172,g 11,g 173,g 174,g 175,g 11,g 12,g 176,g 11,g 177,g 178,g 179,g 11,g 12,g 180,g 181,g 182,g 11,g 12,g 183,g 184,g 185,g 186,g 187,g 11,g 12,g 188,g 11,g 189,g 190,g 191,g 11,g 12,g 192,g 193,g 194,g 11,g 12,g 197,g 11,g 198,g 199,g 200,g 11,g 12,g 201,g 11,g 202,g 203,g 204,g 11,g 22,g 207,g 11,g 208,g 209,g 210,g 11,g 12,g 211,g 11,g 212,g 213,g 214,g 11,g 12,g 215,g 216,g 217,g 11,g 12,g 218,g 219,g 220,g 11,g 12,g 221,g 222,g 223,g 11,g 12,g 224,g 225,g 226,g 11,g 12,g 227,g 11,g 228,g 229,g 230,g 11,g 12,g 231,g 11,g 232,g 233,g 234,g 11,g 12,g 235,g 236,g 237,g 238,g 239,g 240,g 241,g 242,g 243,g 244,g 11,g 12,g 247,g 11,g 248,g 249,g 250,g 11,g 12,g 251,g 11,g 252,g 253,g 254,g 11,g 12,g 255,g 11,g 256,g 257,g 258,g 11,g 12,g 259,g 11,g 260,g 261,g 262,g 11,g 12,g 263,g 11,g 264,g 265,g 266,g 11,g 12,g 267,g 11,g 268,g 269,g 270,g 11,g 12,g 271,g 11,g 272,g 273,g 274,g 11,g 12,g 275,g 11,g 276,g 277,g 278,g 11,g 12,g 279,g 11,g 280,g 281,g 282,g 11,g 12,g 283,g 284,g 285,g 11,g 12,g 286,g 287,g 288,g 11,g 12,g 289,g 11,g 290,g 291,g 292,g 11,g 12,g 295,g 296,g 297,g 11,g 12,g 298,g 11,g 299,g 300,g 301,g 11,g 12,g 302,g 303,g 304,g 11,g 12,g 305,g 306,g 307,g 11,g 12,g 308,g 11,g 309,g 310,g 311,g 11,g 12,g 312,g 11,g 313,g 314,g 315,g 11,g 12,g 316,g 11,g 317,g 318,g 319]⟩,{}]:lj)) λk=>f (k/16) (k%16) P
def laid:(λ(_:Jv) (_:Jv) (_:Nat->Nat->JA->Obj) (_:mv) (_:mv) (_:mv) (_:mv) (_:mv) (_:mv) (_:mv) (_:mv) (_:mv) (_:mv) (_:mv) (_:mv) (_:mv)=>MY) pw2 vw fA sx0 sx1 sx2 sx3 sx4 sx5 sx6 sx7 sx8 sx9 sx10 sx11 sx12=MY:=by k_qdec
end QQ
namespace PySem.W.Fast
def tw8434901943663195446:Jv:=tw4061903402435717205
theorem te8434901943663195446:Ka=tw8434901943663195446:=Eq.trans (by kernel_rfl:Ka=QQ.pw2) te4061903402435717205
def tw5819000230967169301:Jv:=tw2543460329597916322
theorem te5819000230967169301:QQ.vw=tw5819000230967169301:=te2543460329597916322
def tw956408974947607897:mv:=tw4220349153739756805
theorem te956408974947607897:QQ.sx0=tw956408974947607897:=te4220349153739756805
def tw13770227926490283953:mv:=tw11397161696757032129
theorem te13770227926490283953:QQ.sx1=tw13770227926490283953:=te11397161696757032129
def tw11286294926455832212:mv:=tw10303515436491237874
theorem te11286294926455832212:QQ.sx2=tw11286294926455832212:=te10303515436491237874
def tw6074993309459111869:mv:=tw12358083906500975388
theorem te6074993309459111869:QQ.sx3=tw6074993309459111869:=te12358083906500975388
def tw3781352911527223071:mv:=tw2861187580803015100
theorem te3781352911527223071:QQ.sx4=tw3781352911527223071:=te2861187580803015100
def tw6239843268893069578:mv:=tw9932084693255007381
theorem te6239843268893069578:QQ.sx5=tw6239843268893069578:=te9932084693255007381
def tw2716840937335901974:mv:=tw1890974291257386441
theorem te2716840937335901974:QQ.sx6=tw2716840937335901974:=te1890974291257386441
def tw17704454058563208556:mv:=tw11967835380637100291
theorem te17704454058563208556:QQ.sx7=tw17704454058563208556:=te11967835380637100291
def tw8665387534073577242:mv:=tw17779941298030502338
theorem te8665387534073577242:QQ.sx8=tw8665387534073577242:=te17779941298030502338
def tw13037231921817495121:mv:=tw17991644005593546017
theorem te13037231921817495121:QQ.sx9=tw13037231921817495121:=te17991644005593546017
def tw18082790523638950980:mv:=tw1963477239447466229
theorem te18082790523638950980:QQ.sx10=tw18082790523638950980:=te1963477239447466229
def tw4648993371072140327:mv:=tw9135815729137251366
theorem te4648993371072140327:QQ.sx11=tw4648993371072140327:=te9135815729137251366
def tw7625936205138196952:mv:=tw5081009958689482214
theorem te7625936205138196952:QQ.sx12=tw7625936205138196952:=te5081009958689482214
def tw4898708103036998586:JA->BT:=QQ.tX0 tw16523235828492288951
theorem te4898708103036998586:QQ.tX0 QQ.fA=tw4898708103036998586:=congrArg QQ.tX0 te16523235828492288951
def tw8967700620193978660:JA->BT:=QQ.tX1 tw16523235828492288951
theorem te8967700620193978660:QQ.tX1 QQ.fA=tw8967700620193978660:=congrArg QQ.tX1 te16523235828492288951
def tw15741451553780723865:JA->BT:=QQ.tX2 tw16523235828492288951
theorem te15741451553780723865:QQ.tX2 QQ.fA=tw15741451553780723865:=congrArg QQ.tX2 te16523235828492288951
def tw5220575901595303306:JA->BT:=QQ.tX3 tw16523235828492288951
theorem te5220575901595303306:QQ.tX3 QQ.fA=tw5220575901595303306:=congrArg QQ.tX3 te16523235828492288951
def tw3428032507818515917:JA->BT:=QQ.tX4 tw16523235828492288951
theorem te3428032507818515917:QQ.tX4 QQ.fA=tw3428032507818515917:=congrArg QQ.tX4 te16523235828492288951
def tw6523844097213475707:JA->BT:=QQ.tX5 tw16523235828492288951
theorem te6523844097213475707:QQ.tX5 QQ.fA=tw6523844097213475707:=congrArg QQ.tX5 te16523235828492288951
def tw8793490593537305336:JA->BT:=QQ.tX6 tw16523235828492288951
theorem te8793490593537305336:QQ.tX6 QQ.fA=tw8793490593537305336:=congrArg QQ.tX6 te16523235828492288951
def tw5455590425047428938:JA->BT:=QQ.tX7 tw16523235828492288951
theorem te5455590425047428938:QQ.tX7 QQ.fA=tw5455590425047428938:=congrArg QQ.tX7 te16523235828492288951
def tw2791031806164027339:JA->BT:=QQ.tX8 tw16523235828492288951
theorem te2791031806164027339:QQ.tX8 QQ.fA=tw2791031806164027339:=congrArg QQ.tX8 te16523235828492288951
def tw16382833061521595172:JA->BT:=QQ.tX9 tw16523235828492288951
theorem te16382833061521595172:QQ.tX9 QQ.fA=tw16382833061521595172:=congrArg QQ.tX9 te16523235828492288951
def tw14234046191593580076:JA->BT:=QQ.tX10 tw16523235828492288951
theorem te14234046191593580076:QQ.tX10 QQ.fA=tw14234046191593580076:=congrArg QQ.tX10 te16523235828492288951
def tw12009214606253906647:JA->BT:=QQ.tX11 tw16523235828492288951
theorem te12009214606253906647:QQ.tX11 QQ.fA=tw12009214606253906647:=congrArg QQ.tX11 te16523235828492288951
def tw3965622751681072707:JA->BT:=QQ.tX12 tw16523235828492288951
theorem te3965622751681072707:QQ.tX12 QQ.fA=tw3965622751681072707:=congrArg QQ.tX12 te16523235828492288951
def tw3952090603606353329:JA->BT:=QQ.tX13 tw16523235828492288951
theorem te3952090603606353329:QQ.tX13 QQ.fA=tw3952090603606353329:=congrArg QQ.tX13 te16523235828492288951
def tw12695371283607138056:JA->PySem.Heap:=QQ.hX0 tw16523235828492288951
theorem te12695371283607138056:QQ.hX0 QQ.fA=tw12695371283607138056:=congrArg QQ.hX0 te16523235828492288951
def tw7211763078112874880:JA->PySem.Heap:=QQ.hX1 tw16523235828492288951
theorem te7211763078112874880:QQ.hX1 QQ.fA=tw7211763078112874880:=congrArg QQ.hX1 te16523235828492288951
end PySem.W.Fast
end
open PySem PySem.W PyProof.Rows
set_option maxRecDepth 100000 in
set_option maxHeartbeats 0 in
theorem PySem.Challenge.cw_spotlook_k45_fewest_refused_holds : PySem.Challenge.rw_spotlook_k45_fewest_refused.Holds := by
 w_on;o_law;o_head (PySem.W.kmHook QQ.kK [!2,!3,!4,!20,!21,!30,!31,!43,!44,!55,!56,!71,!72,!74,!75,!90,!91,!93,!94,!109,!110,!112,!113,!128,!129,!131,!132,!143,!144,!152,!153,!159,!160,!166,!167,!173,!174,!180,!181,!187,!188,!194,!195,!201,!202,!208,!209,!215,!216,!222,!223,!229,!230,!236,!237,!241,!242,!248,!249,!255,!256,!260,!261,!267,!268,!274,!275,!288,!289,!293,!294,!298,!299,!303,!304,!308,!309,!315,!316,!322,!323,!327,!328,!330,!331,!341,!342,!348,!349,!355,!356,!362,!363,!369,!370,!376,!377,!383,!384,!390,!391,!397,!398,!402,!403,!407,!408,!414,!415,!419,!420,!426,!427,!431,!432,!436,!437,!443,!444,!450,!451,!457,!458] (λ_=>by kernel_rfl) [244]);(case hw=>w_witness2)
 k_fill
 refine SD.vn (Pt:=244) (c0:=248) (k:=26) (x:="_law_script") (sp:=QQ.jD) (l:=PySem.Challenge.rw_spotlook_k45_fewest_refused) rfl rfl #[8,⋯,⋯,rfl] (λw h Y=>PySem.W.km_in_of Y) (λw h Y=>PySem.W.km_tabs_of Y _ (_)) (λw=>by kernel_rfl) (λw=>by kernel_rfl) ?F QQ.DC
 case F=>
  intro w mg fa h KX G hmg
  let fc_lowest_first:SD.vt (L2.KOf KX) mg "lowest_first" QQ.bM 248:=by
   dsimp only[L2.KOf]
   refine' SD.vt.mk KX G ?a ?l ?c ?k
   (case a=>k_is);(case l=>k_is);(case c=>k_is);(case k=>k_is)
  let lm:SD.Mk (L2.KOf KX) mg 248 244:=by
   dsimp only[L2.KOf]
   refine' SD.HF KX G (by kernel_rfl) ?a ?l ?b ?c ?d ?e ?f
   (case a=>k_is);(case l=>k_is);(case b=>decide);(case c=>decide);(case d=>rfl);(case e=>rfl);(case f=>rfl)
  let g_MOST_FOR_FEWEST:∃t,mg "MOST_FOR_FEWEST"=MW (.int 5 t):=by
   refine' SD.Hb KX G ?a
   (case a=>k_is)
  let r_Absent:mg "Absent"=MW (.ref (SD.cl (L2.KOf KX) "Absent")):=by
   dsimp only[L2.KOf]
   refine' SD.jN KX G ?a
   (case a=>k_is)
  let r_Crossing:mg "Crossing"=MW (.ref (SD.cl (L2.KOf KX) "Crossing")):=by
   dsimp only[L2.KOf]
   refine' SD.jN KX G ?a
   (case a=>k_is)
  let r_NoFraction:mg "NoFraction"=MW (.ref (SD.cl (L2.KOf KX) "NoFraction")):=by
   dsimp only[L2.KOf]
   refine' SD.jN KX G ?a
   (case a=>k_is)
  let r_NoRow:mg "NoRow"=MW (.ref (SD.cl (L2.KOf KX) "NoRow")):=by
   dsimp only[L2.KOf]
   refine' SD.jN KX G ?a
   (case a=>k_is)
  let r_NoText:mg "NoText"=MW (.ref (SD.cl (L2.KOf KX) "NoText")):=by
   dsimp only[L2.KOf]
   refine' SD.jN KX G ?a
   (case a=>k_is)
  let r_NoWall:mg "NoWall"=MW (.ref (SD.cl (L2.KOf KX) "NoWall")):=by
   dsimp only[L2.KOf]
   refine' SD.jN KX G ?a
   (case a=>k_is)
  let r_SpotError:mg "SpotError"=MW (.ref (SD.cl (L2.KOf KX) "SpotError")):=by
   dsimp only[L2.KOf]
   refine' SD.jN KX G ?a
   (case a=>k_is)
  let r_TooMany:mg "TooMany"=MW (.ref (SD.cl (L2.KOf KX) "TooMany")):=by
   dsimp only[L2.KOf]
   refine' SD.jN KX G ?a
   (case a=>k_is)
  let e_SpotError:SD.ClsE (L2.KOf KX) "SpotError" (SD.cl (L2.KOf KX) "SpotError"):=by
   dsimp only[L2.KOf]
   refine' SD.IQ ?a ?b
   (case a=>k_is);(case b=>k_exc)
  let eb_SpotError:Kc (L2.KOf KX) (.ref (SD.cl (L2.KOf KX) "SpotError")) (.type "BaseException")=MW MY:=by
   dsimp only[L2.KOf]
   refine' SD.tm ?a ?b
   (case a=>k_is);(case b=>k_is)
  let B_SpotError:SD.ClsB (L2.KOf KX) (SD.cl (L2.KOf KX) "SpotError"):=by
   dsimp only[L2.KOf]
   refine' SD.B8 ?a ?b ?c ?d
   (case a=>k_is);(case b=>k_is);(case c=>k_is);(case d=>k_is)
  let eb_TooMany:Kc (L2.KOf KX) (.ref (SD.cl (L2.KOf KX) "TooMany")) (.type "BaseException")=MW MY:=by
   dsimp only[L2.KOf]
   refine' SD.tm ?a ?b
   (case a=>k_is);(case b=>k_is)
  let es_TooMany_SpotError:Kc (L2.KOf KX) (.ref (SD.cl (L2.KOf KX) "TooMany")) (.ref (SD.cl (L2.KOf KX) "SpotError"))=MW MY:=by
   dsimp only[L2.KOf]
   refine' SD.Ed ?a ?b ?c
   (case a=>k_is);(case b=>k_is);(case c=>k_is)
  let fn_TooMany_count:Ko (L2.KOf KX) (.ref (SD.cl (L2.KOf KX) "TooMany")) "count"=MW MX:=by
   dsimp only[L2.KOf]
   refine' SD.D4 ?a ?b
   (case a=>k_is);(case b=>k_is)
  let hd_TooMany:KJ (L2.KOf KX) (SD.cl (L2.KOf KX) "TooMany")=MY:=by
   dsimp only[L2.KOf]
   refine' SD.HH ?a ?b
   (case a=>k_is);(case b=>k_is)
  let m_TooMany:∃fI fd,SD.ClsI (L2.KOf KX) (SD.cl (L2.KOf KX) "TooMany") (SD.cl (L2.KOf KX) "SpotError") fI/\L2.Fun (L2.KOf KX) "__init__" "TooMany.__init__" QQ.hZ fI fd:=by
   dsimp only[L2.KOf]
   refine' SD.Cj ?a ?b ?l ?lN ?ok ?ni ?e ?fn ?kp ?hd ?sa ?ob ?lf ?cf ?kf
   (case a=>k_is);(case b=>k_is);(case l=>k_is);(case lN=>k_is);(case ok=>rfl);(case ni=>k_is);(case e=>k_exc);(case fn=>k_is);(case kp=>k_is);(case hd=>k_is);(case sa=>k_is);(case ob=>k_is);(case lf=>k_is);(case cf=>k_is);(case kf=>k_is)
  let ek_TooMany:SD.ErrK (L2.KOf KX) (SD.cl (L2.KOf KX) "TooMany"):=by
   dsimp only[L2.KOf]
   refine' SD.G9 ?a ?b ?c ?d ?e ?f ?g
   (case a=>k_is);(case b=>k_is);(case c=>k_is);(case d=>k_is);(case e=>k_is);(case f=>k_is);(case g=>k_is)
  let kv_TooMany:JY (L2.KOf KX) (.ref (SD.cl (L2.KOf KX) "TooMany")) (.type "ValueError")=MW MY:=by
   dsimp only[L2.KOf]
   refine' SD.BE ?a ?b (by decide +kernel)
   (case a=>k_is);(case b=>k_is)
  let ki_TooMany_Absent:JY (L2.KOf KX) (.ref (SD.cl (L2.KOf KX) "TooMany")) (.ref (SD.cl (L2.KOf KX) "Absent"))=MW MZ:=by
   dsimp only[L2.KOf]
   refine' SD.jo ?a ?b ?c ?d ?e
   (case a=>k_is);(case b=>k_is);(case c=>k_is);(case d=>k_is);(case e=>with_unfolding_all rfl)
  let ki_TooMany_Crossing:JY (L2.KOf KX) (.ref (SD.cl (L2.KOf KX) "TooMany")) (.ref (SD.cl (L2.KOf KX) "Crossing"))=MW MZ:=by
   dsimp only[L2.KOf]
   refine' SD.jo ?a ?b ?c ?d ?e
   (case a=>k_is);(case b=>k_is);(case c=>k_is);(case d=>k_is);(case e=>with_unfolding_all rfl)
  let ki_TooMany_NoFraction:JY (L2.KOf KX) (.ref (SD.cl (L2.KOf KX) "TooMany")) (.ref (SD.cl (L2.KOf KX) "NoFraction"))=MW MZ:=by
   dsimp only[L2.KOf]
   refine' SD.jo ?a ?b ?c ?d ?e
   (case a=>k_is);(case b=>k_is);(case c=>k_is);(case d=>k_is);(case e=>with_unfolding_all rfl)
  let ki_TooMany_NoRow:JY (L2.KOf KX) (.ref (SD.cl (L2.KOf KX) "TooMany")) (.ref (SD.cl (L2.KOf KX) "NoRow"))=MW MZ:=by
   dsimp only[L2.KOf]
   refine' SD.jo ?a ?b ?c ?d ?e
   (case a=>k_is);(case b=>k_is);(case c=>k_is);(case d=>k_is);(case e=>with_unfolding_all rfl)
  let ki_TooMany_NoText:JY (L2.KOf KX) (.ref (SD.cl (L2.KOf KX) "TooMany")) (.ref (SD.cl (L2.KOf KX) "NoText"))=MW MZ:=by
   dsimp only[L2.KOf]
   refine' SD.jo ?a ?b ?c ?d ?e
   (case a=>k_is);(case b=>k_is);(case c=>k_is);(case d=>k_is);(case e=>with_unfolding_all rfl)
  let ki_TooMany_NoWall:JY (L2.KOf KX) (.ref (SD.cl (L2.KOf KX) "TooMany")) (.ref (SD.cl (L2.KOf KX) "NoWall"))=MW MZ:=by
   dsimp only[L2.KOf]
   refine' SD.jo ?a ?b ?c ?d ?e
   (case a=>k_is);(case b=>k_is);(case c=>k_is);(case d=>k_is);(case e=>with_unfolding_all rfl)
  let ki_TooMany_TooMany:JY (L2.KOf KX) (.ref (SD.cl (L2.KOf KX) "TooMany")) (.ref (SD.cl (L2.KOf KX) "TooMany"))=MW MY:=by
   dsimp only[L2.KOf]
   refine' SD.BG
  let i_:SD.mH (L2.KOf KX) mg "Cutter" (SD.cl (L2.KOf KX) "Cutter") "Cutter.__init__" QQ.cL:=by
   dsimp only[L2.KOf]
   refine' SD.mH.mk KX G ?a ?m ?b ?e ?kc ?l ?d ?k
   (case a=>k_is);(case m=>k_is);(case b=>k_is);(case e=>k_is);(case kc=>k_is);(case l=>k_is);(case d=>k_is);(case k=>k_is)
  let j_:SD.eg (L2.KOf KX) (SD.cl (L2.KOf KX) "Cutter") "walls_over" "Cutter.walls_over" QQ.cg:=by
   dsimp only[L2.KOf]
   refine' SD.eg.mk ?a ?b ?e ?l ?d ?k
   (case a=>k_is);(case b=>k_is);(case e=>k_is);(case l=>k_is);(case d=>k_is);(case k=>k_is)
  let kb:SD.eg (L2.KOf KX) (SD.cl (L2.KOf KX) "Cutter") "cut_at_wall" "Cutter.cut_at_wall" QQ.bX:=by
   dsimp only[L2.KOf]
   refine' SD.eg.mk ?a ?b ?e ?l ?d ?k
   (case a=>k_is);(case b=>k_is);(case e=>k_is);(case l=>k_is);(case d=>k_is);(case k=>k_is)
  let ke:SD.eg (L2.KOf KX) (SD.cl (L2.KOf KX) "Cutter") "corners_between" "Cutter.corners_between" QQ.bH:=by
   dsimp only[L2.KOf]
   refine' SD.eg.mk ?a ?b ?e ?l ?d ?k
   (case a=>k_is);(case b=>k_is);(case e=>k_is);(case l=>k_is);(case d=>k_is);(case k=>k_is)
  let kr:SD.eg (L2.KOf KX) (SD.cl (L2.KOf KX) "Cutter") "cut_at_corner" "Cutter.cut_at_corner" QQ.bO:=by
   dsimp only[L2.KOf]
   refine' SD.eg.mk ?a ?b ?e ?l ?d ?k
   (case a=>k_is);(case b=>k_is);(case e=>k_is);(case l=>k_is);(case d=>k_is);(case k=>k_is)
  let kz:SD.eg (L2.KOf KX) (SD.cl (L2.KOf KX) "Cutter") "all_cuts" "Cutter.all_cuts" QQ.cJ:=by
   dsimp only[L2.KOf]
   refine' SD.eg.mk ?a ?b ?e ?l ?d ?k
   (case a=>k_is);(case b=>k_is);(case e=>k_is);(case l=>k_is);(case d=>k_is);(case k=>k_is)
  let kS:SD.eg (L2.KOf KX) (SD.cl (L2.KOf KX) "Cutter") "fewest_for" "Cutter.fewest_for" QQ.cb:=by
   dsimp only[L2.KOf]
   refine' SD.eg.mk ?a ?b ?e ?l ?d ?k
   (case a=>k_is);(case b=>k_is);(case e=>k_is);(case l=>k_is);(case d=>k_is);(case k=>k_is)
  let cl_Cutter:L2.Cls (L2.KOf KX) (SD.cl (L2.KOf KX) "Cutter"):=by
   dsimp only[L2.KOf]
   refine' SD.EF ?a ?pg ?hd ?po ?sa
   (case a=>k_is);(case pg=>k_is);(case hd=>k_is);(case po=>k_is);(case sa=>k_is)
  refine QQ.GO ⟨?_,?_,?_,?_,?_,?_,?_,?_,?_,?_,?_,?_,?_,?_,?_,?_,?_,?_,?_,?_,?_,?_,?_,?_,?_,?_,?_,?_,?_,?_,?_,?_,?_,?_,?_,?_,?_,?_,fc_lowest_first,lm,?_,?_,?_,?_,?_,?_,?_,?_,?_,?_,?_,?_,?_,?_,g_MOST_FOR_FEWEST,r_Absent,r_Crossing,r_NoFraction,r_NoRow,r_NoText,r_NoWall,r_SpotError,r_TooMany,e_SpotError,eb_SpotError,B_SpotError,eb_TooMany,es_TooMany_SpotError,fn_TooMany_count,hd_TooMany,m_TooMany,ek_TooMany,kv_TooMany,ki_TooMany_Absent,ki_TooMany_Crossing,ki_TooMany_NoFraction,ki_TooMany_NoRow,ki_TooMany_NoText,ki_TooMany_NoWall,ki_TooMany_TooMany,i_,j_,kb,ke,kr,kz,kS,cl_Cutter,?_,?_,?_,?_⟩ hmg
  all_goals first|((try dsimp only[L2.KOf]);refine' SD.Txt.mk KX G ?a ?l ?c ?k;(case a=>k_is);(case l=>k_is);(case c=>k_is);(case k=>k_is))|(refine' Kj KX G ?a;(case a=>k_is))|((try dsimp only[L2.KOf]);refine' SD.uU ?a ?h;(case a=>k_is);(case h=>k_is))
