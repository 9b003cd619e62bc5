import PyProof.Rows.All
import Wide.All
import OpenK.AllK
import Wide.FinOn
import Lean
import PyProof.EqAt
import PyProof.EqKinds
import PyProof.TupleCall
import PySem.Challenge.RW_spotlook_k27_whole_faces_tell_the_lands
local macro_rules | `(tactic| omega) => `(tactic| lia)
open Bool renaming false_ne_true->GA,and_eq_true->GN,false_and->Hd,true_and->Hw,false_eq_true->Ia,and_false->Iy,eq_iff_iff->ID,decide_and->Jj
open False renaming elim->JD
open ForInStep renaming yield->IT
open Int renaming lt_trichotomy->Gy,mul_pos->GF,mul_neg_of_pos_of_neg->GK,sign->GS,mul_neg_of_neg_of_pos->GU,mul_pos_of_neg_of_neg->He,sign_eq_neg_one_of_neg->Hm,fdiv_eq_ediv_of_nonneg->HD,sign_eq_one_of_pos->HH,le_of_lt->HI,toNat_natCast->HQ,mul_zero->HW,mul_eq_zero->Ic,mul_nonneg->Je,add_zero->Jr,sub_self->Js,ofNat->Jy,le_refl->JA
open List renaming getElem?_eq_getElem->G8,getElem?_map->Gr,map_cons->Gs,mem_of_getElem?->Gu,length_map->Gx,getElem?_eq_some_iff->Gz,mem_append_right->GI,size_toArray->GJ,mem_filter->GQ,range->GR,map_append->GV,mem_append->GY,replicate->GZ,find?_cons->Ha,mem_cons->Hf,mem_map->Hi,mem_cons_of_mem->Ho,mem_range->Hq,all_eq_true->Hs,getElem?_append_right->Ht,length_cons->Hv,getElem?_append_left->Hy,sum_cons->Hz,getElem_mem->HC,mem_singleton->HE,toArray->HJ,mem_cons_self->HK,lookup_cons->HY,append_nil->Ib,map_nil->Ig,take_of_length_le->Ih,replicate_succ->Ii,length_nil->Io,length_append->Ir,pairwise_iff_getElem->IE,map->IG,ne_nil_of_mem->II,take_succ->IM,range_succ->IU,map_congr_left->IX,any_cons->J1,length_take->J6,zip_cons_cons->Jb,foldl_cons->Ji,flatten_cons->Jn,append_assoc->Jo
open List.Pairwise renaming filter->Jq
open Nat renaming le_refl->Gq,lt_of_lt_of_le->GP,ne_of_lt->Hh,le_trans->HF,zero_le->HR,mod_two_eq_zero_or_one->Iz,gcd->Jg
open PyProof.Rows renaming IntsAre->Im,callWith_type1->IY
open PySem renaming wpAny_bind->cc,Value->G0,Shared->G6,wpAny_pure->G7,wpAny->Gw,wpAny_mono->GB,sizeLine->GD,model->GG,starEach->GH,Program->GL,Params->H0,foldedSetIterable->Hb,compareOp->Hc,wpAny_newObj_type->Hg,World->Hk,mem_of_lookup->Hn,Around->Hr,wpAny_loadPart'->Hx,cLine->HG,bootBuiltins->HL,DictEntry->HM,wpAny_truthy_bool->HN,wpAny_holding->HP,backTo->Ij,wpAny_standAt->Ik,sysModules->Iq,cellsFrom->Iu,wpAny_seqItems->Iw,letOwnedTupleGo->IB,binaryOp->IF,Spec->IH,wpAny_typeNameOfWhole_keyiter->IL,wpAny_pyNext_tuple_item->IP,codeAny->IQ,wpAny_callSpecial?_slot->IS,NameKind->IW,swapsWith->J5,wpAny_call_entry->J7,Scope->Ja,wpAny_pyIter_tuple->Jc,wpAny_tryCatch->Jd,wpAny_passesOwn->Jh,codeAny_builtin->Jk,mainGlobals->Jl,keywordEach->Jm,behindInMarks->Jt,assignEach->Ju,plainId_quiet->Jv,assign->Jw,PyData->Jx,FuncData->JE,Paired->JF,Builtin->JG
open PySem.Around renaming under_plainId->IK
open PySem.Challenge renaming pw_spotlook_k27_whole_faces_tell_the_lands->GW
open PySem.F renaming slot_dict_keyiterator_next->Ip,plain_max_loop->J8,plain_min_loop->J9,slot_tuple_iterator_next->Jf
open PySem.Heap renaming get?_push_of_some->G9,get?_push_size->Gv,lt_size->GC,get?_update_other->Hl,get?_update_self->HZ,size_push->I0,SameBut->IJ
open PySem.Heap.SameBut renaming update->IA
open PySem.NameKind renaming free->J3
open PySem.PassesOwn renaming never->GO
open PySem.PyData renaming eqv->Hu,eqvAll->HX,canLayAll0->Jp
open PySem.SeqAt renaming shaped->IZ,canLay_of_shaped->J0
open PySem.Str renaming ofString->Ie
open PySem.Value renaming ref->HS,none->Iv,bool->JB,type->JC
open PySem.W renaming Frag->G5,BT->GX,fnOf->Il
open Rat renaming intCast_mul->Hj,intCast_sub->IC,intCast_add->IV,mul_pos->J4,div_def->Jz
local macro_rules | `(↑$n:num) => `(nat_lit $n)
set_option Elab.async false
set_option linter.all false
set_option maxRecDepth 100000
set_option maxHeartbeats 4000000
theorem nbL{n m:Nat}(h:Nat.ble n m=true):n<=m:=Nat.le_of_ble_eq_true h
namespace L2
open PySem PySem.Spec PyProof.Rows
abbrev Key:=Sum Int Str
def mJ:Key->G0->Bool
 |.inl k,v=>Value.isInt k v
 |.inr x,v=>Value.isStrOf x v
def F4(w:Hk):Key->Int
 |.inl k=>hashInt k
 |.inr x=>hashStr w x
theorem bz:∀{k:Key} {v:G0},mJ k v=true->(∃i t,k=Sum.inl i/\v=Value.int i t)\/(∃x t,k=Sum.inr x/\v=Value.str x t)
 |.inl i,v,h=>by
  obtain⟨t,e⟩:=Value.isInt_shape (k:=i) (v:=v) h
  exact .inl ⟨i,t,rfl,e⟩
 |.inr x,v,h=>by
  obtain⟨t,e⟩:=Value.isStrOf_shape (x:=x) (v:=v) h
  exact .inr ⟨x,t,rfl,e⟩
theorem vf(i:Int)(t:Tok):mJ (.inl i) (.int i t)=true:=by simp[mJ,Value.isInt]
theorem uB(x:Str)(t:Tok):mJ (.inr x) (.str x t)=true:=by simp[mJ,Value.isStrOf]
theorem Cg(a b:Int):decide ((Sum.inl a:Key)=Sum.inl b)=(a==b):=by
 by_cases e:a=b
 ·subst e;simp
 ·have h:¬(Sum.inl a:Key)=Sum.inl b:=fun q=>e (Sum.inl.inj q);rw[decide_eq_false h];exact(beq_eq_false_iff_ne.mpr e).symm
theorem Cc(a b:Str):decide ((Sum.inr a:Key)=Sum.inr b)=decide (a=b):=by
 by_cases e:a=b
 ·subst e;simp
 ·have h:¬(Sum.inr a:Key)=Sum.inr b:=fun q=>e (Sum.inr.inj q);rw[decide_eq_false h,decide_eq_false e]
theorem CQ(a:Int)(b:Str):decide ((Sum.inl a:Key)=Sum.inr b)=false:=decide_eq_false (fun q=>nomatch q)
theorem C7(a:Str)(b:Int):decide ((Sum.inr a:Key)=Sum.inl b)=false:=decide_eq_false (fun q=>nomatch q)
def bQ(prog:GL)(w:Hk):PySem.KeyKind prog w Key where
 is:=mJ
 hash:=F4 w
 inj:=fun v a b ha hb=>by
  rcases bz ha with⟨i,t,rfl,rfl⟩|⟨x,t,rfl,rfl⟩
  ·rcases bz hb with⟨j,u,rfl,e⟩|⟨y,u,rfl,e⟩
   ·injection e with e1 _;rw[e1]
   ·exact nomatch e
  ·rcases bz hb with⟨j,u,rfl,e⟩|⟨y,u,rfl,e⟩
   ·exact nomatch e
   ·injection e with e1 _;rw[e1]
 byValue:=fun k v h=>by
  rcases bz h with⟨i,t,rfl,rfl⟩|⟨x,t,rfl,rfl⟩<;>rfl
 pyHash:=fun hv h=>by
  rcases bz hv with⟨i,t,rfl,rfl⟩|⟨x,t,rfl,rfl⟩
  ·exact wpAny_pyHash_int h
  ·exact wpAny_pyHash_str h
 eqBool:=fun hu hv h=>by
  rcases bz hu with⟨i,t,rfl,rfl⟩|⟨x,t,rfl,rfl⟩
  ·rcases bz hv with⟨j,u,rfl,rfl⟩|⟨y,u,rfl,rfl⟩
   ·rw[Cg]at h;exact wpAny_eqBool_int h
   ·rw[CQ]at h;exact SeqAt.EqAt.int_str i t y u _ _ _ _ h
  ·rcases bz hv with⟨j,u,rfl,rfl⟩|⟨y,u,rfl,rfl⟩
   ·rw[C7]at h;exact SeqAt.EqAt.str_int x t j u _ _ _ _ h
   ·rw[Cc]at h;exact wpAny_eqBool_str h
 «strs»:=fun k x t v h=>by
  rcases bz h with⟨i,u,rfl,e⟩|⟨y,u,rfl,e⟩
  ·exact nomatch e
  ·injection e with e1 _
   subst e1
   cases v<;>rfl
theorem oR(prog:GL)(w:Hk)(i:Int)(t:Tok):(bQ prog w).is (.inl i) (.int i t)=true:=vf i t
theorem pI(prog:GL)(w:Hk)(x:Str)(t:Tok):(bQ prog w).is (.inr x) (.str x t)=true:=uB x t
inductive V where
 |non|bl (b:Bool)|int (i:Int)|str (x:Str)|byt (b:Array UInt8)|flt (b:UInt64)|ref (a:Addr)|ty (n:String)
 deriving DecidableEq
def RelV:V->G0->Prop
 |.non,u=>u=Iv
 |.bl b,u=>u=JB b
 |.int i,u=>∃t,u=Value.int i t
 |.str x,u=>∃t,u=Value.str x t
 |.byt b,u=>∃t,u=Value.bytes b t
 |.flt b,u=>∃t,u=Value.float b t
 |.ref a,u=>u=HS a
 |.ty n,u=>u=JC n
abbrev Vals:List V->List G0->Prop:=JF RelV
theorem Vals.length{xs:List V}{us:List G0}(r:Vals xs us):xs.length=us.length:=Paired.length r
theorem Vals.get:∀{xs:List V} {us:List G0} {i:Nat} {x:V},Vals xs us->xs[i]?=some x->∃u,us[i]?=some u/\RelV x u
 |_,_,_,_,.nil,e=>by simp at e
 |_,_,0,_,.cons r _,e=>by simp at e;subst e;exact⟨_,rfl,r⟩
 |_,_,i+1,x,.cons _ t,e=>by
  obtain⟨u,h1,h2⟩:=Vals.get (i:=i) (x:=x) t (by simpa using e)
  exact⟨u,by simpa using h1,h2⟩
theorem Vals.set{x:V}{u:G0}(r:RelV x u):∀{xs:List V} {us:List G0} (i:Nat),Vals xs us->Vals (xs.set i x) (us.set i u)
 |_,_,_,.nil=>.nil
 |_,_,0,.cons _ t=>.cons r t
 |_,_,i+1,.cons q t=>.cons q (Vals.set r i t)
theorem Vals.append:∀{xs ys:List V} {us ws:List G0},Vals xs us->Vals ys ws->Vals (xs++ys) (us++ws)
 |_,_,_,_,.nil,s=>s
 |_,_,_,_,.cons r t,s=>.cons r (Vals.append t s)
theorem Vals.take:∀{xs:List V} {us:List G0} (n:Nat),Vals xs us->Vals (xs.take n) (us.take n)
 |_,_,0,_=>.nil
 |_,_,_+1,.nil=>.nil
 |_,_,n+1,.cons r t=>.cons r (Vals.take n t)
theorem Vals.drop:∀{xs:List V} {us:List G0} (n:Nat),Vals xs us->Vals (xs.drop n) (us.drop n)
 |_,_,0,r=>r
 |_,_,_+1,.nil=>.nil
 |_,_,n+1,.cons _ t=>Vals.drop n t
def uN:Option V->Option G0->Prop
 |some v,some u=>RelV v u
 |none,none=>True
 |_,_=>False
def KV{κ:Type}:List (κ×V)->List (κ×G0)->Prop:=JF fun(p:κ×V) (q:κ×G0)=>p.1=q.1/\RelV p.2 q.2
def kV:Key->V
 |.inl i=>.int i
 |.inr x=>.str x
inductive HO where
 |lst (xs:List V)
 |tup (xs:List V)
 |dK (kvs:List (Key×V))|dT (kvs:List (List Key×V))
 |set (S:Int->Bool) (n:Nat)
 |ins (C dx:Addr) (fs:List (Str×V))
 |own (x:Addr)
 |xd (fs:List (Str×V))
 |met (f x:Addr)
 |rng (lo hi:Int)
 |frz (o:Obj) (u:HO)
 |tbl (ps:Array G0)
 |ext (φ:Heap->Prop)
abbrev Hp:=Addr->Option HO
def upd(H:Hp)(a:Addr)(o:HO):Hp:=fun b=>if b=a then some o else H b
theorem aW{H:Hp}{a:Addr}{o:HO}:upd H a o a=some o:=by unfold upd;rw[if_pos rfl]
theorem aS{H:Hp}{a b:Addr}{o:HO}(h:b≠a):upd H a o b=H b:=by unfold upd;rw[if_neg h]
theorem EO{H:Hp}{a b:Addr}{o u:HO}(h:H a=some o)(h':H b=some u)(d:o≠u):a≠b:=by intro e;subst e;rw[h]at h';exact d (Option.some.inj h')
theorem du{H:Hp}{a b:Addr}{o:HO}(h:H a=some o)(h':H b=none):a≠b:=by intro e;subst e;rw[h]at h';cases h'
section
variable(P:GL)(w:Hk)
def NoD(h:Heap)(a:Addr):Prop:=∃o,h.get? a=some o/\o.dict=none
theorem NoD.new(h:Heap)(u:Array G0):NoD (h.push { cls:=.type "tuple",data:=.seq u }) h.objs.size:=⟨_,Gv _ rfl,rfl⟩
def cn(H:Hp)(h:Heap)(a:Addr):HO->Prop
 |.lst xs=>xs.length<=GD/\∃(its:List G0) (n:Nat),Vals xs its/\h.get? a=some { cls:=.type "list",data:=.seq its.toArray n }
 |.tup xs=>xs.length<=GD/\∃its:List G0,Vals xs its/\IsTup h a its.toArray/\NoD h a
 |.dK kvs=>kvs.length<=GD/\(a==Iq)=false/\∃vs,KV kvs vs/\h.DictOf (bQ P w) a vs
 |.dT kvs=>kvs.length<=GD/\(a==Iq)=false/\∃xs:List (List Key×Addr×G0),
  JF (fun(p:List Key×V) (q:List Key×Addr×G0)=>p.1=q.1/\H q.2.1=some (.tup (p.1.map kV))/\RelV p.2 q.2.2) kvs xs/\
  ∃o es ep,h.get? a=some o/\o.ExactDict/\o.data=.dict es ep/\es.toList=xs.map (entryOfKey (tupleKind (bQ P w)))/\(xs.map (·.1)).Nodup
 |.set S n=>h.SetOf (intKind P w) a S n
 |.ins C dx fs=>H dx=some (.own a)/\fs.length<=1000/\dx≠a/\h.get? a=some (PySem.W.instObj C dx)/\
  ∃mA,h.Ns1 dx mA/\(∀f,uN (fs.lookup f) (mA f))/\PySem.Within mA (fs.map (·.1))
 |.own _=>∃o,h.get? a=some o
 |.xd fs=>∃mA,h.Ns1 a mA/\∀f,uN (fs.lookup f) (mA f)
 |.rng lo hi=>∃t u v,h.get? a=some { cls:=.type "range",data:=.fields #[.int lo t,.int hi u,.int 1 v] }
 |.frz o u=>h.get? a=some o/\cn H h a u
 |.tbl ps=>h.get? a=some { cls:=.none,data:=.fields ps }
 |.met f x=>h.get? a=some (PySem.W.methodObj (.ref f) (.ref x))
 |.ext φ=>φ h/\(∃o,h.get? a=some o)/\∀h1 h2:Heap,φ h1->(∀o,h1.get? a=some o->h2.get? a=some o)->φ h2
def HOk(H:Hp)(h:Heap):Prop:=∀a o,H a=some o->cn P w H h a o
end
section
variable{P:GL}{w:Hk}{H H':Hp}{h h':Heap}{a:Addr}{o:HO}
theorem cn.lt(x:cn P w H h a o):a<h.objs.size:=by
 cases o with
 |lst xs=>obtain⟨_,_,_,_,e⟩:=x;exact GC e
 |tup xs=>obtain⟨_,_,_,p,_⟩:=x;exact p.lt
 |dK kvs=>obtain⟨_,_,_,_,o,_,_,e,_⟩:=x;exact GC e
 |dT kvs=>obtain⟨_,_,_,_,o,_,_,e,_⟩:=x;exact GC e
 |set S n=>obtain⟨o,_,_,_,e,_⟩:=x;exact GC e
 |ins C dx fs=>obtain⟨_,_,_,e,_⟩:=x;exact GC e
 |own y=>obtain⟨_,e⟩:=x;exact GC e
 |xd fs=>obtain⟨_,⟨_,_,_,e,_⟩,_⟩:=x;exact GC e
 |rng lo hi=>obtain⟨_,_,_,e⟩:=x;exact GC e
 |frz ob u=>obtain⟨e,_⟩:=x;exact GC e
 |tbl ps=>exact GC (show h.get? a=some _ from x)
 |met f y=>exact GC (show h.get? a=some _ from x)
 |ext φ=>obtain⟨_,⟨_,e⟩,_⟩:=x;exact GC e
theorem Paired.C9{α β:Type}{F G:α->β->Prop}:∀{l₁:List α} {l₂:List β},JF F l₁ l₂->(∀a b,F a b->G a b)->JF G l₁ l₂
 |_,_,.nil,_=>.nil
 |_,_,.cons r t,f=>.cons (f _ _ r) (Paired.C9 t f)
theorem cn.gH(x:cn P w H h a o)(k:∀b u,(b=a\/H b=some (.own a))->h.get? b=some u->h'.get? b=some u) (ho:∀b,H b=some (.own a)->H' b=some (.own a)) (ht:∀b xs,H b=some (.tup xs)->H' b=some (.tup xs)):cn P w H' h' a o:=by
 induction o with
 |lst xs=>obtain⟨z,its,n,r,e⟩:=x;exact⟨z,its,n,r,k _ _ (.inl rfl) e⟩
 |tup xs=>obtain⟨z,its,r,⟨ob,e,c⟩,o2,e2,d2⟩:=x;exact⟨z,its,r,⟨ob,k _ _ (.inl rfl) e,c⟩,o2,k _ _ (.inl rfl) e2,d2⟩
 |dK kvs=>obtain⟨z,y,vs,r,ob,es,ep,e,c⟩:=x;exact⟨z,y,vs,r,ob,es,ep,k _ _ (.inl rfl) e,c⟩
 |dT kvs=>
  obtain⟨z,y,xs,r,ob,es,ep,e,c⟩:=x
  exact⟨z,y,xs,Paired.C9 r fun p q z=>⟨z.1,ht _ _ z.2.1,z.2.2⟩,ob,es,ep,k _ _ (.inl rfl) e,c⟩
 |set S n=>obtain⟨ob,es,ep,t,e,c⟩:=x;exact⟨ob,es,ep,t,k _ _ (.inl rfl) e,c⟩
 |ins C dx fs=>
  obtain⟨d,z,ne,e,mA,⟨od,es,ep,e2,c⟩,r⟩:=x
  exact⟨ho _ d,z,ne,k _ _ (.inl rfl) e,mA,⟨od,es,ep,k _ _ (.inr d) e2,c⟩,r⟩
 |own y=>obtain⟨ob,e⟩:=x;exact⟨ob,k _ _ (.inl rfl) e⟩
 |xd fs=>obtain⟨mA,⟨od,es,ep,e,c⟩,r⟩:=x;exact⟨mA,⟨od,es,ep,k _ _ (.inl rfl) e,c⟩,r⟩
 |rng lo hi=>obtain⟨t,u,v,e⟩:=x;exact⟨t,u,v,k _ _ (.inl rfl) e⟩
 |frz ob u ih=>obtain⟨e,q⟩:=x;exact⟨k _ _ (.inl rfl) e,ih q⟩
 |tbl ps=>
  have e:h.get? a=some { cls:=.none,data:=.fields ps }:=x
  show h'.get? a=some { cls:=.none,data:=.fields ps }
  exact k a _ (.inl rfl) e
 |met f y=>
  have e:h.get? a=some (PySem.W.methodObj (.ref f) (.ref y)):=x
  show h'.get? a=some (PySem.W.methodObj (.ref f) (.ref y))
  exact k a _ (.inl rfl) e
 |ext φ=>obtain⟨p,⟨o,e⟩,st⟩:=x;exact⟨st _ _ p fun o q=>k _ _ (.inl rfl) q,⟨o,k _ _ (.inl rfl) e⟩,st⟩
theorem HOk.lt(x:HOk P w H h)(e:H a=some o):a<h.objs.size:=(x a o e).lt
theorem HOk.fresh(x:HOk P w H h)(e:h.objs.size<=a):H a=none:=by
 cases q:H a with
 |none=>rfl
 |some u=>exact absurd (GP (x.lt q) e) (Nat.lt_irrefl _)
theorem HOk.kept(x:HOk P w H h)(k:∀b u,h.get? b=some u->h'.get? b=some u):HOk P w H h':=fun a o e=>(x a o e).gH (fun b u _ q=>k b u q) (fun _ q=>q) fun _ _ q=>q
theorem HOk.laid(x:HOk P w H h)(k:∀b u,h.get? b=some u->h'.get? b=some u)(hp:h.objs.size<=a)(new:cn P w (upd H a o) h' a o):HOk P w (upd H a o) h':=fun b u e=>by
 have hn:=x.fresh hp;by_cases hb:b=a
 ·subst hb;rw[aW]at e;cases e;exact new
 ·rw[aS hb]at e;exact(x b u e).gH (fun c v _ q=>k c v q) (fun c q=>by rw[aS (du q hn)];exact q) fun c xs q=>by rw[aS (du q hn)];exact q
end
def Rd(H:Hp)(a:Addr)(u:HO):Prop:=H a=some u\/∃o,H a=some (.frz o u)
theorem Rd.ok{P:GL}{w:Hk}{H:Hp}{h:Heap}{a:Addr}{u:HO}(r:Rd H a u)(x:HOk P w H h):cn P w H h a u:=by
 rcases r with r|⟨o,r⟩
 ·exact x a u r
 ·obtain⟨_,q⟩:=x a _ r;exact q
def Mut:Option HO->Prop
 |some (.lst _)=>True
 |some (.dK _)=>True
 |some (.dT _)=>True
 |some (.set _ _)=>True
 |some (.ins _ _ _)=>True
 |some (.ext _)=>True
 |_=>False
section
variable{P:GL}{w:Hk}{H:Hp}{h h':Heap}{x e:Addr}{o':HO}
theorem HOk.write(ok:HOk P w H h)(mu:Mut (H x))(he:e=x\/H e=some (.own x))(k:∀b u,b≠e->h.get? b=some u->h'.get? b=some u)(heo:∃u,h'.get? e=some u)
 (new:cn P w (upd H x o') h' x o'):HOk P w (upd H x o') h':=fun b u q=>by
 have nown:∀c y,H c=some (.own y)->c≠x:=fun c y r z=>by subst z;rw[r]at mu;exact mu
 have ntup:∀c xs,H c=some (.tup xs)->c≠x:=fun c xs r z=>by subst z;rw[r]at mu;exact mu
 by_cases hb:b=x
 ·subst hb;rw[aW]at q;cases q;exact new
 ·rw[aS hb]at q
  by_cases hbe:b=e
  ·have q':H b=some (.own x):=by
    rcases he with z|z
    ·exact absurd (hbe.trans z) hb
    ·rw[hbe];exact z
   rw[q]at q';cases q'
   obtain⟨v,hv⟩:=heo
   exact⟨v,by rw[hbe];exact hv⟩
  ·refine(ok b u q).gH (fun c v hc r=>k c v ?_ r) (fun c r=>by rw[aS (nown c b r)];exact r) fun c xs r=>by rw[aS (ntup c xs r)];exact r
   rcases hc with rfl|hc
   ·exact hbe
   ·rintro rfl
    rcases he with z|z
    ·exact nown c b hc z
    ·rw[hc]at z;cases z;exact hb rfl
end
structure Un(fs ex:List Addr)(H H':Hp)(h h':Heap):Prop where
 keep:∀b o,h.get? b=some o->H b=none->b∉fs->b∉ex->h'.get? b=some o
 slot:∀b o,h.get? b=some o->H b=none->b∈fs->b∉ex->∃sl,h'.get? b=some { o with slots:=sl }
 free:∀b o,h.get? b=some o->H b=none->b∉ex->H' b=none
 there:∀b o,h.get? b=some o->b∉ex->∃o',h'.get? b=some o'
 tups:∀b xs,H b=some (.tup xs)->H' b=some (.tup xs)
 frzs:∀b o u,H b=some (.frz o u)->H' b=some (.frz o u)
 tbls:∀b ps,H b=some (.tbl ps)->∃more,H' b=some (.tbl (ps++more))
section
variable{fs fs' ex ex':List Addr}{H H1 H2:Hp}{h h1 h2 h':Heap}{a x e:Addr}{o:HO}
theorem Un.any(u:Un fs ex H H1 h h1){b:Addr}{ob:Obj}(q:h.get? b=some ob)(n:H b=none)(hx:b∉ex):∃sl,h1.get? b=some { ob with slots:=sl }:=by
 by_cases hb:b∈fs
 ·exact u.slot b ob q n hb hx
 ·exact⟨ob.slots,u.keep b ob q n hb hx⟩
theorem Un.kept(k:∀b u,h.get? b=some u->h'.get? b=some u):Un fs ex H H h h':=⟨fun b ob q _ _ _=>k b ob q,fun b ob q _ _ _=>⟨ob.slots,k b ob q⟩,fun _ _ _ n _=>n,fun b ob q _=>⟨ob,k b ob q⟩,fun _ _ q=>q,fun _ _ _ q=>q,fun _ ps q=>⟨#[],by rw[q];simp⟩⟩
theorem Un.refl:Un fs ex H H h h:=Un.kept fun _ _ q=>q
theorem Un.laid(k:∀b u,h.get? b=some u->h'.get? b=some u)(hp:h.objs.size<=a)(hn:H a=none):Un fs ex H (upd H a o) h h' where
 keep:=fun b u q _ _ _=>k b u q
 slot:=fun b u q _ _ _=>⟨u.slots,k b u q⟩
 free:=fun b u q n _=>by rw[aS (Hh (GP (GC q) hp))];exact n
 there:=fun b u q _=>⟨u,k b u q⟩
 tups:=fun b xs q=>by rw[aS (du q hn)];exact q
 frzs:=fun b u xs q=>by rw[aS (du q hn)];exact q
 tbls:=fun b ps q=>⟨#[],by rw[aS (du q hn),q];simp⟩
theorem Un.write(mu:Mut (H x))(he:e=x\/H e=some (.own x))(k:∀b u,b≠e->h.get? b=some u->h'.get? b=some u)(heo:∃u,h'.get? e=some u):Un fs ex H (upd H x o) h h':=by
 have hx:∀b,H b=none->b≠x:=fun b n z=>by subst z;rw[n]at mu;exact mu
 have hb:∀b,H b=none->b≠e:=fun b n z=>by
  subst z;rcases he with r|r
  ·exact hx b n r
  ·rw[n]at r;cases r
 have hm:∀b u,H b=some u->¬Mut (some u)->b≠x:=fun b u q nm z=>by subst z;rw[q]at mu;exact nm mu
 refine⟨fun b u q n _ _=>k b u (hb b n) q,fun b u q n _ _=>⟨u.slots,k b u (hb b n) q⟩,fun b u q n _=>by rw[aS (hx b n)];exact n,fun b u q _=>?_,fun b xs q=>by rw[aS (hm b _ q fun z=>z)];exact q,fun b u xs q=>by rw[aS (hm b _ q fun z=>z)];exact q,fun b ps q=>⟨#[],by rw[aS (hm b _ q fun z=>z),q];simp⟩⟩;by_cases hbe:b=e
 ·subst hbe;exact heo
 ·exact⟨u,k b u hbe q⟩
end
def trk(h:Heap)(H:Hp):List Addr:=(GR h.objs.size).filter fun a=>(H a).isSome
def ot(h:Heap)(H:Hp):Heap:=PySem.W.hideAll h (trk h H)
theorem uZ(h:Heap)(H:Hp):(ot h H).objs.size=h.objs.size:=PySem.W.hideAll_size _ _
theorem yo{h:Heap}{H:Hp}{b:Addr}{o:Obj}(e:h.get? b=some o)(n:H b=none):(ot h H).get? b=some o:=
 PySem.W.hideAll_get _ e fun hm=>by
  have q:(H b).isSome=true:=(GQ.mp hm).2
  rw[n]at q;simp at q
theorem zi{h:Heap}{H:Hp}{b:Addr}{o:Obj}(e:(ot h H).get? b=some o):h.get? b=some o/\H b=none:=by
 have e':h.get? b=some o:=PySem.W.of_hideAll (trk h H) e;refine⟨e',?_⟩;cases q:H b with
 |none=>rfl
 |some x=>
  have hm:b∈trk h H:=GQ.mpr ⟨Hq.mpr (GC e'),by simp[q]⟩
  have z:(ot h H).get? b=none:=PySem.W.hideAll_none (trk h H) hm
  rw[z]at e;cases e
structure Mod(K:G5)(mg:Str->Option G0)(base:Heap):Prop where
 kin:K.In base
 glob:base.Ns Jl mg
 blt:∃mb,base.Ns builtinsNs mb/\∀x:Str,x≠"__name__"->mb x=HL x
 nolimit:base.NoLimit
structure Cx where
 prog:GL
 w:Hk
 K:G5
 mg:Str->Option G0
 base:Heap
 A:Hr
 N:List Str
 s₀:G6
 H₀:Hp
 env:Env
 outer:List Env
 stack:List Env
 ex:List Addr
 fn:Str->Bool
 calm:Bool
 pn:List (Addr×Obj)
 xe:G0->G6->Prop
def frs(l:List Env):List Addr:=l.filterMap (·.frame)
abbrev Cx.fs(X:Cx):List Addr:=frs X.outer
def Vis(sc:Ja)(x:Str):Prop:=sc.names.lookup x=some .local\/sc.names.lookup x=some .cell\/sc.names.lookup x=some .free
def Loc(sc:Ja)(x:Str):Prop:=sc.names.lookup x=some .local\/sc.names.lookup x=some .cell
def Look(env:Env)(h:Heap)(m:Str->Option G0)(x:Str)(u:G0):Prop:=
 (env.kindOf x=some .local/\m x=some u)\/((env.kindOf x=some .cell\/env.kindOf x=some .free)/\∃c,env.cells.lookup x=some c/\h.IsCell c (some u))
structure Cx.Ok(X:Cx):Prop where
 mod:Mod X.K X.mg X.base
 kind:X.env.scope.kind=.function
 glob:X.env.globals=Jl
 blt:X.env.builtins=builtinsNs
 above:X.s₀.heap.objs.size<=X.env.locals
 inj:∀x y c,X.env.cells.lookup x=some c->X.env.cells.lookup y=some c->x=y
 has:∀x,(X.env.kindOf x=some .cell\/X.env.kindOf x=some .free)->∃c,X.env.cells.lookup x=some c
 cab:∀x c,X.fn x=true->X.env.cells.lookup x=some c->X.s₀.heap.objs.size<=c
 hd:X.calm=true->X.A.handled=none
 frames:X.A.frames=some X.stack
 stk:X.stack=X.outer\/(X.stack=X.env::X.outer/\X.env.frame=some X.env.locals)
 exf:∀b∈X.ex,b≠X.env.locals/\∀x c,X.env.cells.lookup x=some c->c≠b
 bs:∀b o,X.base.get? b=some o->X.s₀.heap.get? b=some o/\X.H₀ b=none
 bsz:X.base.objs.size<=X.s₀.heap.objs.size
 noex:∀b o,X.base.get? b=some o->b∉X.ex
 exfs:∀b∈X.ex,b∉X.fs
 lK:X.s₀.heap.FunFrames X.base X.outer
 frf:∀b∈X.fs,X.H₀ b=none
structure Inv(X:Cx)(pins:List (Addr×Obj))(σ:List (Option V))(H:Hp)(s:G6):Prop where
 ok:X.Ok
 os:s.os=X.s₀.os
 bare:AllBare s.gens
 base:Un X.fs X.ex X.H₀ H X.s₀.heap s.heap
 loc:∃m,s.heap.Ns X.env.locals m/\∀(i:Nat) (x:Str) (v:V),X.N[i]?=some x->σ[i]?=some (some v)->Vis X.env.scope x->∃u,RelV v u/\Look X.env s.heap m x u
 cell:∀x c,X.env.cells.lookup x=some c->∃v,s.heap.IsCell c v
 free:H X.env.locals=none
 freeC:∀x c,X.env.cells.lookup x=some c->H c=none
 pin:∀p∈X.pn++pins,s.heap.get? p.1=some p.2/\H p.1=none/\p.1≠X.env.locals/\p.1∉X.fs/\∀v,p.2.data≠.cell v
 hok:HOk X.prog X.w H s.heap
 len:σ.length=X.N.length
section
variable{X:Cx}{pins:List (Addr×Obj)}{σ:List (Option V)}{H H':Hp}{s:G6}{h':Heap}
theorem Cx.Ok.FU(ok:X.Ok){b:Addr}{o:Obj}(e:X.base.get? b=some o):b∉X.fs:=fun hb=>by have:=(ok.lK.mem hb).1;rw[e]at this;cases this
theorem Inv.bs(I:Inv X pins σ H s):∀b o,X.base.get? b=some o->s.heap.get? b=some o/\H b=none:=fun b o e=>⟨I.base.keep b o (I.ok.bs b o e).1 (I.ok.bs b o e).2 (I.ok.FU e) (I.ok.noex b o e),I.base.free b o (I.ok.bs b o e).1 (I.ok.bs b o e).2 (I.ok.noex b o e)⟩
theorem Inv.bk(I:Inv X pins σ H s):∀b o,X.base.get? b=some o->s.heap.get? b=some o:=fun b o e=>(I.bs b o e).1
theorem Inv.mod(I:Inv X pins σ H s):Mod X.K X.mg X.base:=I.ok.mod
theorem Inv.kIn(I:Inv X pins σ H s):X.K.In s.heap:=I.ok.mod.kin.keeps I.bk
theorem Inv.lt(I:Inv X pins σ H s):X.env.locals<s.heap.objs.size:=let⟨_,hn,_⟩:=I.loc;hn.lt
theorem Inv.sz(I:Inv X pins σ H s):X.s₀.heap.objs.size<=s.heap.objs.size:=HF I.ok.above (Nat.le_of_lt I.lt)
theorem Inv.Gd(I:Inv X pins σ H s){a:Addr}(h:s.heap.objs.size<=a):a∉X.fs:=fun hb=>by obtain⟨_,o,ho,_⟩:=I.ok.lK.mem hb;exact absurd (GP (GC ho) (HF I.sz h)) (Nat.lt_irrefl _)
theorem Inv.cne(I:Inv X pins σ H s):∀x c,X.env.cells.lookup x=some c->c≠X.env.locals:=fun x c e z=>by obtain⟨v,o,ho,hd⟩:=I.cell x c e;obtain⟨m,⟨o',es,ep,ho',hd',_⟩,_⟩:=I.loc;rw[z,ho']at ho;cases ho;rw[hd']at hd;cases hd
theorem Inv.lK(I:Inv X pins σ H s):s.heap.FunFrames X.base X.outer:=by
 have all:∀(l:List Env),(∀b∈frs l,b∈X.fs)->X.s₀.heap.FunFrames X.base l->s.heap.FunFrames X.base l:=by
  intro l
  induction l with
  |nil=>intro _ _;trivial
  |cons env r ih=>
   intro hs hl
   obtain⟨hk,⟨L,o,hf,hn,ho,hd⟩,hr⟩:=hl
   have hL:L∈X.fs:=hs L (by unfold frs;rw[List.filterMap_cons,hf];exact HK)
   obtain⟨sl,e⟩:=I.base.slot L o ho (I.ok.frf L hL) hL fun z=>I.ok.exfs L z hL
   exact⟨hk,⟨L,_,hf,hn,e,hd⟩,ih (fun b hb=>hs b (by unfold frs;rw[List.filterMap_cons,hf];exact Ho _ hb)) hr⟩
 exact all X.outer (fun _ hb=>hb) I.ok.lK
theorem Inv.stack(I:Inv X pins σ H s):s.heap.FunFrames X.base X.stack:=by
 rcases I.ok.stk with e|⟨e,hf⟩
 ·rw[e];exact I.lK
 ·rw[e];obtain⟨m,hn,_⟩:=I.loc;refine .cons (by rw[I.ok.kind];decide) hf hn ?_ I.lK;exact Heap.get?_none_of_le (HF I.ok.bsz I.ok.above)
theorem Inv.qV(I:Inv X pins σ H s):∀b∈frs X.stack,b∈X.env.locals::X.fs:=fun b hb=>by
 rcases I.ok.stk with e|⟨e,hf⟩
 ·rw[e]at hb;exact Ho _ hb
 ·rw[e]at hb;unfold frs at hb;rw[List.filterMap_cons,hf]at hb;exact hb
theorem Inv.se(I:Inv X pins σ H s):∀b∈frs X.stack,H b=none:=fun b hb=>by
 rcases Hf.mp (I.qV b hb)with e|hb
 ·rw[e];exact I.free
 ·obtain⟨_,o,ho,_⟩:=I.ok.lK.mem hb;exact I.base.free b o ho (I.ok.frf b hb) fun z=>I.ok.exfs b z hb
theorem Inv.step{g':Array GenState}{t':Nat}{d':Drawn}{ch:List Addr}(I:Inv X pins σ H s)
 (hch:∀b∈ch,(b∈X.ex\/X.s₀.heap.objs.size<=b)/\b≠X.env.locals/\(∀x c,X.env.cells.lookup x=some c->c≠b)/\∀p∈X.pn++pins,p.1≠b)
 (keep:∀b o,b≠X.env.locals->b∉X.fs->b∉ch->s.heap.get? b=some o->H b=none->h'.get? b=some o)
 (slot:∀b o,b≠X.env.locals->b∈X.fs->b∉ch->s.heap.get? b=some o->H b=none->∃sl,h'.get? b=some { o with slots:=sl }) (free:∀b o,b∉ch->s.heap.get? b=some o->H b=none->H' b=none)
 (there:∀b o,b∉ch->s.heap.get? b=some o->∃o',h'.get? b=some o')
 (tups:∀b xs,H b=some (.tup xs)->H' b=some (.tup xs)) (frzs:∀b o u,H b=some (.frz o u)->H' b=some (.frz o u)) (tbls:∀b ps,H b=some (.tbl ps)->∃more,H' b=some (.tbl (ps++more)))
 (ns:∀m,s.heap.Ns X.env.locals m->h'.Ns X.env.locals m) (hok:HOk X.prog X.w H' h') (hg:AllBare g') :
 Inv X pins σ H' { s with heap:=h',gens:=g',drawn:=d',toks:=t' }:=by
 have neL:∀b o,X.s₀.heap.get? b=some o->b≠X.env.locals:=fun b o e=>Hh (GP (GC e) I.ok.above)
 have neC:∀b o,X.s₀.heap.get? b=some o->b∉X.ex->b∉ch:=fun b o e hx hb=>by
  rcases(hch b hb).1 with z|z
  ·exact hx z
  ·exact absurd (GP (GC e) z) (Nat.lt_irrefl _)
 have cellK:∀x c,X.env.cells.lookup x=some c->∀v,s.heap.IsCell c v->h'.IsCell c v:=fun x c e v zz1_0=>by
  obtain⟨o,ho,hd⟩:=zz1_0
  have nch:c∉ch:=fun z=>(hch c z).2.2.1 x c e rfl
  by_cases hc:c∈X.fs
  ·obtain⟨sl,q⟩:=slot c o (I.cne x c e) hc nch ho (I.freeC x c e)
   exact⟨_,q,hd⟩
  ·exact⟨o,keep c o (I.cne x c e) hc nch ho (I.freeC x c e),hd⟩
 refine⟨I.ok,I.os,hg,⟨fun b o e n hb hx=>?_,fun b o e n hb hx=>?_,fun b o e n hx=>?_,fun b o e hx=>?_,fun b xs e=>tups b xs (I.base.tups b xs e),fun b o xs e=>frzs b o xs (I.base.frzs b o xs e),fun b ps e=>?_⟩,?_,fun x c e=>?_,?_,fun x c e=>?_,fun p hp=>?_,hok,I.len⟩
 ·exact keep b o (neL b o e) hb (neC b o e hx) (I.base.keep b o e n hb hx) (I.base.free b o e n hx)
 ·obtain⟨sl,e1⟩:=I.base.slot b o e n hb hx
  obtain⟨sl',e2⟩:=slot b _ (neL b o e) hb (neC b o e hx) e1 (I.base.free b o e n hx)
  exact⟨sl',e2⟩
 ·obtain⟨o',e1⟩:=I.base.there b o e hx
  exact free b o' (neC b o e hx) e1 (I.base.free b o e n hx)
 ·obtain⟨o',e1⟩:=I.base.there b o e hx
  exact there b o' (neC b o e hx) e1
 ·obtain⟨m1,e1⟩:=I.base.tbls b ps e
  obtain⟨m2,e2⟩:=tbls b _ e1
  exact⟨m1++m2,by rw[e2,Array.append_assoc]⟩
 ·obtain⟨m,hn,hl⟩:=I.loc
  refine⟨m,ns m hn,fun i x v e1 e2 e3=>?_⟩
  obtain⟨u,r,l⟩:=hl i x v e1 e2 e3
  refine⟨u,r,?_⟩
  rcases l with l|⟨k,c,e,z⟩
  ·exact .inl l
  ·exact .inr ⟨k,c,e,cellK x c e _ z⟩
 ·obtain⟨v,z⟩:=I.cell x c e
  exact⟨v,cellK x c e v z⟩
 ·obtain⟨m,⟨o,_,_,ho,_⟩,_⟩:=I.loc
  exact free _ o (fun z=>(hch _ z).2.1 rfl) ho I.free
 ·obtain⟨v,o,ho,hd⟩:=I.cell x c e
  exact free c o (fun z=>(hch c z).2.2.1 x c e rfl) ho (I.freeC x c e)
 ·obtain⟨e,n,ne,nf,d⟩:=I.pin p hp
  have nch:p.1∉ch:=fun z=>(hch p.1 z).2.2.2 p hp rfl
  exact⟨keep p.1 p.2 ne nf nch e n,free p.1 p.2 nch e n,ne,nf,d⟩
theorem Inv.un{t':Nat}(I:Inv X pins σ H s)(u:Un X.fs [] H H' s.heap h')(hok:HOk X.prog X.w H' h'):Inv X pins σ H' { s with heap:=h',toks:=t' }:=by
 obtain⟨m,⟨o,es,ep,ho,r⟩,_⟩:=id I.loc;obtain⟨sl,hL⟩:=u.any ho I.free (by simp)
 exact I.step (g':=s.gens) (d':=s.drawn) (ch:=[]) (fun _ z=>nomatch z) (fun b o _ hb _ e n=>u.keep b o e n hb (by simp)) (fun b o _ hb _ e n=>u.slot b o e n hb (by simp)) (fun b o _ e n=>u.free b o e n (by simp)) (fun b o _ e=>u.there b o e (by simp)) u.tups u.frzs u.tbls (fun m' hm=>by
  obtain⟨o',es',ep',ho',r'⟩:=hm
  rw[ho]at ho';cases ho'
  exact⟨_,es',ep',hL,r'⟩) hok I.bare
theorem Inv.call{g':Array GenState}{t':Nat}{d':Drawn}{ch:List Addr}(I:Inv X pins σ H s)(u:Un (frs X.stack) ch H H' s.heap h')(hok:HOk X.prog X.w H' h')(hg:AllBare g') (hch:∀b∈ch,(b∈X.ex\/X.s₀.heap.objs.size<=b)/\b≠X.env.locals/\(∀x c,X.env.cells.lookup x=some c->c≠b)/\∀p∈X.pn++pins,p.1≠b) : Inv X pins σ H' { s with heap:=h',gens:=g',drawn:=d',toks:=t' }:=by
 obtain⟨m,⟨o,es,ep,ho,r⟩,_⟩:=id I.loc;obtain⟨sl,hL⟩:=u.any ho I.free fun z=>(hch _ z).2.1 rfl
 exact I.step (ch:=ch) hch (fun b o hL hb hc e n=>u.keep b o e n (fun z=>(Hf.mp (I.qV b z)).elim hL hb) hc) (fun b o _ _ hc e n=>u.any e n hc) (fun b o hc e n=>u.free b o e n hc) (fun b o hc e=>u.there b o e hc) u.tups u.frzs u.tbls (fun m' hm=>by
  obtain⟨o',es',ep',ho',r'⟩:=hm
  rw[ho]at ho';cases ho'
  exact⟨_,es',ep',hL,r'⟩) hok hg
theorem Inv.turned{t':Nat}{it:Addr}(I:Inv X pins σ H s)(k:∀b o,b≠it->s.heap.get? b=some o->h'.get? b=some o)(hn:H it=none)(hL:it≠X.env.locals)
 (h1:it∈X.ex\/X.s₀.heap.objs.size<=it) (h2:∀x c,X.env.cells.lookup x=some c->c≠it) (h3:∀p∈X.pn++pins,p.1≠it):Inv X pins σ H { s with heap:=h',toks:=t' }:=by
 have nit:∀b u,H b=some u->b≠it:=fun b u e z=>by rw[z,hn]at e;cases e
 refine I.step (g':=s.gens) (d':=s.drawn) (ch:=[it]) (fun b hb=>?_) (fun b o _ _ hc e _=>k b o (fun z=>hc (by simp[z])) e) (fun b o _ _ hc e _=>⟨o.slots,k b o (fun z=>hc (by simp[z])) e⟩) (fun _ _ _ _ n=>n)
  (fun b o hc e=>⟨o,k b o (fun z=>hc (by simp[z])) e⟩) (fun _ _ e=>e) (fun _ _ _ e=>e) (fun b ps e=>⟨#[],by rw[e];simp⟩) (fun m hm=>?_) (fun b u e=>?_) I.bare
 ·have e:b=it:=by simpa using hb
  subst e
  exact⟨h1,hL,h2,h3⟩
 ·obtain⟨o,es,ep,ho,r⟩:=hm
  exact⟨o,es,ep,k _ o (Ne.symm hL) ho,r⟩
 ·refine(I.hok b u e).gH (fun c v hc q=>k c v ?_ q) (fun _ q=>q) fun _ _ q=>q
  rcases hc with z|z
  ·rw[z];exact nit b u e
  ·exact nit c _ z
theorem Inv.tok(I:Inv X pins σ H s)(t:Nat):Inv X pins σ H { s with toks:=t }:=I.un (h':=s.heap) (t':=t) Un.refl I.hok
theorem Inv.kept{t':Nat}(I:Inv X pins σ H s)(k:∀b u,s.heap.get? b=some u->h'.get? b=some u):Inv X pins σ H { s with heap:=h',toks:=t' }:=I.un (Un.kept k) (I.hok.kept k)
theorem Inv.laid{a:Addr}{o:HO}{t':Nat}(I:Inv X pins σ H s)(k:∀b u,s.heap.get? b=some u->h'.get? b=some u)(hp:s.heap.objs.size<=a)(new:cn X.prog X.w (upd H a o) h' a o) : Inv X pins σ (upd H a o) { s with heap:=h',toks:=t' }:=I.un (Un.laid k hp (I.hok.fresh hp)) (I.hok.laid k hp new)
theorem Inv.write{x e:Addr}{o:HO}{t':Nat}(I:Inv X pins σ H s)(mu:Mut (H x))(he:e=x\/H e=some (.own x))(k:∀b u,b≠e->s.heap.get? b=some u->h'.get? b=some u)(heo:∃u,h'.get? e=some u) (new:cn X.prog X.w (upd H x o) h' x o):Inv X pins σ (upd H x o) { s with heap:=h',toks:=t' }:=I.un (Un.write mu he k heo) (I.hok.write mu he k heo new)
theorem Inv.sZ{pins':List (Addr×Obj)}(I:Inv X pins σ H s)(h:∀p∈pins',s.heap.get? p.1=some p.2/\H p.1=none/\p.1≠X.env.locals/\p.1∉X.fs/\∀v,p.2.data≠.cell v):Inv X pins' σ H s:=⟨I.ok,I.os,I.bare,I.base,I.loc,I.cell,I.free,I.freeC,fun p hp=>(GY.mp hp).elim (fun z=>I.pin p (List.mem_append_left _ z)) (h p),I.hok,I.len⟩
theorem oN{N:List Str}(hN:N.Nodup){i j:Nat}{x:Str}(a:N[i]?=some x)(b:N[j]?=some x):i=j:=by obtain⟨h1,e1⟩:=Gz.mp a;obtain⟨h2,e2⟩:=Gz.mp b;exact(List.getElem_inj hN).mp (e1.trans e2.symm)
theorem jd{M:Model}{A:Hr}{E:G0->G6->Prop}{i:Nat}{x:Str}{v:V}{u:G0}{Q:Unit->G6->Prop}(I:Inv X pins σ H s)(hN:X.N.Nodup)(hi:X.N[i]?=some x)(hx:Loc X.env.scope x)(r:RelV v u)
 (h:∀s',Inv X pins (σ.set i (some v)) H s'->(∃a,IJ a s.heap s'.heap/\(a=X.env.locals\/X.env.cells.lookup x=some a))->Q () s') (hf:X.fn x=true\/X.env.scope.names.lookup x=some .local:=by first|exact .inl rfl|exact .inr rfl|assumption):Gw M A (storeName X.env x u) Q E s:=by
 obtain⟨m,hn,hl⟩:=id I.loc
 have hcls:(X.env.scope.kind==.class||(X.env.scope.kind==.module&&X.env.locals != X.env.globals))=false:=by rw[I.ok.kind];rfl
 have hiσ:i<σ.length:=by rw[I.len];exact(Gz.mp hi).1
 have cne:=I.cne
 have tracked:∀{a:Addr} {h':Heap},(∃o,s.heap.get? a=some o/\H a=none)->IJ a s.heap h'->HOk X.prog X.w H h':=fun{a h'} ha hs b ob e=>by
  obtain⟨_,_,hfree⟩:=ha
  refine(I.hok b ob e).gH (fun c w' hc q=>(hs.2 c ?_).trans q) (fun _ q=>q) fun _ _ q=>q
  rintro rfl
  rcases hc with rfl|hc
  ·rw[hfree]at e;cases e
  ·rw[hfree]at hc;cases hc
 rcases hx with hk|hk
 ·refine wpAny_storeName_local hk hn (fun h' hn' hs=>?_) hcls
  obtain⟨oL,_,_,hoL,_⟩:=id hn
  refine h _ ⟨I.ok,I.os,I.bare,⟨fun b o e n hb hx=>?_,fun b o e n hb hx=>?_,I.base.free,fun b o e hx=>?_,I.base.tups,I.base.frzs,I.base.tbls⟩,⟨_,hn',fun j y v' e1 e2 e3=>?_⟩,fun y c e=>?_,I.free,I.freeC,fun p hp=>?_,tracked ⟨oL,hoL,I.free⟩ hs,by simpa using I.len⟩ ⟨_,hs,.inl rfl⟩
  ·exact(hs.2 b (Hh (GP (GC e) I.ok.above))).trans (I.base.keep b o e n hb hx)
  ·obtain⟨sl,e1⟩:=I.base.slot b o e n hb hx
   exact⟨sl,(hs.2 b (Hh (GP (GC e) I.ok.above))).trans e1⟩
  ·obtain⟨o',e1⟩:=I.base.there b o e hx
   exact⟨o',(hs.2 b (Hh (GP (GC e) I.ok.above))).trans e1⟩
  ·by_cases hj:j=i
   ·subst hj
    rw[hi]at e1;cases e1
    rw[List.getElem?_set_self hiσ]at e2
    cases e2
    exact⟨u,r,.inl ⟨hk,by simp⟩⟩
   ·rw[List.getElem?_set_ne (Ne.symm hj)]at e2
    obtain⟨u',r',q⟩:=hl j y v' e1 e2 e3
    refine⟨u',r',?_⟩
    rcases q with⟨k,e⟩|⟨k,c,e,z⟩
    ·refine .inl ⟨k,?_⟩
     have:y≠x:=fun e=>hj (oN hN e1 (e▸hi))
     simp[this,e]
    ·exact .inr ⟨k,c,e,z.sameBut hs (cne y c e)⟩
  ·obtain⟨w',z⟩:=I.cell y c e
   exact⟨w',z.sameBut hs (cne y c e)⟩
  ·obtain⟨e,n,ne,nf,d⟩:=I.pin p hp
   exact⟨(hs.2 p.1 ne).trans e,n,ne,nf,d⟩
 ·have hfn:X.fn x=true:=by
   rcases hf with z|z
   ·exact z
   ·rw[z]at hk;cases hk
  obtain⟨c,hc⟩:=I.ok.has x (.inl hk)
  obtain⟨w',z⟩:=I.cell x c hc
  refine wpAny_storeName_cell I.ok.kind hk hc z (fun h' hc' hs=>?_)
  obtain⟨oc,hoc,hocd⟩:=id z
  refine h { s with heap:=h' } ⟨I.ok,I.os,I.bare,⟨fun b o e n hb hx=>?_,fun b o e n hb hx=>?_,I.base.free,fun b o e hx=>?_,I.base.tups,I.base.frzs,I.base.tbls⟩,⟨m,hn.sameBut hs (Ne.symm (cne x c hc)),fun j y v' e1 e2 e3=>?_⟩,fun y c' e=>?_,I.free,I.freeC,fun p hp=>?_,tracked ⟨oc,hoc,I.freeC x c hc⟩ hs,by simpa using I.len⟩ ⟨c,hs,.inr hc⟩
  ·exact(hs.2 b (Hh (GP (GC e) (I.ok.cab x c hfn hc)))).trans (I.base.keep b o e n hb hx)
  ·obtain⟨sl,e1⟩:=I.base.slot b o e n hb hx
   exact⟨sl,(hs.2 b (Hh (GP (GC e) (I.ok.cab x c hfn hc)))).trans e1⟩
  ·obtain⟨o',e1⟩:=I.base.there b o e hx
   exact⟨o',(hs.2 b (Hh (GP (GC e) (I.ok.cab x c hfn hc)))).trans e1⟩
  ·by_cases hj:j=i
   ·subst hj
    rw[hi]at e1;cases e1
    rw[List.getElem?_set_self hiσ]at e2
    cases e2
    exact⟨u,r,.inr ⟨.inl hk,c,hc,hc'⟩⟩
   ·rw[List.getElem?_set_ne (Ne.symm hj)]at e2
    obtain⟨u',r',q⟩:=hl j y v' e1 e2 e3
    refine⟨u',r',?_⟩
    rcases q with q|⟨k,c',e,z'⟩
    ·exact .inl q
    ·refine .inr ⟨k,c',e,z'.sameBut hs ?_⟩
     rintro rfl
     exact hj (oN hN e1 (I.ok.inj _ _ _ e hc▸hi))
  ·by_cases hcc:c'=c
   ·subst hcc;exact⟨_,hc'⟩
   ·obtain⟨w2,z2⟩:=I.cell y c' e
    exact⟨w2,z2.sameBut hs hcc⟩
  ·obtain⟨e,n,ne,nf,d⟩:=I.pin p hp
   refine⟨(hs.2 p.1 ?_).trans e,n,ne,nf,d⟩
   intro q
   rw[q,hoc]at e
   have q':oc=p.2:=Option.some.inj e
   exact d w' (by rw[<-q'];exact hocd)
theorem fB{M:Model}{A:Hr}{E:G0->G6->Prop}{i:Nat}{x:Str}{v:V}{u:G0}{Q:Unit->G6->Prop}(I:Inv X pins σ H s)(hN:X.N.Nodup)(hi:X.N[i]?=some x)(hx:Loc X.env.scope x)(r:RelV v u) (h:∀s',Inv X pins (σ.set i (some v)) H s'->Q () s') (hf:X.fn x=true\/X.env.scope.names.lookup x=some .local:=by first|exact .inl rfl|exact .inr rfl|assumption):Gw M A (storeName X.env x u) Q E s:=jd I hN hi hx r (fun s' I' _=>h s' I') hf
theorem Inv.vF{s':G6}{ch:List Addr}(I:Inv X pins σ H s)(ho:s'.os=s.os)(u:Un (frs X.stack) ch H H' s.heap s'.heap)(hok:HOk X.prog X.w H' s'.heap)(hg:AllBare s'.gens)
 (hch:∀b∈ch,(b∈X.ex\/X.s₀.heap.objs.size<=b)/\b≠X.env.locals/\(∀x c,X.env.cells.lookup x=some c->c≠b)/\∀p∈X.pn++pins,p.1≠b):Inv X pins σ H' s':=by
 obtain⟨h',g',d',t',o'⟩:=s'
 have e:o'=s.os:=ho
 subst e
 exact I.call (g':=g') (t':=t') (d':=d') u hok hg hch
end
abbrev XK:=G0->Option Addr->Hp->Prop
abbrev St:=List (Option V)
abbrev VK:=V->Hp->Prop
abbrev TE:=St->Hp->VK->Prop
abbrev TT:=St->Hp->(Bool->Hp->Prop)->Prop
abbrev TA:=St->Hp->(List V->Hp->Prop)->Prop
structure Ends where
 nx:St->Hp->Prop
 rt:VK
 bk:St->Hp->Prop:=fun _ _=>False
 ct:St->Hp->Prop:=fun _ _=>False
abbrev TS:=Ends->St->Hp->Prop
def EP(X:Cx)(pins:List (Addr×Obj))(σ:St)(Q:VK)(u:G0)(s':G6):Prop:=∃v H',Inv X pins σ H' s'/\RelV v u/\Q v H'
def TP(X:Cx)(pins:List (Addr×Obj))(σ:St)(Q:Bool->Hp->Prop)(b:Bool)(s':G6):Prop:=∃H',Inv X pins σ H' s'/\Q b H'
def AP(X:Cx)(pins:List (Addr×Obj))(σ:St)(Q:List V->Hp->Prop)(us:List G0)(s':G6):Prop:=∃vs H',Inv X pins σ H' s'/\Vals vs us/\Q vs H'
def SP(X:Cx)(pins:List (Addr×Obj))(D:Ends)(f:Flow)(s':G6):Prop:=
 match f with
 |.next=>∃σ' H',Inv X pins σ' H' s'/\D.nx σ' H'
 |.brk=>∃σ' H',Inv X pins σ' H' s'/\D.bk σ' H'
 |.cont=>∃σ' H',Inv X pins σ' H' s'/\D.ct σ' H'
 |.ret u=>∃v σ' H',Inv X pins σ' H' s'/\RelV v u/\D.rt v H'
def PE(X:Cx)(e:Expr)(t:TE):Prop:=
 ∀(pins:List (Addr×Obj)) (s:G6) (σ:St) (H:Hp) (Q:VK),Inv X pins σ H s->t σ H Q->Gw (GG X.prog X.w) X.A (eval e X.env) (EP X pins σ Q) X.xe s
def PT(X:Cx)(e:Expr)(t:TT):Prop:=
 ∀(pins:List (Addr×Obj)) (s:G6) (σ:St) (H:Hp) (Q:Bool->Hp->Prop),Inv X pins σ H s->t σ H Q->Gw (GG X.prog X.w) X.A (isTrue e X.env (eval e X.env)) (TP X pins σ Q) X.xe s
def PW(X:Cx)(e:Expr)(t:TT):Prop:=
 ∀(whole:Sem G0) (pins:List (Addr×Obj)) (s:G6) (σ:St) (H:Hp) (Q:Bool->Hp->Prop),Inv X pins σ H s->t σ H Q->Gw (GG X.prog X.w) X.A (isTrue e X.env whole) (TP X pins σ Q) X.xe s
theorem PW.pt{X:Cx}{e:Expr}{t:TT}(h:PW X e t):PT X e t:=h _
def PA(X:Cx)(es:List Expr)(t:TA):Prop:=
 ∀(pos:Pos) (pins:List (Addr×Obj)) (s:G6) (σ:St) (H:Hp) (Q:List V->Hp->Prop),Inv X pins σ H s->t σ H Q->Gw (GG X.prog X.w) X.A (spliced (Ij pos (GH es X.env))) (AP X pins σ Q) X.xe s
def PS(X:Cx)(st:Stmt)(t:TS):Prop:=
 ∀(pins:List (Addr×Obj)) (s:G6) (σ:St) (H:Hp) (D:Ends),Inv X pins σ H s->t D σ H->Gw (GG X.prog X.w) X.A (exec st X.env) (SP X pins D) X.xe s
def PSs(X:Cx)(st:List Stmt)(t:TS):Prop:=
 ∀(pins:List (Addr×Obj)) (s:G6) (σ:St) (H:Hp) (D:Ends),Inv X pins σ H s->t D σ H->Gw (GG X.prog X.w) X.A (execs st X.env) (SP X pins D) X.xe s
theorem thn{α:Type}{t:Sem α}{Q Q':α->G6->Prop}{M:Model}{A:Hr}{E:G0->G6->Prop}{s:G6}(h:Gw M A t Q E s)(hQ:∀a s,Q a s->Q' a s):Gw M A t Q' E s:=GB h hQ fun _ _ x=>x
section
variable{X:Cx}
def FD(i:Nat):TE:=fun σ H Q=>∃v,σ[i]?=some (some v)/\Q v H
def tC(v:V):TE:=fun _ H Q=>Q v H
theorem Bp{i:Nat}{x:Str}{pos:Pos}(hN:X.N[i]?=some x)(hv:Vis X.env.scope x)(hd:(x==("__debug__":Str))=false:=by decide)(hcd:(x==("__classdict__":Str))=false:=by decide):PE X (.Name x pos) (FD i):=by
 intro pins s σ H Q I h;obtain⟨v,e,h⟩:=h;obtain⟨m,hn,hl⟩:=I.loc;obtain⟨u,r,l⟩:=hl i x v hN e hv;have fin:EP X pins σ Q u s:=⟨v,H,I,r,h⟩;rcases l with⟨hk,hm⟩|⟨hk,c,hc,hcell⟩
 ·exact wpAny_Name (wpAny_loadName_local I.ok.kind hk hn hm fin) hd
 ·rcases hk with hk|hk
  ·exact wpAny_Name (wpAny_loadName_cell I.ok.kind hk hc hcell fin) hd
  ·exact wpAny_Name (wpAny_loadName_free I.ok.kind hk hc hcell fin hcd) hd
theorem wB{i j pos}:PE X (.Constant (.int i) j pos) (tC (.int i)):=fun _ _ _ H _ I h=>wpAny_Constant_int ⟨.int i,H,I.tok _,⟨_,rfl⟩,h⟩
theorem D2{b j pos}:PE X (.Constant (.bool b) j pos) (tC (.bl b)):=fun _ _ _ H _ I h=>Constant_bool ⟨.bl b,H,I,rfl,h⟩
theorem AZ{j pos}:PE X (.Constant .none j pos) (tC .non):=fun _ _ _ H _ I h=>Constant_none ⟨.non,H,I,rfl,h⟩
theorem CS{x j pos}:PE X (.Constant (.str x) j pos) (tC (.str x)):=fun _ _ _ H _ I h=>Calls.Constant_str ⟨.str x,H,I.tok _,⟨_,rfl⟩,h⟩
def Gl(X:Cx)(x:Str):Prop:=X.env.kindOf x=some .globalImplicit
theorem yD{E:G0->G6->Prop}{pins:List (Addr×Obj)}{s:G6}{σ:St}{H:Hp}{x:Str}{u:G0}{pos:Pos}{Q:G0->G6->Prop}(I:Inv X pins σ H s)(hg:Gl X x)(hm:X.mg x=some u)(h:Q u s) (hd:(x==("__debug__":Str))=false:=by decide):Gw (GG X.prog X.w) X.A (eval (.Name x pos) X.env) Q E s:=Calls.Name_function_global I.ok.kind hg (Calls.loadGlobal_global (by rw[I.ok.glob];exact I.mod.glob.keeps I.bk) hm h) hd
theorem jc{E:G0->G6->Prop}{pins:List (Addr×Obj)}{s:G6}{σ:St}{H:Hp}{x:Str}{u:G0}{pos:Pos}{Q:G0->G6->Prop}(I:Inv X pins σ H s)(hg:Gl X x)(hm:X.mg x=none)(hv:HL x=some u)(h:Q u s) (hn:x≠"__name__":=by decide) (hd:(x==("__debug__":Str))=false:=by decide):Gw (GG X.prog X.w) X.A (eval (.Name x pos) X.env) Q E s:=by obtain⟨mb,h1,h2⟩:=I.mod.blt;exact Calls.Name_function_global I.ok.kind hg (Calls.loadGlobal_builtin (by rw[I.ok.glob];exact I.mod.glob.keeps I.bk) hm (by rw[I.ok.blt];exact h1.keeps I.bk) ((h2 x hn).trans hv) h) hd
variable{a b:Expr}{ta tb:TE}{pos:Pos}
def PC(X:Cx)(op:CmpOp)(a b:Expr)(t:TE):Prop:=
 ∀(pins:List (Addr×Obj)) (s:G6) (σ:St) (H:Hp) (Q:VK),Inv X pins σ H s->t σ H Q->
  Gw (GG X.prog X.w) X.A (eval a X.env) (fun v s₁=>Gw (GG X.prog X.w) X.A (eval b X.env) (fun u s₂=>Gw (GG X.prog X.w) X.A (Hc op v u) (EP X pins σ Q) X.xe s₂) X.xe s₁) X.xe s
def tB(t:TE):TT:=fun σ H Q=>t σ H fun x H1=>∃c,x=.bl c/\Q c H1
theorem CN{op:CmpOp}{t:TE}(h:PC X op a b t)(h1:Jt op b=false:=by first|exact nobehind _ (by decide) (by decide)|rfl):PT X (.Compare a [op] [b] pos) (tB t):=by intro pins s σ H Q I hw;refine wpAny_isTrue_Compare1 (thn (h pins s σ H _ I hw) fun v s1 h1=>thn h1 fun u s2 h2=>thn h2 fun c s3 zz6_0=>?_) h1;obtain⟨x,H1,I1,r1,q1⟩:=zz6_0;obtain⟨d,rfl,q⟩:=q1;cases r1;exact HN ⟨H1,I1,q⟩
theorem CB{e:Expr}{t:TE}(h:PE X e t)(he:∀whole,isTrue e X.env whole=(do let v <-whole;standAt e.pos;holding [v] (truthy v)):=by intro _;rfl):PT X e (tB t):=by intro pins s σ H Q I hw;refine isTrue_plain (thn (h pins s σ H _ I hw) fun v s1 zz7_0=>?_) (he _);obtain⟨x,H1,I1,r1,q1⟩:=zz7_0;obtain⟨d,rfl,q⟩:=q1;cases r1;exact HN ⟨H1,I1,q⟩
variable{tA tB':TT}{rest:List Expr}
def Fx(t u:TT):TT:=fun σ H Q=>t σ H fun c H1=>if c=true then u σ H1 Q else Q false H1
def tOr(t u:TT):TT:=fun σ H Q=>t σ H fun c H1=>if c=true then Q true H1 else u σ H1 Q
def FR(t:TT):TT:=fun σ H Q=>t σ H fun c H1=>Q (!c) H1
theorem zu(ha:PT X a tA):PW X (.BoolOp .And [a] pos) tA:=by
 intro wh pins s σ H Q I h;refine isTrue_and (thn (ha pins s σ H Q I h) fun c s1 e=>?_);cases c with
 |true=>exact isTrue_and_nil e
 |false=>exact e
theorem CI(ha:PT X a tA):PW X (.BoolOp .Or [a] pos) tA:=by
 intro wh pins s σ H Q I h;refine isTrue_or (thn (ha pins s σ H Q I h) fun c s1 e=>?_);cases c with
 |false=>exact isTrue_or_nil e
 |true=>exact e
theorem BO(ha:PT X a tA)(hb:PW X (.BoolOp .And (b::rest) pos) tB'):PW X (.BoolOp .And (a::b::rest) pos) (Fx tA tB'):=by
 intro wh pins s σ H Q I h;refine isTrue_and (thn (ha pins s σ H _ I h) fun c s1 zz8_0=>?_);obtain⟨H1,I1,q1⟩:=zz8_0;cases c with
 |true=>exact hb wh pins s1 σ H1 Q I1 q1
 |false=>exact⟨H1,I1,q1⟩
theorem D5(ha:PT X a tA)(hb:PW X (.BoolOp .Or (b::rest) pos) tB'):PW X (.BoolOp .Or (a::b::rest) pos) (tOr tA tB'):=by
 intro wh pins s σ H Q I h;refine isTrue_or (thn (ha pins s σ H _ I h) fun c s1 zz9_0=>?_);obtain⟨H1,I1,q1⟩:=zz9_0;cases c with
 |true=>exact⟨H1,I1,q1⟩
 |false=>exact hb wh pins s1 σ H1 Q I1 q1
theorem Dd(ha:PT X a tA):PT X (.UnaryOp .Not a pos) (FR tA):=by intro pins s σ H Q I h;exact isTrue_not (ha pins s σ H (fun c H1=>Q (!c) H1) I h)
def EN(ta tb:TE):TE:=fun σ H Q=>ta σ H fun x H1=>∃c,x=.bl c/\if c=true then tb σ H1 Q else Q (.bl false) H1
def Fz(ta tb:TE):TE:=fun σ H Q=>ta σ H fun x H1=>∃c,x=.bl c/\if c=true then Q (.bl true) H1 else tb σ H1 Q
def DO(ta:TE):TE:=fun σ H Q=>ta σ H fun x H1=>∃c,x=.bl c/\Q (.bl (!c)) H1
theorem BE{op}{t:TE}(h:PE X a t):PE X (.BoolOp op [a] pos) t:=fun pins s σ H Q I hw=>BoolOp_one (h pins s σ H Q I hw)
theorem A0(ha:PE X a ta)(hb:PE X (.BoolOp .And (b::rest) pos) tb):PE X (.BoolOp .And (a::b::rest) pos) (EN ta tb):=by
 intro pins s σ H Q I h;refine BoolOp_and (thn (ha pins s σ H _ I h) fun v s1 zz10_0=>?_);obtain⟨x,H1,I1,r1,q1⟩:=zz10_0;obtain⟨c,rfl,q1⟩:=q1;cases r1;refine HN ?_;cases c with
 |true=>exact hb pins s1 σ H1 Q I1 q1
 |false=>exact⟨.bl false,H1,I1,rfl,q1⟩
theorem DN(ha:PE X a ta)(hb:PE X (.BoolOp .Or (b::rest) pos) tb):PE X (.BoolOp .Or (a::b::rest) pos) (Fz ta tb):=by
 intro pins s σ H Q I h;refine BoolOp_or (thn (ha pins s σ H _ I h) fun v s1 zz11_0=>?_);obtain⟨x,H1,I1,r1,q1⟩:=zz11_0;obtain⟨c,rfl,q1⟩:=q1;cases r1;refine HN ?_;cases c with
 |false=>exact hb pins s1 σ H1 Q I1 q1
 |true=>exact⟨.bl true,H1,I1,rfl,q1⟩
theorem Be(ha:PE X a ta):PE X (.UnaryOp .Not a pos) (DO ta):=by intro pins s σ H Q I h;refine UnaryOp_ (thn (ha pins s σ H _ I h) fun v s1 zz12_0=>?_);obtain⟨x,H1,I1,r1,q1⟩:=zz12_0;obtain⟨c,rfl,q1⟩:=q1;cases r1;exact not_of (HN ⟨.bl (!c),H1,I1,rfl,q1⟩)
def tIf(t:TT)(ta tb:TE):TE:=fun σ H Q=>t σ H fun c H1=>if c=true then ta σ H1 Q else tb σ H1 Q
theorem wX{c:Expr}(hc:PT X c tA)(ha:PE X a ta)(hb:PE X b tb):PE X (.IfExp c a b pos) (tIf tA ta tb):=by
 intro pins s σ H Q I h;refine wpAny_IfExp (thn (hc pins s σ H _ I h) fun d s1 zz13_0=>?_);obtain⟨H1,I1,q1⟩:=zz13_0;cases d with
 |true=>exact ha pins s1 σ H1 Q I1 q1
 |false=>exact hb pins s1 σ H1 Q I1 q1
end
def SqL(K:G5)(H:Hp)(a:Addr)(xs:List V):Prop:=
 Rd H a (.lst xs)\/
  ∃(o:Obj) (its:Array G0) (n:Nat),K.lookup a=some o/\o.cls=.type "list"/\o.dict=none/\o.data=.seq its n/\its.size<=GD/\Vals xs its.toList
def SqT(K:G5)(H:Hp)(a:Addr)(xs:List V):Prop:=
 Rd H a (.tup xs)\/
  ∃(o:Obj) (its:Array G0) (n:Nat),K.lookup a=some o/\(o.cls=.type "tuple"/\o.dict=none)/\o.data=.seq its n/\its.size<=GD/\Vals xs its.toList
def Gn:G0->Option V
 |.none=>some .non
 |.bool b=>some (.bl b)
 |.int i _=>some (.int i)
 |.str x _=>some (.str x)
 |.bytes b _=>some (.byt b)
 |.float b _=>some (.flt b)
 |.ref a=>some (.ref a)
 |.type n=>some (.ty n)
 |_=>none
theorem RelV.abs{x:V}{u:G0}(r:RelV x u):Gn u=some x:=by
 cases x with
 |non=>cases r;rfl
 |bl _=>cases r;rfl
 |int _=>obtain⟨t,rfl⟩:=r;rfl
 |str _=>obtain⟨t,rfl⟩:=r;rfl
 |byt _=>obtain⟨t,rfl⟩:=r;rfl
 |flt _=>obtain⟨t,rfl⟩:=r;rfl
 |ref _=>cases r;rfl
 |ty _=>cases r;rfl
theorem RelV.inj{x y:V}{u:G0}(r:RelV x u)(q:RelV y u):x=y:=Option.some.inj (r.abs.symm.trans q.abs)
theorem Vals.inj:∀{xs ys:List V} {us:List G0},Vals xs us->Vals ys us->xs=ys
 |_,_,_,.nil,.nil=>rfl
 |_,_,_,.cons r t,.cons r' t'=>by rw[r.inj r',Vals.inj t t']
section
variable{X:Cx}{pins:List (Addr×Obj)}{σ:St}{H:Hp}{s:G6}{a:Addr}{xs ys:List V}
theorem SqL.of{K:G5}(h:H a=some (.lst xs)):SqL K H a xs:=.inl (.inl h)
theorem SqT.of{K:G5}(h:H a=some (.tup xs)):SqT K H a xs:=.inl (.inl h)
theorem Inv.list(I:Inv X pins σ H s)(h:SqL X.K H a xs):∃its:List G0,Vals xs its/\PlainL s.heap a its.toArray/\xs.length<=GD:=by
 rcases h with h|⟨o,its,n,hk,hc,hd,hs,hz,r⟩
 ·obtain⟨z,its,n,r,e⟩:=h.ok I.hok;exact⟨its,r,⟨_,n,e,rfl,rfl,rfl⟩,z⟩
 ·refine⟨its.toList,r,⟨o,n,I.kIn a o hk,hc,hd,by simpa using hs⟩,?_⟩;have e:=r.length;simp only[Array.length_toList]at e;omega
theorem Inv.tuple(I:Inv X pins σ H s)(h:SqT X.K H a xs):∃its:List G0,Vals xs its/\IsTup s.heap a its.toArray/\xs.length<=GD:=by
 rcases h with h|⟨o,its,n,hk,hc,hs,hz,r⟩
 ·obtain⟨z,its,r,p,_⟩:=h.ok I.hok;exact⟨its,r,p,z⟩
 ·refine⟨its.toList,r,⟨o,I.kIn a o hk,hc.1,n,by simpa using hs⟩,?_⟩;have e:=r.length;simp only[Array.length_toList]at e;omega
theorem Inv.Bn(I:Inv X pins σ H s)(h:SqT X.K H a xs):NoD s.heap a:=by
 rcases h with h|⟨o,its,n,hk,hc,hs,hz,r⟩
 ·obtain⟨z,its,r,_,p⟩:=h.ok I.hok;exact p
 ·exact⟨o,I.kIn a o hk,hc.2⟩
theorem Inv.ir(I:Inv X pins σ H s)(h:SqL X.K H a xs)(h':SqL X.K H a ys):xs=ys:=by
 obtain⟨its,r,⟨o,n,e,_,_,d⟩,_⟩:=I.list h;obtain⟨its',r',⟨o',n',e',_,_,d'⟩,_⟩:=I.list h';rw[e]at e';cases e';rw[d]at d';injection d' with d1 _;have:its=its':=by simpa using congrArg Array.toList d1
 subst this;exact r.inj r'
theorem Inv.m4(I:Inv X pins σ H s)(h:SqT X.K H a xs)(h':SqT X.K H a ys):xs=ys:=by
 obtain⟨its,r,⟨o,e,_,n,d⟩,_⟩:=I.tuple h;obtain⟨its',r',⟨o',e',_,n',d'⟩,_⟩:=I.tuple h';rw[e]at e';cases e';rw[d]at d';injection d' with d1 _;have:its=its':=by simpa using congrArg Array.toList d1
 subst this;exact r.inj r'
end
abbrev Cx.md(X:Cx)(E:G0->G6->Prop):Cx:={ X with xe:=E }
abbrev Cx.nox(X:Cx):Cx:=X.md fun _ _=>False
theorem Cx.Ok.md{X:Cx}(ok:X.Ok)(E:G0->G6->Prop):(X.md E).Ok:=⟨ok.mod,ok.kind,ok.glob,ok.blt,ok.above,ok.inj,ok.has,ok.cab,ok.hd,ok.frames,ok.stk,ok.exf,ok.bs,ok.bsz,ok.noex,ok.exfs,ok.lK,ok.frf⟩
theorem Cx.Ok.fv{X:Cx}{E:G0->G6->Prop}(ok:(X.md E).Ok):X.Ok:=⟨ok.mod,ok.kind,ok.glob,ok.blt,ok.above,ok.inj,ok.has,ok.cab,ok.hd,ok.frames,ok.stk,ok.exf,ok.bs,ok.bsz,ok.noex,ok.exfs,ok.lK,ok.frf⟩
section
variable{X:Cx}{pins:List (Addr×Obj)}{σ:St}{H:Hp}{s:G6}{E:G0->G6->Prop}
theorem Inv.md(I:Inv X pins σ H s)(E:G0->G6->Prop):Inv (X.md E) pins σ H s:=⟨I.ok.md E,I.os,I.bare,I.base,I.loc,I.cell,I.free,I.freeC,I.pin,I.hok,I.len⟩
theorem Inv.fv(I:Inv (X.md E) pins σ H s):Inv X pins σ H s:=⟨I.ok.fv,I.os,I.bare,I.base,I.loc,I.cell,I.free,I.freeC,I.pin,I.hok,I.len⟩
theorem SP.fv{D:Ends}{f:Flow}{s':G6}(h:SP (X.md E) pins D f s'):SP X pins D f s':=by
 cases f with
 |next=>obtain⟨σ',H',I,q⟩:=h;exact⟨σ',H',I.fv,q⟩
 |brk=>obtain⟨σ',H',I,q⟩:=h;exact⟨σ',H',I.fv,q⟩
 |cont=>obtain⟨σ',H',I,q⟩:=h;exact⟨σ',H',I.fv,q⟩
 |ret u=>obtain⟨v,σ',H',I,r,q⟩:=h;exact⟨v,σ',H',I.fv,r,q⟩
theorem PSs.nox{st:List Stmt}{t:TS}(h:PSs X.nox st t):PSs X st t:=fun pins s σ H D I hw=>GB (h pins s σ H D (I.md _) hw) (fun _ _ q=>q.fv) fun _ _ z=>JD z
end
section
variable{X:Cx}{st:Stmt}{rest:List Stmt}{t u:TS}{e:Expr}{te:TE}{pos:Pos}
def Fg:TS:=fun D σ H=>D.nx σ H
def FZ(t u:TS):TS:=fun D σ H=>t { D with nx:=u D } σ H
theorem y8:PSs X [] Fg:=fun _ _ σ H _ I h=>wpAny_execs_nil ⟨σ,H,I,h⟩
theorem wj(h1:PS X st t)(h2:PSs X rest u):PSs X (st::rest) (FZ t u):=by
 intro pins s σ H D I h;refine wpAny_execs_cons (thn (h1 pins s σ H { D with nx:=u D } I h) fun f s1 q=>?_);cases f with
 |next=>
  obtain⟨σ',H',I',q⟩:=q
  exact h2 pins s1 σ' H' D I' q
 |ret v=>exact q
 |brk=>exact q
 |cont=>exact q
theorem Ah(h1:PS X st t):PSs X [st] t:=by
 intro pins s σ H D I h;refine wpAny_execs_cons (thn (h1 pins s σ H D I h) fun f s1 q=>?_);cases f with
 |next=>exact wpAny_execs_nil q
 |ret v=>exact q
 |brk=>exact q
 |cont=>exact q
theorem Inv.quiet{pins:List (Addr×Obj)}{σ:St}{H:Hp}{s:G6}(I:Inv X pins σ H s):interactive X.env=false:=by simp[interactive,I.ok.kind]
def DQ(te:TE):TS:=fun D σ H=>te σ H fun _ H1=>D.nx σ H1
theorem yK(he:PE X e te)(hs:J5 e none pos.line X.env=pure false:=by rfl):PS X (.Expr e pos) (DQ te):=by intro pins s σ H D I h;exact wpAny_Expr_any (thn (he pins s σ H _ I h) fun v s1 zz16_0=>by obtain⟨x,H1,I1,r1,q1⟩:=zz16_0;exact(⟨σ,H1,I1,q1⟩)) I.quiet hs
def Fw(te:TE):TS:=fun D σ H=>te σ H D.rt
theorem CT(he:PE X e te):PS X (.Return (some e) pos) (Fw te):=by intro pins s σ H D I h;exact wpAny_Return_some (thn (he pins s σ H _ I h) fun v s1 zz17_0=>by obtain⟨x,H1,I1,r1,q1⟩:=zz17_0;exact(⟨x,σ,H1,I1,r1,q1⟩))
def Gi(c:TT)(t u:TS):TS:=fun D σ H=>c σ H fun b H1=>if b=true then t D σ H1 else u D σ H1
theorem ER{c:Expr}{a b:List Stmt}{tc:TT}(hc:PT X c tc)(ha:PSs X a t)(hb:PSs X b u):PS X (.If c a b pos) (Gi tc t u):=by
 intro pins s σ H D I h;refine wpAny_If (thn (hc pins s σ H _ I h) fun d s1 zz18_0=>?_);obtain⟨H1,I1,q1⟩:=zz18_0;cases d with
 |true=>exact ha pins s1 σ H1 D I1 q1
 |false=>exact hb pins s1 σ H1 D I1 q1
def A9:TS:=fun _ _ _=>False
theorem vP:PS X st A9:=fun _ _ _ _ _ _ h=>h.elim
end
abbrev TG:=V->St->Hp->(St->Hp->Prop)->Prop
abbrev TGs:=List V->St->Hp->(St->Hp->Prop)->Prop
def PG(X:Cx)(target:Expr)(t:TG):Prop:=
 ∀(pins:List (Addr×Obj)) (s:G6) (σ:St) (H:Hp) (v:V) (u:G0) (Q:St->Hp->Prop),Inv X pins σ H s->RelV v u->t v σ H Q->
  Gw (GG X.prog X.w) X.A (Jw target X.env u) (fun _ s'=>∃σ' H',Inv X pins σ' H' s'/\Q σ' H') X.xe s
def PGs(X:Cx)(ts:List Expr)(t:TGs):Prop:=
 ∀(pins:List (Addr×Obj)) (s:G6) (σ:St) (H:Hp) (vs:List V) (us:List G0) (Q:St->Hp->Prop),Inv X pins σ H s->Vals vs us->t vs σ H Q->
  Gw (GG X.prog X.w) X.A (assignInOrder ((Ju ts X.env).map (·.2)) us) (fun _ s'=>∃σ' H',Inv X pins σ' H' s'/\Q σ' H') X.xe s
abbrev B7:=V->V->V->Hp->(Hp->Prop)->Prop
def Ft(X:Cx)(t:B7):Prop:=
 ∀(pins:List (Addr×Obj)) (s:G6) (σ:St) (H:Hp) (o i v:V) (ov iv u:G0) (Q:Hp->Prop),Inv X pins σ H s->RelV o ov->RelV i iv->RelV v u->t o i v H Q->
  Gw (GG X.prog X.w) X.A (setItem ov iv u) (fun _ s'=>∃H',Inv X pins σ H' s'/\Q H') X.xe s
abbrev TIp:=V->V->Hp->VK->Prop
def PIp(X:Cx)(op:Operator)(t:TIp):Prop:=
 ∀(pins:List (Addr×Obj)) (s:G6) (σ:St) (H:Hp) (x y:V) (v u:G0) (Q:VK),Inv X pins σ H s->RelV x v->RelV y u->t x y H Q->
  Gw (GG X.prog X.w) X.A (inplaceOp op v u) (EP X pins σ Q) X.xe s
section
variable{X:Cx}{pos:Pos}
def fo(i:Nat):TG:=fun v σ H Q=>Q (σ.set i (some v)) H
theorem sF{i:Nat}{x:Str}(hN:X.N.Nodup)(hi:X.N[i]?=some x)(hx:Loc X.env.scope x)(hf:X.fn x=true\/X.env.scope.names.lookup x=some .local:=by first|exact .inl rfl|exact .inr rfl|assumption):PG X (.Name x pos) (fo i):=by intro pins s σ H v u Q I r h;exact wpAny_assign_Name (fB I hN hi hx r (fun s' I'=>⟨_,H,I',h⟩) hf)
def BK:TGs:=fun vs σ H Q=>vs=[]/\Q σ H
def pT(t:TG)(u:TGs):TGs:=fun vs σ H Q=>∃v r,vs=v::r/\t v σ H fun σ' H'=>u r σ' H' Q
theorem t5:PGs X [] BK:=by intro pins s σ H vs us Q I r h;obtain⟨e,h⟩:=h;subst e;cases r;exact assignInOrder_nil ⟨σ,H,I,h⟩
theorem lH{e:Expr}{es:List Expr}{t:TG}{u:TGs}(h1:PG X e t)(h2:PGs X es u) (hs:(Ju (e::es) X.env).map (·.2)=Jw e X.env::(Ju es X.env).map (·.2):=by rfl):PGs X (e::es) (pT t u):=by
 intro pins s σ H vs us Q I r h;obtain⟨v,vr,e1,h⟩:=h;subst e1;cases r with
 |cons r rr=>
  rw[hs]
  refine assignInOrder_cons (thn (h1 pins s σ H _ _ _ I r h) fun _ s1 zz19_0=>?_)
  obtain⟨σ1,H1,I1,q1⟩:=zz19_0
  exact h2 pins s1 σ1 H1 _ _ Q I1 rr q1
def De(K:G5)(n:Nat)(t:TGs):TG:=fun v σ H Q=>∃a xs,v=.ref a/\SqT K H a xs/\xs.length=n/\t xs σ H Q
theorem vU{es:List Expr}{k:Nat}{t:TGs}{n:Nat}(hc:X.calm=true)(h:PGs X es t)
 (hn:(Ju es X.env).length=n:=by rfl) (hst:(Ju es X.env).findIdx? (·.1)=none:=by rfl):PG X (.Tuple es k pos) (De X.K n t):=by
 intro pins s σ H v u Q I r hw
 obtain⟨a,xs,e1,hq,hl,hw⟩:=hw
 subst e1
 cases r
 obtain⟨its,rv,ht,hz⟩:=I.tuple hq
 refine assign_Tuple_tuple (I.ok.hd hc) ht (by simp[hn,<-hl,rv.length]) hst fun h' hx=>?_
 have I1:Inv X pins σ H { s with heap:=h' }:=I.kept (t':=s.toks) fun b o e=>hx b o (Hh (GC e)) e
 exact h pins _ σ H xs _ Q I1 (by simpa using rv) hw
def Gm(to ti:TE)(t:B7):TG:=fun v σ H Q=>to σ H fun o H1=>ti σ H1 fun i H2=>t o i v H2 fun H3=>Q σ H3
theorem B8{o i:Expr}{to ti:TE}{t:B7}(ho:PE X o to)(hi:PE X i ti)(hs:Ft X t)
 (ha:∀v,Jw (.Subscript o i pos) X.env v=(do
  let ov <-holding [v] (eval o X.env)
  let iv <-holding [v,ov] (eval i X.env)
  standAt pos
  holding [v,ov,iv] (setItem ov iv v)
  release [v,ov,iv] []):=by intro _;rfl):PG X (.Subscript o i pos) (Gm to ti t):=by
 intro pins s σ H v u Q I r h
 rw[ha]
 refine cc (HP (thn (ho pins s σ H _ I h) fun ov s1 zz20_0=>?_))
 obtain⟨x,H1,I1,r1,q1⟩:=zz20_0
 refine cc (HP (thn (hi pins s1 σ H1 _ I1 q1) fun iv s2 zz21_0=>?_))
 obtain⟨y,H2,I2,r2,q2⟩:=zz21_0
 refine cc (Ik (cc (HP (thn (hs pins s2 σ H2 x y v ov iv u _ I2 r1 r2 r q2) fun _ s3 zz22_0=>?_))))
 obtain⟨H3,I3,q3⟩:=zz22_0
 exact wpAny_release ⟨σ,H3,I3,q3⟩
def zA(te:TE)(g:TG):TS:=fun D σ H=>te σ H fun x H1=>g x σ H1 D.nx
theorem Cd{tg e:Expr}{te:TE}{g:TG}(he:PE X e te)(hg:PG X tg g)(hs:swapsWithSole [tg] e pos.line X.env=pure false:=by rfl)(hw:swappedStores [tg] e X.env=pure none:=by rfl) (h1:(Ju [tg] X.env).map (·.2)=[Jw tg X.env]:=by rfl):PS X (.Assign [tg] e pos) (zA te g):=by intro pins s σ H D I h;refine wpAny_Assign_stores (thn (he pins s σ H _ I h) fun v s1 zz23_0=>?_) hs hw;obtain⟨x,H1,I1,r1,q1⟩:=zz23_0;rw[h1];exact thn (hg pins s1 σ H1 x v _ I1 r1 q1) fun _ s2 q=>q
theorem BD{i:Nat}{x:Str}{e:Expr}{te:TE}{pos':Pos}(hN:X.N.Nodup)(hi:X.N[i]?=some x)(hx:Loc X.env.scope x)(he:PE X e te)(hs:J5 e (some (.Name x pos')) pos.line X.env=pure false:=by rfl)(hf:X.fn x=true\/X.env.scope.names.lookup x=some .local:=by first|exact .inl rfl|exact .inr rfl|assumption) : PS X (.Assign [.Name x pos'] e pos) (zA te (fo i)):=by intro pins s σ H D I h;refine wpAny_Assign_Name (thn (he pins s σ H _ I h) fun v s1 zz24_0=>?_) hs;obtain⟨y,H1,I1,r1,q1⟩:=zz24_0;exact fB I1 hN hi hx r1 (fun s2 I2=>⟨_,H1,I2,q1⟩) hf
def FV(i j:Nat)(ta:TA):TS:=fun D σ H=>ta σ H fun vs H1=>∃v w,vs=[v,w]/\D.nx ((σ.set i (some v)).set j (some w)) H1
theorem Cn{i j:Nat}{x y:Str}{a b:Expr}{ta:TA}{px py pt:Pos}{kt k2 pt2}(hc:X.calm=true)(hN:X.N.Nodup)(hi:X.N[i]?=some x)(hj:X.N[j]?=some y)(hij:i≠j)
 (hx:X.env.scope.names.lookup x=some .local) (hy:X.env.scope.names.lookup y=some .local) (ha:PA X [a,b] ta)
 (hw:swappedStores [.Tuple [.Name x px,.Name y py] kt pt] (.Tuple [a,b] k2 pt2) X.env=pure (some [x,y]))
 (hs:swapsWithSole [.Tuple [.Name x px,.Name y py] kt pt] (.Tuple [a,b] k2 pt2) pos.line X.env=pure false:=by rfl) :
 PS X (.Assign [.Tuple [.Name x px,.Name y py] kt pt] (.Tuple [a,b] k2 pt2) pos) (FV i j ta):=by
 intro pins s σ H D I h
 rw[exec_Assign_arm]
 refine cc (Ik ?_)
 rw[hs]
 refine cc (G7 ?_)
 rw[if_neg (by decide)]
 refine cc (Tuple_ (thn (ha _ pins s σ H _ I h) fun us s1 zz25_0=>?_))
 obtain⟨vs,H1,I1,r1,q1⟩:=zz25_0
 obtain⟨v,w,e1,q1⟩:=q1
 subst e1
 obtain⟨u1,u2,rfl,rv,rw'⟩:∃u1 u2,us=[u1,u2]/\RelV v u1/\RelV w u2:=by
  cases r1 with
  |cons p q=>
   cases q with
   |cons p' q'=>
    cases q'
    exact⟨_,_,rfl,p,p'⟩
 refine Hg ?_ (by show 2<=GD;decide)
 have I2:Inv X pins σ H1 { s1 with heap:=s1.heap.push { cls:=.type "tuple",data:=.seq [u1,u2].toArray } }:=I1.kept (t':=s1.toks) fun b o e=>G9 _ e
 rw[hw]
 refine cc (G7 ?_)
 show Gw (GG X.prog X.w) X.A (do rule "assign.swapped-stores";let items <-unpackItems (.ref s1.heap.objs.size) 2 none;assignInOrder [fun v=>bindName X.env y v,fun v=>bindName X.env x v] items.reverse;pure Flow.next) _ _ _
 refine cc (wpAny_rule (cc (unpackItems_tuple (items:=#[u1,u2]) (I.ok.hd hc) (IsTup.new s1.heap _) fun h' hx'=>?_)))
 have I3:=I2.kept (h':=h') (t':=s1.toks) fun b o e=>hx' b o (Hh (GC e)) e
 show Gw _ _ (assignInOrder [fun v=>bindName X.env y v,fun v=>bindName X.env x v] [u2,u1] >>= fun _=>pure Flow.next) _ _ _
 refine cc (assignInOrder_cons (wpAny_bindName (fB I3 hN hj (.inl hy) rw' (fun s2 I4=>?_) (.inr hy))))
 refine assignInOrder_cons (wpAny_bindName (fB I4 hN hi (.inl hx) rv (fun s3 I5=>assignInOrder_nil (G7 ?_)) (.inr hx)))
 rw[List.set_comm _ _ (Ne.symm hij)]at I5
 exact⟨_,H1,I5,q1⟩
def Fv(i:Nat)(te:TE)(ti:TIp):TS:=fun D σ H=>∃x,σ[i]?=some (some x)/\te σ H fun y H1=>ti x y H1 fun z H2=>D.nx (σ.set i (some z)) H2
theorem Bh{i:Nat}{x:Str}{e:Expr}{te:TE}{op:Operator}{ti:TIp}{pos':Pos}(hN:X.N.Nodup)(hi:X.N[i]?=some x)(hx:Loc X.env.scope x)(he:PE X e te)(ho:PIp X op ti)(hf:X.fn x=true\/X.env.scope.names.lookup x=some .local:=by first|exact .inl rfl|exact .inr rfl|assumption) :
 PS X (.AugAssign (.Name x pos') op e pos) (Fv i te ti):=by
 intro pins s σ H D I h
 obtain⟨v,e1,h⟩:=h
 obtain⟨m,hn,hl⟩:=I.loc
 have vis:Vis X.env.scope x:=by rcases hx with k|k;exact .inl k;exact .inr (.inl k)
 obtain⟨u,r,l⟩:=hl i x v hi e1 vis
 refine wpAny_AugAssign_Name ?_
 have go:Gw (GG X.prog X.w) X.A (eval e X.env) (fun w s₂=>Gw (GG X.prog X.w) X.A (inplaceOp op u w) (fun r s₃=>Gw (GG X.prog X.w) X.A (storeName X.env x r) (fun _=>SP X pins D .next) X.xe s₃) X.xe s₂) X.xe s:=by
  refine thn (he pins s σ H _ I h) fun w s1 zz26_0=>?_
  obtain⟨y,H1,I1,r1,q1⟩:=zz26_0
  refine thn (ho pins s1 σ H1 v y u w _ I1 r r1 q1) fun z s2 zz27_0=>?_
  obtain⟨zv,H2,I2,r2,q2⟩:=zz27_0
  exact fB I2 hN hi hx r2 (fun s3 I3=>⟨_,H2,I3,q2⟩) hf
 rcases l with⟨hk,hm⟩|⟨hk,c,hc,hcell⟩
 ·exact wpAny_loadName_local I.ok.kind hk hn hm go
 ·rcases hk with hk|hk
  ·exact wpAny_loadName_cell I.ok.kind hk hc hcell go
  ·rcases hx with k|k
   ·have:X.env.scope.names.lookup x=some .free:=hk
    rw[k]at this;cases this
   ·have:X.env.scope.names.lookup x=some .free:=hk
    rw[k]at this;cases this
def ipI(f:Int->Int->Int):TIp:=fun x y H Q=>∃i j,x=.int i/\y=.int j/\Q (.int (f i j)) H
theorem CY:PIp X .Add (ipI fun i j=>i+j):=by intro pins s σ H x y v u Q I r1 r2 h;obtain⟨i,j,e1,e2,q⟩:=h;subst e1;subst e2;obtain⟨t,rfl⟩:=r1;obtain⟨t',rfl⟩:=r2;exact iadd_int ⟨.int _,H,I.tok _,⟨_,rfl⟩,q⟩
theorem Br:PIp X .Sub (ipI fun i j=>i-j):=by intro pins s σ H x y v u Q I r1 r2 h;obtain⟨i,j,e1,e2,q⟩:=h;subst e1;subst e2;obtain⟨t,rfl⟩:=r1;obtain⟨t',rfl⟩:=r2;exact isub_int ⟨.int _,H,I.tok _,⟨_,rfl⟩,q⟩
end
section
variable{X:Cx}{pos:Pos}
def BU(c:TT)(tb:TS):TS:=fun D σ H=>∃W:Nat->St->Hp->Prop,(∃m,W m σ H)/\∀m σ H,W m σ H->
 c σ H fun b H1=>if b=true then ∃N:St->Hp->Prop,(∀σ' H',N σ' H'->∃m',m'<m/\W m' σ' H')/\tb { D with nx:=N,ct:=N,bk:=D.nx } σ H1 else D.nx σ H1
theorem vD{c:Expr}{body:List Stmt}{tc:TT}{tb:TS}(hp:PassesOwn (GG X.prog X.w) X.A X.env X.xe)(hc:PT X c tc)(hb:PSs X body tb):PS X (.While c body [] pos) (BU tc tb):=by
 intro pins s σ H D I h;obtain⟨W,⟨m0,w0⟩,turn⟩:=h;refine wpAny_While (codeAny_whileLoop (fun n s'=>∃σ' H',Inv X pins σ' H' s'/\W n σ' H') ?_ m0 ⟨σ,H,I,w0⟩);rintro n s1 ⟨σ1,H1,I1,w1⟩;refine Jh hp (thn (hc pins s1 σ1 H1 _ I1 (turn n σ1 H1 w1)) fun b s2 zz34_0=>?_);obtain⟨H2,I2,q2⟩:=zz34_0;cases b with
 |true=>
  obtain⟨N,hN,q2⟩:=q2
  rw[if_pos rfl]
  refine Jh hp (thn (hb pins s2 σ1 H2 _ I2 q2) fun f s3 q3=>?_)
  cases f with
  |next=>
   obtain⟨σ3,H3,I3,n3⟩:=q3
   obtain⟨m',hm,w3⟩:=hN σ3 H3 n3
   exact⟨m',hm,σ3,H3,I3,w3⟩
  |cont=>
   obtain⟨σ3,H3,I3,n3⟩:=q3
   obtain⟨m',hm,w3⟩:=hN σ3 H3 n3
   exact⟨m',hm,σ3,H3,I3,w3⟩
  |brk=>exact q3
  |ret v=>exact q3
 |false=>
  rw[if_neg GA]
  exact wpAny_execs_nil ⟨σ1,H2,I2,q2⟩
end
structure It where
 go:Nat->Hp->Prop
 yld:Nat->Hp->V->Hp->Prop
 stop:Nat->Hp->Prop
def cC(X:Cx)(pins:List (Addr×Obj))(H:Hp)(b:Addr):Prop:=
 H b=none/\b≠X.env.locals/\b∉X.fs/\(b∈X.ex\/X.s₀.heap.objs.size<=b)/\(∀x c,X.env.cells.lookup x=some c->c≠b)/\∀p∈X.pn++pins,p.1≠b
theorem Inv.oY{X:Cx}{pins:List (Addr×Obj)}{σ:St}{H H':Hp}{s:G6}{b:Addr}(I:Inv X pins σ H s)(hb:s.heap.objs.size<=b)(hn:H' b=none):cC X pins H' b:=by
 refine⟨hn,Nat.ne_of_gt (GP I.lt hb),I.Gd hb,.inr (HF I.sz hb),fun x c e z=>?_,fun p hp z=>?_⟩
 ·obtain⟨v,q⟩:=I.cell x c e;exact absurd (GP q.lt (by rw[z];exact hb)) (Nat.lt_irrefl _)
 ·exact absurd (GP (GC (I.pin p hp).1) (by rw[z];exact hb)) (Nat.lt_irrefl _)
structure Turn(P:GL)(w:Hk)(K:G5)(tg:Expr)(J:It)(fp:List Addr)(it:Addr)(tn:Nat->Heap->Prop):Prop where
 mem:it∈fp
 obj:∀i h,tn i h->∀b∈fp,∃o,h.get? b=some o/\∀v,o.data≠.cell v
 keep:∀i h h',tn i h->(∀b∈fp,∀o,h.get? b=some o->h'.get? b=some o)->tn i h'
 item:∀(X:Cx),X.prog=P->X.w=w->X.K=K->X.calm=true->∀(i:Nat) (pins:List (Addr×Obj)) (s:G6) (σ:St) (H:Hp) (E:G0->G6->Prop),Inv X pins σ H s->(∀b∈fp,cC X pins H b)->tn i s.heap->J.go i H->
  Gw (GG P w) X.A (pyNext (.ref it)) (fun r s1=>∃u,r=some u/\
   Gw (GG P w) X.A (IB tg (.ref it) u) (fun _ s2=>∃x H',Inv X pins σ H' s2/\RelV x u/\J.yld i H x H'/\tn (i+1) s2.heap/\∀b∈fp,H' b=none) E s1) E s
 done:∀(X:Cx),X.prog=P->X.w=w->X.K=K->X.calm=true->∀(i:Nat) (pins:List (Addr×Obj)) (s:G6) (σ:St) (H:Hp) (E:G0->G6->Prop),Inv X pins σ H s->(∀b∈fp,cC X pins H b)->tn i s.heap->J.stop i H->
  Gw (GG P w) X.A (pyNext (.ref it)) (fun r s1=>r=none/\Inv X pins σ H s1) E s
 self:∀(A:Hr) (i:Nat) (s:G6) (Q:G0->G6->Prop) (E:G0->G6->Prop),tn i s.heap->Q (.ref it) s->Gw (GG P w) A (pyIter (.ref it)) Q E s
abbrev TI:=St->Hp->(It->Hp->Prop)->Prop
def PIE(X:Cx)(pins:List (Addr×Obj))(σ:St)(tg:Expr)(R:It->Hp->Prop)(itv:G0)(s2:G6):Prop:=
 ∃(it:Addr) (fp:List Addr) (tn:Nat->Heap->Prop) (J:It) (H':Hp),itv=.ref it/\Inv X pins σ H' s2/\Turn X.prog X.w X.K tg J fp it tn/\tn 0 s2.heap/\(∀b∈fp,cC X pins H' b)/\R J H'
def PI(X:Cx)(tg iter:Expr)(wi:TI):Prop:=
 ∀(pins:List (Addr×Obj)) (s:G6) (σ:St) (H:Hp) (R:It->Hp->Prop),Inv X pins σ H s->wi σ H R->
  Gw (GG X.prog X.w) X.A (eval iter X.env) (fun v s1=>Gw (GG X.prog X.w) X.A (pyIter v) (PIE X pins σ tg R) X.xe s1) X.xe s
theorem vM{M:Model}{A:Hr}{E:G0->G6->Prop}{s:G6}{tg:Expr}{it:Addr}{u:G0}{o:Obj}{n:String}{vs:Array G0}{Q:Unit->G6->Prop}(ho:s.heap.get? it=some o)(hc:o.cls=.type n)(hd:o.data=.fields vs) (hn:["enumerate","zip","dict_itemiterator","dict_reverseitemiterator","odict_iterator","itertools.zip_longest","itertools.pairwise"].contains n=false) (hQ:Q () s):Gw M A (IB tg (.ref it) u) Q E s:=by
 unfold IB
 cases tg<;>first
  |exact G7 hQ
  |(cases u<;>first
   |exact G7 hQ
   |(refine cc (wpAny_load ho ?_)
     rw[hc,hd]
     show Gw M A (if(["enumerate","zip","dict_itemiterator","dict_reverseitemiterator","odict_iterator","itertools.zip_longest","itertools.pairwise"].contains n&&vs[0]?==some (rawInt _))=true then _ else _) Q E s
     rw[if_neg (by intro h;rw[hn,Hd]at h;cases h)]
     exact G7 hQ))
def Itl(K:G5)(a:Addr):It:=
 ⟨fun i H=>∃xs x,SqL K H a xs/\xs[i]?=some x,fun i H x H'=>H'=H/\∀xs,SqL K H a xs->xs[i]?=some x,fun i H=>∃xs,SqL K H a xs/\xs.length<=i⟩
def Itt(K:G5)(a:Addr):It:=
 ⟨fun i H=>∃xs x,SqT K H a xs/\xs[i]?=some x,fun i H x H'=>H'=H/\∀xs,SqT K H a xs->xs[i]?=some x,fun i H=>∃xs,SqT K H a xs/\xs.length<=i⟩
def Itr(lo:Int)(n:Nat):It:=⟨fun i _=>i<n,fun i H x H'=>H'=H/\x=.int (lo+i),fun i _=>n<=i⟩
theorem uE{P:GL}{w:Hk}{K:G5}{tg:Expr}(a it:Addr):Turn P w K tg (Itl K a) [it] it (fun i h=>h.IsListIter it a i) where
 mem:=by simp
 obj:=fun i h st b hb=>by
  have e:b=it:=by simpa using hb
  subst e
  obtain⟨o,e,c,d⟩:=st
  exact⟨o,e,fun v z=>by rw[d]at z;cases z⟩
 keep:=fun i h h' st k=>st.at fun o e=>k it (by simp) o e
 item:=by
  intro X hP hw hK hc i pins s σ H E I hf st hg
  subst hP hw hK
  obtain⟨xs,x,hq,hx⟩:=hg
  obtain⟨its,rv,p,hz⟩:=I.list hq
  obtain⟨u,hu,ru⟩:=rv.get hx
  obtain⟨f0,f1,f2,f3,f4,f5⟩:=hf it (by simp)
  refine wpAny_pyNext_list_item st p.isList (x:=u) (by simpa using hu) fun h' st' sb=>?_
  have I1:Inv X pins σ H { s with heap:=h' }:=I.turned (t':=s.toks) (fun b o hb e=>(sb.2 b hb).trans e) f0 f1 f3 f4 f5
  obtain⟨o,e,c,d⟩:=id st'
  exact⟨u,rfl,vM (s:={ s with heap:=h' }) e c d (by decide) ⟨x,H,I1,ru,⟨rfl,fun ys hy=>by rw[I.ir hy hq];exact hx⟩,st',fun b hb=>(hf b hb).1⟩⟩
 done:=by
  intro X hP hw hK hc i pins s σ H E I hf st hg
  subst hP hw hK
  obtain⟨xs,hq,hx⟩:=hg
  obtain⟨its,rv,p,hz⟩:=I.list hq
  obtain⟨f0,f1,f2,f3,f4,f5⟩:=hf it (by simp)
  have hl:=rv.length
  exact wpAny_pyNext_list_end (I.ok.hd hc) st p.isList (by simp;omega) fun h' eb=>⟨rfl,I.turned (t':=s.toks) (fun b o hb e=>eb b o hb e) f0 f1 f3 f4 f5⟩
 self:=fun _ _ _ _ _ st h=>wpAny_pyIter_listiter st h
theorem rY{P:GL}{w:Hk}{K:G5}{tg:Expr}(a it:Addr):Turn P w K tg (Itt K a) [it] it (fun i h=>h.IsTupleIter it a i) where
 mem:=by simp
 obj:=fun i h st b hb=>by
  have e:b=it:=by simpa using hb
  subst e
  obtain⟨o,e,c,d⟩:=st
  exact⟨o,e,fun v z=>by rw[d]at z;cases z⟩
 keep:=fun i h h' st k=>st.at fun o e=>k it (by simp) o e
 item:=by
  intro X hP hw hK hc i pins s σ H E I hf st hg
  subst hP hw hK
  obtain⟨xs,x,hq,hx⟩:=hg
  obtain⟨its,rv,p,hz⟩:=I.tuple hq
  obtain⟨u,hu,ru⟩:=rv.get hx
  obtain⟨f0,f1,f2,f3,f4,f5⟩:=hf it (by simp)
  refine IP st (show s.heap.IsTuple a its.toArray from p) (x:=u) (by simpa using hu) fun h' st' sb=>?_
  have I1:Inv X pins σ H { s with heap:=h' }:=I.turned (t':=s.toks) (fun b o hb e=>(sb.2 b hb).trans e) f0 f1 f3 f4 f5
  obtain⟨o,e,c,d⟩:=id st'
  exact⟨u,rfl,vM (s:={ s with heap:=h' }) e c d (by decide) ⟨x,H,I1,ru,⟨rfl,fun ys hy=>by rw[I.m4 hy hq];exact hx⟩,st',fun b hb=>(hf b hb).1⟩⟩
 done:=by
  intro X hP hw hK hc i pins s σ H E I hf st hg
  subst hP hw hK
  obtain⟨xs,hq,hx⟩:=hg
  obtain⟨its,rv,p,hz⟩:=I.tuple hq
  obtain⟨f0,f1,f2,f3,f4,f5⟩:=hf it (by simp)
  have hl:=rv.length
  exact wpAny_pyNext_tuple_end (I.ok.hd hc) st (show s.heap.IsTuple a its.toArray from p) (by simp;omega) fun h' eb=>⟨rfl,I.turned (t':=s.toks) (fun b o hb e=>eb b o hb e) f0 f1 f3 f4 f5⟩
 self:=fun _ _ _ _ _ st h=>wpAny_pyIter_tupleiter st h
theorem qo{P:GL}{w:Hk}{K:G5}{tg:Expr}(it:Addr)(lo:Int)(n:Nat):Turn P w K tg (Itr lo n) [it] it (fun i h=>IsRangeIter h it (lo+(i:Nat)*1) ((n:Int)-(i:Nat)) 1) where
 mem:=by simp
 obj:=fun i h st b hb=>by
  have e:b=it:=by simpa using hb
  subst e
  exact⟨_,st,fun v z=>by
   have z':Data.fields _=Data.cell v:=z
   cases z'⟩
 keep:=fun i h h' st k=>k it (by simp) _ st
 item:=by
  intro X hP hw hK hc i pins s σ H E I hf st hg
  subst hP hw hK
  obtain⟨f0,f1,f2,f3,f4,f5⟩:=hf it (by simp)
  have W:=Walks.range (prog:=X.prog) (w:=X.w) (I.ok.hd hc) it lo 1 n
  refine W.item i s _ _ hg st fun v h' tk hv st' kk=>?_
  obtain⟨t,rfl⟩:=hv
  have I1:Inv X pins σ H { s with heap:=h',toks:=tk }:=I.turned (fun b o hb e=>kk b o (by simpa using hb) e) f0 f1 f3 f4 f5
  refine⟨_,rfl,vM (s:={ s with heap:=h',toks:=tk }) (n:="range_iterator") st' rfl rfl (by decide) ⟨.int (lo+i),H,I1,⟨t,?_⟩,⟨rfl,rfl⟩,st',fun b hb=>(hf b hb).1⟩⟩
  rw[Int.mul_one]
 done:=by
  intro X hP hw hK hc i pins s σ H E I hf st hg
  subst hP hw hK
  obtain⟨f0,f1,f2,f3,f4,f5⟩:=hf it (by simp)
  exact wpAny_pyNext_range_end (I.ok.hd hc) st (by have:n<=i:=hg;omega) fun h' eb=>⟨rfl,I.turned (t':=s.toks) (fun b o hb e=>eb b o hb e) f0 f1 f3 f4 f5⟩
 self:=fun _ _ _ _ _ st h=>wpAny_pyIter_rangeiter st h
section
variable{X:Cx}{tg:Expr}
theorem yd{pins:List (Addr×Obj)}{σ:St}{H:Hp}{s:G6}{R:It->Hp->Prop}{E:G0->G6->Prop}{lo hi:Int}{t u v:Tok}{tk:Nat}(I:Inv X pins σ H s)(h1:-(2^62)<=lo)(h2:lo<2^62)(h3:-(2^62)<=hi)(h4:hi<2^62)
 (q:R (Itr lo (hi-lo).toNat) H):Gw (GG X.prog X.w) X.A (pyIter (.ref s.heap.objs.size)) (PIE X pins σ tg R) E { s with heap:=s.heap.push { cls:=.type "range",data:=.fields #[.int lo t,.int hi u,.int 1 v] },toks:=tk }:=by
 refine wpAny_pyIter_range (IsRange.new ..) (small_one h1 h2 h3 h4) ?_
 have I1:Inv X pins σ H { s with heap:=s.heap.push { cls:=.type "range",data:=.fields #[.int lo t,.int hi u,.int 1 v] },toks:=tk }:=I.kept fun b o e=>G9 _ e
 refine⟨(s.heap.push { cls:=.type "range",data:=.fields #[.int lo t,.int hi u,.int 1 v] }).objs.size,[(s.heap.push { cls:=.type "range",data:=.fields #[.int lo t,.int hi u,.int 1 v] }).objs.size],_,_,H,rfl,
  I1.kept (t':=tk) fun b o e=>G9 _ e,qo _ lo (hi-lo).toNat,?_,fun b hb=>?_,q⟩
 ·have e1:lo+((0:Nat):Int)*1=lo:=by simp
  have e2:(((hi-lo).toNat:Nat):Int)-((0:Nat):Int)=Builtin.Range.rangeSize lo hi 1:=by rw[rangeSize_one];split<;>omega
  show IsRangeIter _ _ (lo+((0:Nat):Int)*1) ((((hi-lo).toNat:Nat):Int)-((0:Nat):Int)) 1
  rw[e1,e2]
  exact Gv _ rfl
 ·have e:b=(s.heap.push { cls:=.type "range",data:=.fields #[.int lo t,.int hi u,.int 1 v] }).objs.size:=by simpa using hb
  subst e
  exact I1.oY (Gq _) (I1.hok.fresh (Gq _))
def DH(ta:TA):TI:=fun σ H R=>ta σ H fun vs H1=>∃j:Int,vs=[.int j]/\-(2^62)<=j/\j<2^62/\R (Itr 0 j.toNat) H1
theorem ug{a:Expr}{ta:TA}{p pos:Pos}(hg:Gl X "range")(hm:X.mg "range"=none)(ha:PA X [a] ta)(hs:GH [a] X.env=[(false,eval a X.env)]:=by rfl):PI X tg (.Call (.Name "range" p) [a] [] pos) (DH ta):=by
 intro pins s σ H R I h;refine Call_ (jc I hg hm boot_range (IY (thn (ha pos pins s σ H _ I h) fun us s1 zz37_0=>?_) hs rfl));obtain⟨vs,H1,I1,r1,q1⟩:=zz37_0;obtain⟨j,e,q1,q2,q⟩:=q1;subst e;cases r1 with
 |cons r rr=>
  cases rr
  obtain⟨t,rfl⟩:=r
  exact call_range_1 (yd I1 (by omega) (by omega) q1 q2 (by simpa using q))
def FF(wi:TI)(g:TG)(tb:TS):TS:=fun D σ H=>wi σ H fun J H1=>∃W:Nat->Nat->St->Hp->Prop,(∃m,W 0 m σ H1)/\∀i m σ H,W i m σ H->
 (J.stop i H/\D.nx σ H)\/(J.go i H/\∃N:St->Hp->Prop,(∀σ' H',N σ' H'->∃m',m'<m/\W (i+1) m' σ' H')/\∀x H',J.yld i H x H'->g x σ H' fun σ2 H2=>tb { D with nx:=N,ct:=N,bk:=D.nx } σ2 H2)
def fQ(fp:List Addr)(h:Heap):List (Addr×Obj):=fp.filterMap fun b=>(h.get? b).map fun o=>(b,o)
theorem bD{fp:List Addr}{h:Heap}{b:Addr}{o:Obj}(hb:b∈fp)(e:h.get? b=some o):(b,o)∈fQ fp h:=List.mem_filterMap.mpr ⟨b,hb,by rw[e];rfl⟩
theorem uA{fp:List Addr}{h:Heap}{p:Addr×Obj}(hp:p∈fQ fp h):p.1∈fp/\h.get? p.1=some p.2:=by
 obtain⟨b,hb,e⟩:=List.mem_filterMap.mp hp;cases q:h.get? b with
 |none=>rw[q]at e;cases e
 |some o=>
  rw[q]at e
  have e':(b,o)=p:=Option.some.inj e
  subst e'
  exact⟨hb,q⟩
theorem Inv.pinned{pins:List (Addr×Obj)}{σ:St}{H:Hp}{s:G6}{fp:List Addr}(I:Inv X pins σ H s)(hf:∀b∈fp,cC X pins H b)(ho:∀b∈fp,∃o,s.heap.get? b=some o/\∀v,o.data≠.cell v):Inv X (pins++fQ fp s.heap) σ H s:=
 I.sZ fun p hp=>(GY.mp hp).elim (fun z=>I.pin p (GI _ z)) fun z=>by
  obtain⟨hb,e⟩:=uA z
  obtain⟨f0,f1,f2,_⟩:=hf p.1 hb
  obtain⟨o,e',d⟩:=ho p.1 hb
  rw[e]at e';cases e'
  exact⟨e,f0,f1,f2,d⟩
theorem Inv.dN{pins pl:List (Addr×Obj)}{σ:St}{H:Hp}{s:G6}(I:Inv X (pins++pl) σ H s):Inv X pins σ H s:=I.sZ fun p hp=>I.pin p (GI _ (List.mem_append_left _ hp))
theorem vT{iter:Expr}{body:List Stmt}{wi:TI}{g:TG}{tb:TS}{pos:Pos}(hp:PassesOwn (GG X.prog X.w) X.A X.env X.xe)(hc:X.calm=true)(hi:PI X tg iter wi)(hg:PG X tg g)(hb:PSs X body tb)
 (hs:∀x,Hb iter X.env x=pure x:=by intro _;rfl):PS X (.For tg iter body [] pos) (FF wi g tb):=by
 intro pins s σ H D I h
 refine wpAny_For (thn (hi pins s σ H _ I h) fun v s1 h1=>thn h1 fun itv s2 h2=>?_) hs
 obtain⟨it,fp,tn,J,H2,e,I2,T,st2,f2,W,⟨m0,w0⟩,turn⟩:=h2
 subst e
 have stat:∀{H':Hp},(∀b∈fp,H' b=none)->∀b∈fp,cC X pins H' b:=fun hn b hb=>⟨hn b hb,(f2 b hb).2⟩
 refine codeAny_forLoop_any (fun n s'=>∃i σ' H',Inv X pins σ' H' s'/\tn i s'.heap/\(∀b∈fp,H' b=none)/\W i n σ' H') ?_ m0 ⟨0,σ,H2,I2,st2,fun b hb=>(f2 b hb).1,w0⟩
 rintro n s3 ⟨i,σ3,H3,I3,st3,fr3,w3⟩
 rcases turn i n σ3 H3 w3 with⟨stop,qn⟩|⟨go,N,hN,step⟩
 ·refine Jh hp (thn (T.done X rfl rfl rfl hc i pins s3 σ3 H3 X.xe I3 (stat fr3) st3 stop) fun r s4 zz38_0=>?_)
  obtain⟨hr,I4⟩:=zz38_0
  subst hr
  exact wpAny_execs_nil ⟨σ3,H3,I4,qn⟩
 ·refine Jh hp (thn (T.item X rfl rfl rfl hc i pins s3 σ3 H3 X.xe I3 (stat fr3) st3 go) fun r s4 zz39_0=>?_)
  obtain⟨u,hr,h4⟩:=zz39_0
  subst hr
  refine Jh hp (thn h4 fun _ s5 zz40_0=>?_)
  obtain⟨x,H5,I5,r5,y5,st5,fr5⟩:=zz40_0
  have I5':=I5.pinned (stat fr5) (T.obj _ _ st5)
  refine Jh hp (thn (hg _ s5 σ3 H5 x u _ I5' r5 (step x H5 y5)) fun _ s6 zz41_0=>?_)
  obtain⟨σ6,H6,I6,q6⟩:=zz41_0
  refine Jh hp (thn (hb _ s6 σ6 H6 _ I6 q6) fun f s7 q7=>?_)
  have again:∀{σ7:St} {H7:Hp},Inv X (pins++fQ fp s5.heap) σ7 H7 s7->N σ7 H7->∃m,m<n/\∃i σ' H',Inv X pins σ' H' s7/\tn i s7.heap/\(∀b∈fp,H' b=none)/\W i m σ' H':=fun{σ7 H7} I7 n7=>by
   obtain⟨m',hm,w7⟩:=hN σ7 H7 n7
   refine⟨m',hm,i+1,σ7,H7,I7.dN,T.keep _ _ _ st5 fun b hb o e=>(I7.pin (b,o) (GI _ (GI _ (bD hb e)))).1,fun b hb=>?_,w7⟩
   obtain⟨o,e,d⟩:=T.obj _ _ st5 b hb
   exact(I7.pin (b,o) (GI _ (GI _ (bD hb e)))).2.1
  cases f with
  |next=>obtain⟨σ7,H7,I7,n7⟩:=q7;exact again I7 n7
  |cont=>obtain⟨σ7,H7,I7,n7⟩:=q7;exact again I7 n7
  |brk=>obtain⟨σ7,H7,I7,q7⟩:=q7;exact⟨σ7,H7,I7.dN,q7⟩
  |ret v=>obtain⟨x7,σ7,H7,I7,r7,q7⟩:=q7;exact⟨x7,σ7,H7,I7.dN,r7,q7⟩
end
theorem uY{lo:Int}{n:Nat}{g:TG}{tb:TS}{D:Ends}{σ:St}{H:Hp}(Pv:Nat->St->Hp->Prop)(h0:Pv 0 σ H)
 (hs:∀i σ H,i<n->Pv i σ H->g (.int (lo+i)) σ H fun σ2 H2=>tb { D with nx:=Pv (i+1),ct:=Pv (i+1),bk:=D.nx } σ2 H2) (hd:∀σ H,Pv n σ H->D.nx σ H) :
 ∃W:Nat->Nat->St->Hp->Prop,(∃m,W 0 m σ H)/\∀i m σ H,W i m σ H->
  ((Itr lo n).stop i H/\D.nx σ H)\/((Itr lo n).go i H/\∃N:St->Hp->Prop,(∀σ' H',N σ' H'->∃m',m'<m/\W (i+1) m' σ' H')/\∀x H',(Itr lo n).yld i H x H'->g x σ H' fun σ2 H2=>tb { D with nx:=N,ct:=N,bk:=D.nx } σ2 H2):=by
 refine⟨fun i m σ H=>m=n-i/\i<=n/\Pv i σ H,⟨n,by simp,HR _,h0⟩,?_⟩
 rintro i m σ H ⟨rfl,hi,p⟩
 by_cases hlt:i<n
 ·refine .inr ⟨hlt,Pv (i+1),fun σ' H' p'=>⟨n-(i+1),by omega,rfl,hlt,p'⟩,fun x H' y=>?_⟩
  obtain⟨e,y⟩:=y
  subst e y
  exact hs i σ _ hlt p
 ·have e:i=n:=by omega
  subst e
  exact .inl ⟨Gq _,hd σ H p⟩
abbrev R2:=V->V->Hp->VK->Prop
def OpR(X:Cx)(f:G0->G0->Sem G0)(r:R2):Prop:=
 ∀(pins:List (Addr×Obj)) (s:G6) (σ:St) (H:Hp) (x y:V) (v u:G0) (Q:VK),Inv X pins σ H s->RelV x v->RelV y u->r x y H Q->
  Gw (GG X.prog X.w) X.A (f v u) (EP X pins σ Q) X.xe s
def UnR(X:Cx)(f:G0->Sem G0)(r:V->Hp->VK->Prop):Prop:=
 ∀(pins:List (Addr×Obj)) (s:G6) (σ:St) (H:Hp) (x:V) (v:G0) (Q:VK),Inv X pins σ H s->RelV x v->r x H Q->
  Gw (GG X.prog X.w) X.A (f v) (EP X pins σ Q) X.xe s
def cu(X:Cx)(f:G0)(r:List V->Hp->VK->Prop):Prop:=
 ∀(pins:List (Addr×Obj)) (s:G6) (σ:St) (H:Hp) (xs:List V) (us:List G0) (Q:VK),Inv X pins σ H s->Vals xs us->r xs H Q->
  Gw (GG X.prog X.w) X.A (call f us) (EP X pins σ Q) X.xe s
def Ga(X:Cx)(r:V->Hp->(Bool->Hp->Prop)->Prop):Prop:=
 ∀(pins:List (Addr×Obj)) (s:G6) (σ:St) (H:Hp) (x:V) (v:G0) (Q:Bool->Hp->Prop),Inv X pins σ H s->RelV x v->r x H Q->
  Gw (GG X.prog X.w) X.A (truthy v) (TP X pins σ Q) X.xe s
def tOp(r:R2)(ta tb:TE):TE:=fun σ H Q=>ta σ H fun x H1=>tb σ H1 fun y H2=>r x y H2 Q
def tUn(r:V->Hp->VK->Prop)(ta:TE):TE:=fun σ H Q=>ta σ H fun x H1=>r x H1 Q
def rI(C:Int->Int->Prop)(g:Int->Int->V):R2:=fun x y H Q=>∃i j,x=.int i/\y=.int j/\C i j/\Q (g i j) H
def rI0(g:Int->Int->V):R2:=fun x y H Q=>∃i j,x=.int i/\y=.int j/\Q (g i j) H
def rU(g:Int->V):V->Hp->VK->Prop:=fun x H Q=>∃i,x=.int i/\Q (g i) H
section
variable{X:Cx}{a b c:Expr}{ta tb tc:TE}{pos:Pos}
theorem BN(ha:PE X a ta)(hb:PE X b tb){pins:List (Addr×Obj)}{s:G6}{σ:St}{H:Hp}{R:V->V->Hp->Prop}(I:Inv X pins σ H s) (h:ta σ H fun x H1=>tb σ H1 fun y H2=>R x y H2) {Q:G0->G6->Prop} {f:G0->G0->Sem G0} (hf:∀v u s2 x y H2,Inv X pins σ H2 s2->RelV x v->RelV y u->R x y H2->Gw (GG X.prog X.w) X.A (f v u) Q X.xe s2) : Gw (GG X.prog X.w) X.A (eval a X.env) (fun v s₁=>Gw (GG X.prog X.w) X.A (eval b X.env) (fun u s₂=>Gw (GG X.prog X.w) X.A (f v u) Q X.xe s₂) X.xe s₁) X.xe s:=by refine thn (ha pins s σ H _ I h) fun v s1 zz43_0=>?_;obtain⟨x,H1,I1,r1,q1⟩:=zz43_0;refine thn (hb pins s1 σ H1 _ I1 q1) fun u s2 zz44_0=>?_;obtain⟨y,H2,I2,r2,q2⟩:=zz44_0;exact hf v u s2 x y H2 I2 r1 r2 q2
theorem D4{op:Operator}{r:R2}(ho:OpR X (IF op) r)(ha:PE X a ta)(hb:PE X b tb):PE X (.BinOp a op b pos) (tOp r ta tb):=by intro pins s σ H Q I h;exact wpAny_BinOp (BN ha hb I h fun v u s2 x y H2 I2 rx ry q=>ho pins s2 σ H2 x y v u Q I2 rx ry q)
theorem Fp{op:UnaryOp}{r:V->Hp->VK->Prop}(ho:UnR X (unaryOp op) r)(ha:PE X a ta):PE X (.UnaryOp op a pos) (tUn r ta):=by intro pins s σ H Q I h;exact UnaryOp_ (thn (ha pins s σ H _ I h) fun v s1 zz45_0=>by obtain⟨x,H1,I1,r1,q1⟩:=zz45_0;exact(ho pins s1 σ H1 x v Q I1 r1 q1))
theorem opI{f:G0->G0->Sem G0}{C:Int->Int->Prop}{g:Int->Int->Int} (rule:∀(i j:Int) (t u:Tok) (s:G6) (Q:G0->G6->Prop) (E:G0->G6->Prop),C i j->Q (.int (g i j) s.toks) { s with toks:=s.toks+1 }->Gw (GG X.prog X.w) X.A (f (.int i t) (.int j u)) Q E s) : OpR X f (rI C fun i j=>.int (g i j)):=by intro pins s σ H x y v u Q I rx ry h;obtain⟨i,j,rfl,rfl,hc,q⟩:=h;obtain⟨t,rfl⟩:=rx;obtain⟨t',rfl⟩:=ry;exact rule i j t t' s _ _ hc ⟨.int (g i j),H,I.tok _,⟨_,rfl⟩,q⟩
theorem Dq{f:G0->G0->Sem G0}{g:Int->Int->Int} (rule:∀(i j:Int) (t u:Tok) (s:G6) (Q:G0->G6->Prop) (E:G0->G6->Prop),Q (.int (g i j) s.toks) { s with toks:=s.toks+1 }->Gw (GG X.prog X.w) X.A (f (.int i t) (.int j u)) Q E s) : OpR X f (rI0 fun i j=>.int (g i j)):=by intro pins s σ H x y v u Q I rx ry h;obtain⟨i,j,rfl,rfl,q⟩:=h;obtain⟨t,rfl⟩:=rx;obtain⟨t',rfl⟩:=ry;exact rule i j t t' s _ _ ⟨.int (g i j),H,I.tok _,⟨_,rfl⟩,q⟩
theorem zY{f:G0->G0->Sem G0}{g:Int->Int->Bool} (rule:∀(i j:Int) (t u:Tok) (s:G6) (Q:G0->G6->Prop) (E:G0->G6->Prop),Q (.bool (g i j)) s->Gw (GG X.prog X.w) X.A (f (.int i t) (.int j u)) Q E s) : OpR X f (rI0 fun i j=>.bl (g i j)):=by intro pins s σ H x y v u Q I rx ry h;obtain⟨i,j,rfl,rfl,q⟩:=h;obtain⟨t,rfl⟩:=rx;obtain⟨t',rfl⟩:=ry;exact rule i j t t' s _ _ ⟨.bl (g i j),H,I,rfl,q⟩
def Fb(i j:Int):Prop:=0<=j/\j<=1000000/\i.natAbs<2^64
theorem Cp:OpR X (IF .Add) (rI0 fun i j=>.int (i+j)):=Dq fun _ _ _ _ _ _ _ q=>add_int q
theorem Cq:OpR X (IF .Sub) (rI0 fun i j=>.int (i-j)):=Dq fun _ _ _ _ _ _ _ q=>sub_int q
theorem yS:OpR X (IF .Mod) (rI (fun _ j=>j≠0) fun i j=>.int (i.fmod j)):=opI fun _ _ _ _ _ _ _ hc q=>mod_int' hc q
theorem CO:OpR X (IF .Pow) (rI Fb fun i j=>.int (i^j.toNat)):=opI fun _ _ _ _ _ _ _ hc q=>pow_int_small hc.1 hc.2.1 hc.2.2 q
theorem Df:OpR X (IF .BitXor) (rI0 fun i j=>.int (Builtin.bitXor i j)):=Dq fun _ _ _ _ _ _ _ q=>xor_int q
theorem unI{f:G0->Sem G0}{g:Int->Int} (rule:∀(i:Int) (t:Tok) (s:G6) (Q:G0->G6->Prop) (E:G0->G6->Prop),Q (.int (g i) s.toks) { s with toks:=s.toks+1 }->Gw (GG X.prog X.w) X.A (f (.int i t)) Q E s) : UnR X f (rU fun i=>.int (g i)):=by intro pins s σ H x v Q I rx h;obtain⟨i,rfl,q⟩:=h;obtain⟨t,rfl⟩:=rx;exact rule i t s _ _ ⟨.int (g i),H,I.tok _,⟨_,rfl⟩,q⟩
theorem C4:UnR X (unaryOp .USub) (rU fun i=>.int (-i)):=unI fun _ _ _ _ _ q=>neg_int q
end
section
variable{X:Cx}{a b c:Expr}{ta tb tc:TE}{pos:Pos}
theorem EB:OpR X (Hc .Lt) (rI0 fun i j=>.bl (decide (i<j))):=zY fun _ _ _ _ _ _ _ q=>lt_int q
theorem EZ:OpR X (Hc .LtE) (rI0 fun i j=>.bl (decide (i<=j))):=zY fun _ _ _ _ _ _ _ q=>le_int q
theorem E8:OpR X (Hc .Gt) (rI0 fun i j=>.bl (decide (j<i))):=zY fun _ _ _ _ _ _ _ q=>gt_int q
theorem DR:OpR X (Hc .GtE) (rI0 fun i j=>.bl (decide (j<=i))):=zY fun _ _ _ _ _ _ _ q=>ge_int q
theorem OpR.or{f:G0->G0->Sem G0}{r r':R2}(h:OpR X f r)(h':OpR X f r'):OpR X f (fun x y H Q=>r x y H Q\/r' x y H Q):=by
 intro pins s σ H x y v u Q I rx ry q;rcases q with q|q
 ·exact h pins s σ H x y v u Q I rx ry q
 ·exact h' pins s σ H x y v u Q I rx ry q
theorem wg(b:Expr){op:CmpOp}(h:op≠.In:=by decide)(h2:op≠.NotIn:=by decide):Jt op b=false:=by
 have e1:(op==CmpOp.In)=false:=by cases op<;>first|rfl|exact absurd rfl h
 have e2:(op==CmpOp.NotIn)=false:=by cases op<;>first|rfl|exact absurd rfl h2
 cases b<;>simp[Jt,e1,e2]
theorem zH{op:CmpOp}{r:R2}(ho:OpR X (Hc op) r)(ha:PE X a ta)(hb:PE X b tb)(hm:Jt op b=false):PE X (.Compare a [op] [b] pos) (tOp r ta tb):=by intro pins s σ H Q I h;exact wpAny_Compare1 (BN ha hb I h fun v u s2 x y H2 I2 rx ry q=>ho pins s2 σ H2 x y v u Q I2 rx ry q) hm
def AB(t:TE):TT:=fun σ H Q=>t σ H fun x H'=>∃k,x=.bl k/\Q k H'
theorem yA{op:CmpOp}{r:R2}(ho:OpR X (Hc op) r)(ha:PE X a ta)(hb:PE X b tb)(hm:Jt op b=false):PT X (.Compare a [op] [b] pos) (AB (tOp r ta tb)):=by intro pins s σ H Q I h;refine wpAny_isTrue_Compare1 (thn (ha pins s σ H _ I h) fun v s1 ⟨x,H1,I1,r1,q1⟩=>thn (hb pins s1 σ H1 _ I1 q1) fun u s2 ⟨y,H2,I2,r2,q2⟩=>thn (ho pins s2 σ H2 x y v u _ I2 r1 r2 q2) fun c s3 ⟨z,H3,I3,r3,k,e,q3⟩=>?_) hm;subst e;cases r3;exact HN ⟨H3,I3,q3⟩
def Dr(r r':R2)(ta tb tc:TE):TE:=fun σ H Q=>ta σ H fun x H1=>tb σ H1 fun y H2=>r x y H2 fun z H3=>∃k,z=.bl k/\
 (if k=true then tc σ H3 fun w' H4=>r' y w' H4 Q else Q (.bl false) H3)
theorem wt{op op':CmpOp}{r r':R2}(ho:OpR X (Hc op) r)(ho':OpR X (Hc op') r')(ha:PE X a ta)(hb:PE X b tb)(hc:PE X c tc) (hm:lastMarks [op,op'] [b,c]=false:=by with_unfolding_all rfl):PE X (.Compare a [op,op'] [b,c] pos) (Dr r r' ta tb tc):=by
 intro pins s σ H Q I h;refine Compare_chain (thn (ha pins s σ H _ I h) fun v s1 ⟨x,H1,I1,r1,q1⟩=>chain_link (thn (hb pins s1 σ H1 _ I1 q1) fun u s2 ⟨y,H2,I2,r2,q2⟩=>thn (ho pins s2 σ H2 x y v u _ I2 r1 r2 q2) fun d s3 ⟨z,H3,I3,r3,k,e,q3⟩=>?_)) hm;subst e;cases r3;refine HN ?_;cases k with
 |false=>exact ite_ff ⟨.bl false,H3,I3,rfl,q3⟩
 |true=>exact ite_tt (chain_last (thn (hc pins s3 σ H3 _ I3 q3) fun w' s4 zz46_0=>by obtain⟨z',H4,I4,r4,q4⟩:=zz46_0;exact(ho' pins s4 σ H4 y z' u w' Q I4 r2 r4 q4)))
def Ed(K:G5)(x:V)(H:Hp)(k:Bool):Prop:=
 match x with
 |.non=>k=false
 |.bl b=>k=b
 |.int i=>k=(i != 0)
 |.str y=>y.length<=GD/\k=((y.length:Int) != 0)
 |.byt y=>y.size<=GD/\k=((y.size:Int) != 0)
 |.ref p=>(∃xs,SqL K H p xs/\k=!xs.isEmpty)\/(∃xs,SqT K H p xs/\k=!xs.isEmpty)\/∃kvs,H p=some (.dK kvs)/\k=!kvs.isEmpty
 |_=>False
theorem rq{κ:Type}{kvs:List (κ×V)}{vs:List (κ×G0)}(r:KV kvs vs):(!vs.isEmpty)=!kvs.isEmpty:=by cases r<;>rfl
theorem kX{xs:List V}{its:List G0}(r:Vals xs its):(!its.toArray.isEmpty)=!xs.isEmpty:=by cases r<;>simp
theorem iY:(GD:Nat)<2^63:=by rw[sizeLine_eq];decide
theorem BX:Ga X (fun x H Q=>∃k,Ed X.K x H k/\Q k H):=by
 intro pins s σ H x v Q I rx h;obtain⟨k,e,q⟩:=h;have hl:=iY;have hs:GD=16777216:=sizeLine_eq;cases x with
 |non=>
  cases rx
  have e':k=false:=e
  subst e'
  exact truthy_none ⟨H,I,q⟩
 |bl b=>
  cases rx
  have e':k=b:=e
  subst e'
  exact HN ⟨H,I,q⟩
 |int i=>
  obtain⟨t,rfl⟩:=rx
  have e':k=(i != 0):=e
  subst e'
  exact PySem.P.truthy_int ⟨H,I,q⟩
 |str y=>
  obtain⟨t,rfl⟩:=rx
  obtain⟨hy,e'⟩:y.length<=GD/\k=((y.length:Int) != 0):=e
  subst e'
  exact PySem.P.truthy_str (by omega) ⟨H,I.tok _,q⟩
 |byt y=>
  obtain⟨t,rfl⟩:=rx
  obtain⟨hy,e'⟩:y.size<=GD/\k=((y.size:Int) != 0):=e
  subst e'
  exact PySem.W.truthy_bytes (by omega) ⟨H,I.tok _,q⟩
 |ref p=>
  cases rx
  have e':(∃xs,SqL X.K H p xs/\k=!xs.isEmpty)\/(∃xs,SqT X.K H p xs/\k=!xs.isEmpty)\/∃kvs,H p=some (.dK kvs)/\k=!kvs.isEmpty:=e
  rcases e' with⟨xs,hx,e'⟩|⟨xs,hx,e'⟩|⟨kvs,hx,e'⟩
  ·subst e';obtain⟨its,r,pl,hz⟩:=I.list hx;have hlen:=r.length;exact wpAny_truthy_list pl.isList (by simp only[GJ];omega) ⟨H,I.tok _,by rw[kX r];exact q⟩
  ·subst e';obtain⟨its,r,pl,hz⟩:=I.tuple hx;have hlen:=r.length;exact truthy_tuple pl (by simp only[GJ];omega) ⟨H,I.tok _,by rw[kX r];exact q⟩
  ·subst e';obtain⟨hz,hS,vs,r,m⟩:kvs.length<=GD/\(p==Iq)=false/\∃vs,KV kvs vs/\s.heap.DictOf (bQ X.prog X.w) p vs:=I.hok p _ hx;have hlen:kvs.length=vs.length:=Paired.length r;exact wpAny_truthy_dict hS m (by omega) ⟨H,I.tok _,by rw[rq r];exact q⟩
 |_=>exact(show False from e).elim
theorem wV(ha:PE X a ta)(he:∀whole,isTrue a X.env whole=(do let v <-whole;standAt a.pos;holding [v] (truthy v))) :
 PT X a (fun σ H Q=>ta σ H fun x H'=>∃k,Ed X.K x H' k/\Q k H'):=by
 intro pins s σ H Q I h
 exact isTrue_plain (thn (ha pins s σ H _ I h) fun v s1 zz48_0=>by obtain⟨x,H1,I1,r1,q1⟩:=zz48_0;exact(BX pins s1 σ H1 x v Q I1 r1 q1)) (he _)
theorem vals1{x:V}{us:List G0}(r:Vals [x] us):∃u,us=[u]/\RelV x u:=by
 cases r with
 |cons r1 r2=>cases r2;exact⟨_,rfl,r1⟩
theorem vals2{x y:V}{us:List G0}(r:Vals [x,y] us):∃u w',us=[u,w']/\RelV x u/\RelV y w':=by
 cases r with
 |cons r1 r2=>
  cases r2 with
  |cons r3 r4=>cases r4;exact⟨_,_,rfl,r1,r3⟩
theorem wU:cu X (.builtin "abs") (fun xs H Q=>∃i,xs=[.int i]/\Q (.int (if i<0 then -i else i)) H):=by intro pins s σ H xs us Q I r h;obtain⟨i,rfl,q⟩:=h;obtain⟨u,rfl,t,rfl⟩:=vals1 r;exact call_abs_int fun u tk=>⟨.int (if i<0 then -i else i),H,I.tok _,⟨_,rfl⟩,q⟩
theorem uK(hc:X.calm=true):cu X (.builtin "max") (fun xs H Q=>∃i j,xs=[.int i,.int j]/\Q (.int (if j>i then j else i)) H):=by
 intro pins s σ H xs us Q I r h;obtain⟨i,j,rfl,q⟩:=h;obtain⟨u,w',rfl,⟨t,rfl⟩,⟨t',rfl⟩⟩:=vals2 r;refine max_two_ints (I.ok.hd hc) fun h' tk k=>⟨_,H,I.kept k,?_,q⟩;by_cases hj:j>i
 ·rw[if_pos hj,if_pos hj];exact⟨_,rfl⟩
 ·rw[if_neg hj,if_neg hj];exact⟨_,rfl⟩
theorem uU(hc:X.calm=true):cu X (.builtin "min") (fun xs H Q=>∃i j,xs=[.int i,.int j]/\Q (.int (if j<i then j else i)) H):=by
 intro pins s σ H xs us Q I r h;obtain⟨i,j,rfl,q⟩:=h;obtain⟨u,w',rfl,⟨t,rfl⟩,⟨t',rfl⟩⟩:=vals2 r;refine min_two_ints (I.ok.hd hc) fun h' tk k=>⟨_,H,I.kept k,?_,q⟩;by_cases hj:j<i
 ·rw[if_pos hj,if_pos hj];exact⟨_,rfl⟩
 ·rw[if_neg hj,if_neg hj];exact⟨_,rfl⟩
theorem uO:cu X (.type "int") (fun xs H Q=>(∃i,xs=[.int i]/\Q (.int i) H)\/∃k,xs=[.bl k]/\Q (.int (if k then 1 else 0)) H):=by
 intro pins s σ H xs us Q I r h;rcases h with⟨i,rfl,q⟩|⟨k,rfl,q⟩
 ·obtain⟨u,rfl,t,rfl⟩:=vals1 r;exact call_int_int ⟨.int i,H,I,⟨_,rfl⟩,q⟩
 ·obtain⟨u,rfl,r1⟩:=vals1 r;cases r1;exact call_int_bool ⟨.int (if k then 1 else 0),H,I.tok _,⟨_,rfl⟩,q⟩
end
structure Room(k:Nat)(A:Hr):Prop where
 hd:A.handled=none
 dp:A.depth+3*k+5<recursionLimit
 un:A.units+16*k+200<HG
 gd:A.guards=some []
theorem Room.mono{j k:Nat}{A:Hr}(r:Room k A)(h:j<=k):Room j A:=⟨r.hd,by have:=r.dp;omega,by have:=r.un;omega,r.gd⟩
theorem Room.deeper{k:Nat}{A:Hr}(r:Room (k+1) A)(env:Env):Room k (A.deeper env):=⟨r.hd,by have:=r.dp;show A.depth+1+3*k+5<_;omega,by have:=r.un;show A.units+3+16*k+200<_;omega,r.gd⟩
theorem Room.depth{k:Nat}{A:Hr}(r:Room k A):A.depth<recursionLimit:=by have:=r.dp;omega
theorem Room.units{k:Nat}{A:Hr}(r:Room k A):A.units+64<HG:=by have:=r.un;omega
def F6:TA:=fun _ H Q=>Q [] H
def Ej(ta:TE)(tr:TA):TA:=fun σ H Q=>ta σ H fun x H1=>tr σ H1 fun xs H2=>Q (x::xs) H2
section
variable{X:Cx}{e:Expr}{es:List Expr}{te:TE}{t:TA}{pos:Pos}
theorem A8:PA X [] F6:=fun _ _ _ _ H Q I h=>Calls.spliced_nil ⟨[],H,I,.nil,h⟩
theorem zq(ha:PE X e te)(hr:PA X es t)(hs:GH (e::es) X.env=(false,eval e X.env)::GH es X.env:=by rfl):PA X (e::es) (Ej te t):=by intro pos pins s σ H Q I h;rw[hs];show Gw _ _ (spliced ((false,eval e X.env)::Ij pos (GH es X.env))) _ _ s;refine Calls.spliced_cons (thn (ha pins s σ H _ I h) fun u s1 zz55_0=>?_);obtain⟨x,H1,I1,r1,q1⟩:=zz55_0;exact thn (hr pos pins s1 σ H1 _ I1 q1) fun us s2 zz56_0=>by obtain⟨xs,H2,I2,r2,q2⟩:=zz56_0;exact(⟨x::xs,H2,I2,.cons r1 r2,q2⟩)
def FY(t:TA):TE:=fun σ H Q=>t σ H fun xs H1=>xs.length<=GD/\∀p,H1 p=none->Q (.ref p) (upd H1 p (.tup xs))
def Gf(t:TA):TE:=fun σ H Q=>t σ H fun xs H1=>xs.length<=GD/\∀p,H1 p=none->Q (.ref p) (upd H1 p (.lst xs))
theorem Ba{x1}(h:PA X es t):PE X (.Tuple es x1 pos) (FY t):=by intro pins s σ H Q I hq;refine wpAny_Tuple_spliced (thn (h pos pins s σ H _ I hq) fun us s1 ⟨xs,H1,I1,r,z,q⟩=>⟨by rw[<-r.length];exact z,?_⟩);have hf:H1 s1.heap.objs.size=none:=I1.hok.fresh (Gq _);refine⟨.ref s1.heap.objs.size,upd H1 s1.heap.objs.size (.tup xs),I1.laid (t':=s1.toks) (fun b u e=>G9 _ e) (Gq _) ?_,rfl,q _ hf⟩;exact⟨z,us,r,⟨_,Gv _ rfl,rfl,_,rfl⟩,⟨_,Gv _ rfl,rfl⟩⟩
theorem CV(h:PA X es t):PE X (.List es pos) (Gf t):=by intro pins s σ H Q I hq;refine wpAny_List_spliced (thn (h pos pins s σ H _ I hq) fun us s1 ⟨xs,H1,I1,r,z,q⟩=>⟨by rw[<-r.length];exact z,?_⟩);have hf:H1 s1.heap.objs.size=none:=I1.hok.fresh (Gq _);refine⟨.ref s1.heap.objs.size,upd H1 s1.heap.objs.size (.lst xs),I1.laid (t':=s1.toks) (fun b u e=>G9 _ e) (Gq _) ?_,rfl,q _ hf⟩;exact⟨z,us,0,r,Gv _ rfl⟩
end
abbrev Sp:=List V->Hp->VK->XK->Prop
abbrev CXT:=List Env->Hp->G6->XK->G0->G6->Prop
structure Env0(P:GL)(w:Hk)(K:G5)(mg:Str->Option G0)(base:Heap)(A:Hr)(outer:List Env)(s:G6)(H:Hp):Prop where
 frames:A.frames=some outer
 mod:Mod K mg base
 bs:∀b o,base.get? b=some o->s.heap.get? b=some o/\H b=none
 bsz:base.objs.size<=s.heap.objs.size
 lK:s.heap.FunFrames base outer
 frf:∀b∈frs outer,H b=none
 hok:HOk P w H s.heap
 bare:AllBare s.gens
def CE(outer:List Env)(P:GL)(w:Hk)(H:Hp)(s:G6)(Q:VK)(u:G0)(s':G6):Prop:=
 ∃v H',s'.os=s.os/\AllBare s'.gens/\Un (frs outer) [] H H' s.heap s'.heap/\HOk P w H' s'.heap/\RelV v u/\Q v H'
def CR(CX:CXT)(outer:List Env)(P:GL)(w:Hk)(H:Hp)(s:G6)(Q:VK)(E:XK)(r:Result)(s':G6):Prop:=
 match r with
 |.ok (.ret u)=>CE outer P w H s Q u s'
 |.ok _=>False
 |.error e=>CX outer H s E e s'
structure FnOk(P:GL)(w:Hk)(K:G5)(mg:Str->Option G0)(base:Heap)(CX:CXT)(k:Nat)(f:Addr)(fd:JE)(ps:List Str)(sp:Sp):Prop where
 len:∀vs H Q E,sp vs H Q E->vs.length=ps.length
 run:∀(A:Hr) (outer:List Env) (s:G6) (H:Hp) (args:Args) (us:List G0) (vs:List V) (Q:VK) (E:XK),Room k A->Env0 P w K mg base A outer s H->BindsTo s fd args (ps.zip us)->Vals vs us->sp vs H Q E->
  IQ (GG P w) A (.call (.ref f) args) (CR CX outer P w H s Q E) s
theorem FnOk.mono{P:GL}{w:Hk}{K:G5}{mg:Str->Option G0}{base:Heap}{CX:CXT}{j k:Nat}{f:Addr}{fd:JE}{ps:List Str}{sp:Sp}(F:FnOk P w K mg base CX j f fd ps sp)(h:j<=k) : FnOk P w K mg base CX k f fd ps sp:=⟨F.len,fun A outer s H args us vs Q E hr=>F.run A outer s H args us vs Q E (hr.mono h)⟩
section
variable{X:Cx}{pins:List (Addr×Obj)}{σ:St}{H:Hp}{s s':G6}
theorem Inv.Fy(I:Inv X pins σ H s):Env0 X.prog X.w X.K X.mg X.base X.A X.stack s H:=⟨I.ok.frames,I.ok.mod,I.bs,HF I.ok.bsz I.sz,I.stack,I.se,I.hok,I.bare⟩
theorem Inv.after{Q:VK}{u:G0}(I:Inv X pins σ H s)(h:CE X.stack X.prog X.w H s Q u s'):EP X pins σ Q u s':=by obtain⟨v,H',os,bare,un,hok,r,q⟩:=h;obtain⟨hh,g,d,t,os'⟩:=s';obtain rfl:os'=s.os:=os;exact⟨v,H',I.call (h':=hh) (g':=g) (d':=d) (t':=t) (ch:=[]) un hok bare (fun b z=>absurd z (by simp)),r,q⟩
end
def Fm(sp:Sp)(dvs:List V)(E:XK)(t:TA):TE:=fun σ H Q=>t σ H fun vs H1=>sp (vs++dvs) H1 Q E
def Binds(K:G5)(fd:JE)(ps:List Str)(ds:List G0):Prop:=
 ∀(s:G6) (us:List G0),K.In s.heap->(us++ds).length=ps.length->BindsTo s fd ⟨us,[]⟩ (ps.zip (us++ds))
theorem Binds.all{K:G5}{fd:JE}{ps:List Str}(h:∀us:List G0,us.length=ps.length->bindArgs fd ⟨us,[]⟩=pure (ps.zip us)):Binds K fd ps []:=fun s us _ hl=>by rw[Ib]at hl ⊢;exact .of_eq (h us hl)
def Passes(CX:CXT)(X:Cx)(E:XK):Prop:=∀(pins:List (Addr×Obj)) (σ:St) (H:Hp) (s:G6) (e:G0) (s':G6),Inv X pins σ H s->CX X.stack H s E e s'->X.xe e s'
section
variable{X:Cx}{CX:CXT}{k:Nat}{f C:Addr}{fd:JE}{ps:List Str}{sp:Sp}{dvs:List V}{ds:List G0}{E:XK}{x m:Str}{p pos apos:Pos}{e o:Expr}{es:List Expr}{ta:TE}{t:TA}
theorem C3{pins:List (Addr×Obj)}{σ:St}{H:Hp}{s:G6}{Q:VK}{us:List G0}{vs:List V}(F:FnOk X.prog X.w X.K X.mg X.base CX k f fd ps sp)(hr:Room k X.A)(hb:Binds X.K fd ps ds)(hd:Vals dvs ds)(hx:Passes CX X E)
 (I:Inv X pins σ H s) (r:Vals vs us) (h:sp (vs++dvs) H Q E):Gw (GG X.prog X.w) X.A (call (.ref f) us) (EP X pins σ Q) X.xe s:=by
 have r2:Vals (vs++dvs) (us++ds):=r.append hd
 have hl:(us++ds).length=ps.length:=by rw[<-r2.length];exact F.len _ _ _ _ h
 refine wpAny_call (codeAny_mono (F.run X.A X.stack s H ⟨us,[]⟩ (us++ds) (vs++dvs) Q E hr I.Fy (hb s us I.kIn hl) r2 h) fun r s' hq=>?_)
 cases r with
 |error e=>exact hx pins σ H s e s' I hq
 |ok fl=>
  cases fl with
  |ret u=>exact I.after hq
  |next=>exact JD hq
  |brk=>exact JD hq
  |cont=>exact JD hq
theorem yC(F:FnOk X.prog X.w X.K X.mg X.base CX k f fd ps sp)(hr:Room k X.A)(hg:Gl X x)(hm:X.mg x=some (.ref f))(hk:PySem.W.keepIn X.K (.ref f)=true)(hb:Binds X.K fd ps ds)(hd:Vals dvs ds)(hx:Passes CX X E) (ha:PA X (e::es) t) (hdb:(x==("__debug__":Str))=false:=by decide) (he:GH (e::es) X.env=(false,eval e X.env)::GH es X.env:=by rfl) (hpl:(Ij pos (GH es X.env)).any (·.1)=false:=by rfl) : PE X (.Call (.Name x p) (e::es) [] pos) (Fm sp dvs E t):=by intro pins s σ H Q I h;refine wpAny_Call_Name_kw (yD I hg hm ?_ hdb);refine PySem.W.callWith_K (h₀:=X.base) I.ok.mod.kin hk (thn (ha pos pins s σ H _ I h) fun us s1 ⟨vs,H1,I1,r,q⟩=>⟨I1.kIn,?_⟩) he hpl;exact C3 F hr hb hd hx I1 r q
end
structure FnScope(N P:List Str)(sc:Ja):Prop where
 kind:sc.kind=.function
 co:sc.isCoroutine=false
 gen:sc.isGenerator=false
 nd:N.Nodup
 pre:N.take P.length=P
 par:∀x∈P,sc.names.lookup x=some .local\/sc.names.lookup x=some .cell
 nofree:∀y∈sc.names,y.2≠.free
theorem mW{kindOf:Str->Option IW}{x:Str}:∀{binds:List (Str×G0)} {m:Str->Option G0},(∀v,(x,v)∉binds)->bindL kindOf binds m x=m x
 |[],_,_=>rfl
 |(n,v)::r,m,h=>by
  unfold bindL
  rw[mW fun w hw=>h w (Ho _ hw)]
  split
  ·have:x≠n:=by rintro rfl;exact h v HK
   simp[this]
  ·rfl
theorem ml{kindOf:Str->Option IW}{x:Str}:∀{binds:List (Str×G0)} {m:Str->Option G0},(∀v,(x,v)∉binds)->bindC kindOf binds m x=m x
 |[],_,_=>rfl
 |(n,v)::r,m,h=>by
  unfold bindC
  rw[ml fun w hw=>h w (Ho _ hw)]
  split
  ·rfl
  ·have:x≠n:=by rintro rfl;exact h v HK
   simp[this]
theorem nj{kindOf:Str->Option IW}{x:Str}{v:G0}:∀{P:List Str} {vs:List G0} {i:Nat} {m:Str->Option G0},P.Nodup->P[i]?=some x->vs[i]?=some v->kindOf x=some .local->
 bindL kindOf (P.zip vs) m x=some v
 |[],_,_,_,_,h,_,_=>by simp at h
 |_::_,[],_,_,_,_,h,_=>by simp at h
 |p::P,w::vs,0,m,nd,h1,h2,hk=>by
  simp at h1 h2;subst h1;subst h2
  show bindL kindOf ((p,w)::P.zip vs) m p=_
  unfold bindL
  rw[mW fun v hv=>(List.nodup_cons.mp nd).1 (List.of_mem_zip hv).1,if_pos hk]
  simp
 |p::P,w::vs,i+1,m,nd,h1,h2,hk=>by
  show bindL kindOf ((p,w)::P.zip vs) m x=_
  unfold bindL
  exact nj (i:=i) (List.nodup_cons.mp nd).2 (by simpa using h1) (by simpa using h2) hk
theorem m7{kindOf:Str->Option IW}{x:Str}{v:G0}:∀{P:List Str} {vs:List G0} {i:Nat} {m:Str->Option G0},P.Nodup->P[i]?=some x->vs[i]?=some v->kindOf x≠some .local->
 bindC kindOf (P.zip vs) m x=some v
 |[],_,_,_,_,h,_,_=>by simp at h
 |_::_,[],_,_,_,_,h,_=>by simp at h
 |p::P,w::vs,0,m,nd,h1,h2,hk=>by
  simp at h1 h2;subst h1;subst h2
  show bindC kindOf ((p,w)::P.zip vs) m p=_
  unfold bindC
  rw[ml fun v hv=>(List.nodup_cons.mp nd).1 (List.of_mem_zip hv).1,if_neg hk]
  simp
 |p::P,w::vs,i+1,m,nd,h1,h2,hk=>by
  show bindC kindOf ((p,w)::P.zip vs) m x=_
  unfold bindC
  exact m7 (i:=i) (List.nodup_cons.mp nd).2 (by simpa using h1) (by simpa using h2) hk
def start(N:List Str)(vs:List V):St:=vs.map some++GZ (N.length-vs.length) none
def i8(CX:CXT)(P:GL)(w:Hk)(K:G5)(mg:Str->Option G0)(base:Heap)(N:List Str)(qual:Str)(scope:Ja)(f:Addr)(cd:G0)(A:Hr)(outer:List Env)(s:G6)(H:Hp)(E:XK):Cx where
 prog:=P
 w:=w
 K:=K
 mg:=mg
 base:=base
 A:=A.deeper (envOfC qual scope s.heap.objs.size f cd)
 N:=N
 s₀:=s
 H₀:=H
 env:=envOfC qual scope s.heap.objs.size f cd
 outer:=outer
 stack:=envOfC qual scope s.heap.objs.size f cd::outer
 ex:=[]
 calm:=true
 fn:=fun _=>true
 pn:=[]
 xe:=fun e s'=>Gw (GG P w) (A.deeper (envOfC qual scope s.heap.objs.size f cd)) (leaving (envOfC qual scope s.heap.objs.size f cd) e) (fun _ s''=>CX outer H s E e s'') (fun e' s''=>CX outer H s E e' s'') s'
theorem j4{sc:Ja}{n:Nat}{x:Str}(h:sc.names.lookup x=some .cell):∃c,(Iu n sc.names []).lookup x=some c:=by have q:=PySem.W.cellsFrom_some sc.names n [] (.inl h);exact Option.isSome_iff_exists.mp q
theorem ve{CX:CXT}{P:GL}{w:Hk}{K:G5}{mg:Str->Option G0}{base:Heap}{N ps:List Str}{qual:Str}{scope:Ja}{f:Addr}{cd:G0}{A:Hr}{outer:List Env}{s s1:G6}{H:Hp}{E:XK}{us:List G0}{vs:List V}
 (S:FnScope N ps scope) (hd:A.handled=none) (e0:Env0 P w K mg base A outer s H) (hl:vs.length=ps.length) (r:Vals vs us)
 (x:InCallC s s.heap.objs.size (bindL (envOfC qual scope s.heap.objs.size f cd).kindOf (ps.zip us) fun _=>none) (Iu (s.heap.objs.size+1) scope.names []) (bindC (envOfC qual scope s.heap.objs.size f cd).kindOf (ps.zip us) fun _=>none) s1) :
 Inv (i8 CX P w K mg base N qual scope f cd A outer s H E) [] (start N vs) H s1:=by
 have hpl:ps.length<=N.length:=by have:=congrArg List.length S.pre;rw[J6]at this;omega
 obtain⟨h1,tk,rfl,hk⟩:=x.done
 have noA:∀b:Addr,b∉(i8 CX P w K mg base N qual scope f cd A outer s H E).ex:=fun b z=>absurd (show b∈([]:List Addr)from z) (by simp)
 refine⟨⟨e0.mod,S.kind,rfl,rfl,Gq _,fun y z c h1 h2=>?_,fun y hy=>?_,fun y c _ h=>?_,fun _=>hd,Around.frames_deeper e0.frames,.inr ⟨rfl,rfl⟩,fun b z=>absurd z (noA b),e0.bs,e0.bsz,fun b _ _=>noA b,fun b z=>absurd z (noA b),e0.lK,e0.frf⟩,
  rfl,e0.bare,Un.kept hk,⟨_,x.toInCall.ns,fun i y v h1 h2 h3=>?_⟩,fun y c h=>⟨_,x.cell y c h⟩,e0.hok.fresh (Gq _),fun y c h=>?_,fun p hp=>absurd (show p∈([]:List (Addr×Obj))from hp) (by simp),e0.hok.kept hk,?_⟩
 ·exact name_of_addr x.apart (Hn h1) (Hn h2)
 ·have hy:scope.names.lookup y=some .cell\/scope.names.lookup y=some .free:=hy
  rcases hy with hy|hy
  ·exact j4 hy
  ·exact absurd rfl (S.nofree _ (Hn hy))
 ·exact Nat.le_of_lt (x.above y c (Hn h))
 ·have hi:i<vs.length:=by
   unfold start at h2
   by_cases hi:i<vs.length
   ·exact hi
   ·rw[Ht (by simpa using hi)]at h2
    rw[List.getElem?_replicate]at h2
    split at h2<;>cases h2
  have ha:vs[i]?=some v:=by
   unfold start at h2
   rw[Hy (by simpa using hi),Gr]at h2
   cases e:vs[i]? with
   |none=>rw[e]at h2;cases h2
   |some a=>rw[e]at h2;cases h2;rfl
  obtain⟨u,hu,rv⟩:=r.get ha
  have hp:ps[i]?=some y:=by
   rw[<-S.pre,List.getElem?_take_of_lt (by omega)];exact h1
  have ndP:ps.Nodup:=by rw[<-S.pre];exact S.nd.sublist (List.take_sublist _ _)
  refine⟨u,rv,?_⟩
  rcases S.par y (Gu hp)with k|k
  ·exact .inl ⟨k,nj ndP hp hu k⟩
  ·obtain⟨c,e⟩:=j4 (n:=s.heap.objs.size+1) k
   refine .inr ⟨.inl k,c,e,?_⟩
   have q:=x.cell y c e
   rw[m7 ndP hp hu (by show scope.names.lookup y≠_;rw[k];decide)]at q
   exact q
 ·exact e0.hok.fresh (Nat.le_of_lt (x.above y c (Hn h)))
 ·unfold start
  show _=N.length
  rw[Ir,Gx,List.length_replicate]
  omega
theorem Eo{CX:CXT}{P:GL}{w:Hk}{K:G5}{mg:Str->Option G0}{base:Heap}{k:Nat}{f:Addr}{name qual:Str}{params:Arguments}{body:List Stmt}{scope:Ja}{dV kV doc pm cdv ct oc:G0}{an od:Option Addr}
 {osl:Array (Option G0)} {N ps:List Str} {sp:Sp} (lk:K.lookup f=some ⟨oc,od,.func (Il name qual params body scope dV kV doc pm an cdv ct),osl⟩) (hcd:PySem.W.codeIn K cdv qual=true) (S:FnScope N ps scope)
 (len:∀vs H Q E,sp vs H Q E->vs.length=ps.length)
 (hbody:∀(A:Hr) (outer:List Env) (s:G6) (H:Hp) (vs:List V) (Q:VK) (E:XK),Room k (A.deeper (envOfC qual scope s.heap.objs.size f cdv))->sp vs H Q E->
  ∃t,PSs (i8 CX P w K mg base N qual scope f cdv A outer s H E) body t/\t { nx:=fun _ H'=>Q .non H',rt:=Q } (start N vs) H) :
 FnOk P w K mg base CX (k+1) f (Il name qual params body scope dV kV doc pm an cdv ct) ps sp:=by
 refine⟨len,fun A outer s H args us vs Q E hr e0 hb r hsp=>?_⟩
 have hl:=len _ _ _ _ hsp
 have KX:K.In s.heap:=e0.mod.kin.keeps fun b o e=>(e0.bs b o e).1
 have lim:s.heap.NoLimit:=e0.mod.nolimit.keeps fun b o e=>(e0.bs b o e).1
 have hkind:∀y∈ps.zip us,scope.names.lookup y.1=some .local\/(scope.names.lookup y.1=some .cell/\((Iu (s.heap.objs.size+1) scope.names []).lookup y.1).isSome=true):=fun zz62_0 hy=>by
  obtain⟨n,v⟩:=zz62_0
  rcases S.par n (List.of_mem_zip hy).1 with q|q
  ·exact .inl q
  ·exact .inr ⟨q,PySem.W.cellsFrom_some _ _ _ (.inl q)⟩
 refine codeAny_call_function hr.depth (KX _ _ lk) rfl S.co S.gen rfl (PySem.W.codeRec_of KX hcd) (hb _ _ _ _ ?_)
 refine wpAny_newFunctionEnv_cells S.kind hkind fun env he s1 x=>?_
 subst he
 refine⟨lim.keeps x.toInCall.keep,codeAny_func ?_⟩
 obtain⟨t,ht,hq⟩:=hbody A outer s H vs Q E (hr.deeper _) hsp
 have I:Inv (i8 CX P w K mg base N qual scope f cdv A outer s H E) [] (start N vs) H s1:=ve S hr.hd e0 hl r x
 refine GB (ht [] s1 (start N vs) H _ I hq) (fun fl s' hs=>?_) fun e s' hs=>hs
 have fin:∀{σ':St} {H':Hp} {v:V} {u:G0},Inv (i8 CX P w K mg base N qual scope f cdv A outer s H E) [] σ' H' s'->RelV v u->Q v H'->CE outer P w H s Q u s':=
  fun{σ' H' v u} J rv q=>⟨v,H',J.os,J.bare,J.base,J.hok,rv,q⟩
 cases fl with
 |ret u=>
  obtain⟨v,σ',H',J,rv,q⟩:=hs
  exact fin J rv q
 |next=>
  obtain⟨σ',H',J,q⟩:=hs
  exact fin (v:=V.non) (u:=Iv) J rfl q
 |brk=>
  obtain⟨_,_,_,q⟩:=hs
  exact JD q
 |cont=>
  obtain⟨_,_,_,q⟩:=hs
  exact JD q
section
variable{X:Cx}{x:Str}{p pos:Pos}{e:Expr}{es:List Expr}{t:TA}{id T:String}{r:List V->Hp->VK->Prop}
def tCB(r:List V->Hp->VK->Prop)(t:TA):TE:=fun σ H Q=>t σ H fun vs H1=>r vs H1 Q
theorem vQ(hc:cu X (.builtin id) r)(hg:Gl X x)(hm:X.mg x=none)(hv:HL x=some (.builtin id))(ha:PA X (e::es) t)(hn:x≠"__name__":=by decide)(hdb:(x==("__debug__":Str))=false:=by decide) (he:GH (e::es) X.env=(false,eval e X.env)::GH es X.env:=by rfl) (hpl:(Ij pos (GH es X.env)).any (·.1)=false:=by rfl):PE X (.Call (.Name x p) (e::es) [] pos) (tCB r t):=by intro pins s σ H Q I h;refine wpAny_Call_Name_kw (jc I hg hm hv ?_ hn hdb);exact PyProof.Rows.callWith_builtin1 (thn (ha pos pins s σ H _ I h) fun us s1 zz63_0=>by obtain⟨vs,H1,I1,r1,q1⟩:=zz63_0;exact(hc pins s1 σ H1 vs us Q I1 r1 q1)) he hpl
theorem uq(hc:cu X (.type T) r)(hg:Gl X x)(hm:X.mg x=none)(hv:HL x=some (.type T))(ha:PA X (e::es) t)(hn:x≠"__name__":=by decide)(hdb:(x==("__debug__":Str))=false:=by decide) (he:GH (e::es) X.env=(false,eval e X.env)::GH es X.env:=by rfl) (hpl:(Ij pos (GH es X.env)).any (·.1)=false:=by rfl):PE X (.Call (.Name x p) (e::es) [] pos) (tCB r t):=by intro pins s σ H Q I h;refine wpAny_Call_Name_kw (jc I hg hm hv ?_ hn hdb);exact IY (thn (ha pos pins s σ H _ I h) fun us s1 zz64_0=>by obtain⟨vs,H1,I1,r1,q1⟩:=zz64_0;exact(hc pins s1 σ H1 vs us Q I1 r1 q1)) he hpl
end
end L2
namespace HT
open PySem PyProof.Rows
def lexLt:List Int->List Int->Bool
 |[],[]=>false
 |[],_::_=>true
 |_::_,[]=>false
 |x::xs,y::ys=>if x=y then lexLt xs ys else decide (x<y)
theorem rP(x y:Int)(xs ys:List Int):lexLt (x::xs) (y::ys)=if x=y then lexLt xs ys else decide (x<y):=rfl
theorem mh:lexLt [] []=false:=rfl
theorem lL(y:Int)(ys:List Int):lexLt [] (y::ys)=true:=rfl
theorem j5(x:Int)(xs:List Int):lexLt (x::xs) []=false:=rfl
theorem kh(A:Hr)(s:G6)(a:Int)(t:Tok)(c:Int)(u:Tok):∃e,SeqAt.EqAt A s (.int a t) (.int c u) e/\(e=true↔a=c):=⟨(a==c),SeqAt.EqAt.int_int a t c u,by simp⟩
theorem wG(A:Hr)(s:G6)(a:Int)(t:Tok)(c:Int)(u:Tok)(prog:GL)(w:Hk)(E:G0->G6->Prop)(Q:G0->G6->Prop)(h:Q (.bool (decide (a<c))) s) : Gw (GG prog w) A (richCompare .Lt (.int a t) (.int c u)) Q E s:=(PyProof.Rows.lt_int h:Gw (GG prog w) A (Hc .Lt (.int a t) (.int c u)) Q E s)
section
open PySem.SeqAt
open PySem.AutoSeq1 (wpAny_loadPart')
open PySem.MeetsSeq PySem.MeetsSeq2 PySem.MeetsSeq3
theorem l7(l b:Addr)(items items2:Array G0)(n n2:Nat)(dd dd2:Option Addr)(sl sl2:Array (Option G0))(ns ms:List Int)(hi:Im items.toList ns)(hj:Im items2.toList ms) :
 Meets (JG.«tuple.__lt__» ⟨[.ref l,.ref b],[]⟩)
  (fun _ R s=>s.heap.get? l=some { cls:=.type "tuple",dict:=dd,data:=.seq items n,slots:=sl }/\s.heap.get? b=some { cls:=.type "tuple",dict:=dd2,data:=.seq items2 n2,slots:=sl2 }/\
   R (.ok (.ret (.bool (lexLt ns ms)))) s):=
 .of_wp fun prog w A R s h=>by
  obtain⟨hp,g,d,tk,os⟩:=s;obtain⟨hl,hb,h⟩:=h
  have f2:=AutoSeq1.sub_tuple_tuple
  have z1:items.size=ns.length:=by rw[<-hi.length];simp
  have z2:items2.size=ms.length:=by rw[<-hj.length];simp
  wp_walk using Hx hl,Hx hb,wpAny_forIn_list _ (fun rest b s'=>b.1=none/\s'=⟨hp,g,d,tk,os⟩/\∃(vs ws:List G0) (ns' ms':List Int),rest=vs.zip ws/\
   Im vs ns'/\Im ws ms'/\ns'.length+items2.size=ms'.length+items.size/\R (.ok (.ret (.bool (lexLt ns' ms')))) ⟨hp,g,d,tk,os⟩) _
  case turn=>
   rintro⟨y,x⟩ rest b s' ⟨hb',rfl,vs,ws,ns',ms',hz,hvi,hwi,hlen,hR⟩
   cases hvi with
   |nil=>rw[List.zip_nil_left]at hz;cases hz
   |cons a t hvi'=>
    cases hwi with
    |nil=>rw[List.zip_nil_right]at hz;cases hz
    |cons c u hwi'=>
     rw[Jb]at hz
     injection hz with hyx hrest
     injection hyx with hy hx
     subst hy hx
     rw[rP]at hR
     simp only[Hv]at hlen
     obtain⟨e,he,hiff⟩:=kh A.in1 ⟨hp,g,d,tk,os⟩ a t c u
     refine cc (he prog w _ _ ?_)
     cases e with
     |true=>
      rw[if_pos (hiff.mp rfl)]at hR
      wp_walk
      exact⟨rfl,rfl,_,_,_,_,hrest,hvi',hwi',by omega,hR⟩
     |false=>
      rw[if_neg (fun q=>absurd (hiff.mpr q) GA)]at hR
      have hri:=wG A.in1 ⟨hp,g,d,tk,os⟩ a t c u prog w
      wp_walk using hri
      exact⟨_,rfl,by simpa using hR⟩
  case fin=>
   rintro⟨b1,b2⟩ s' ⟨hb',rfl,vs,ws,ns',ms',hz,hvi,hwi,hlen,hR⟩
   simp only at hb'
   subst hb'
   have hv:lexLt ns' ms'=decide (items.size<items2.size):=by
    cases hvi with
    |nil=>
     cases hwi with
     |nil=>
      simp only[Io]at hlen
      rw[mh]
      exact(decide_eq_false (by omega)).symm
     |cons c u hw=>
      simp only[Io,Hv]at hlen
      rw[lL]
      exact(decide_eq_true (by omega)).symm
    |cons a t hv=>
     cases hwi with
     |nil=>
      simp only[Io,Hv]at hlen
      rw[j5]
      exact(decide_eq_false (by omega)).symm
     |cons c u hw=>
      rw[Jb]at hz
      cases hz
   rw[hv]at hR
   wp_walk
   exact⟨_,rfl,by simpa[Builtin.Tuple.tupleCompareSizes]using hR⟩
  case h=>
   exact⟨rfl,rfl,items.toList,items2.toList,ns,ms,rfl,hi,hj,by omega,h⟩
end
section
variable{prog:GL}{w:Hk}{A:Hr}{E:G0->G6->Prop}{s:G6}
theorem k8{l b:Addr}{items items2:Array G0}{ns ms:List Int}{Q:G0->G6->Prop}(hl:IsTup s.heap l items)(hb:IsTup s.heap b items2)(hi:Im items.toList ns)(hj:Im items2.toList ms) (hu:A.units<HG) (h:Q (.bool (lexLt ns ms)) s):Gw (GG prog w) A (Hc .Lt (.ref l) (.ref b)) Q E s:=by obtain⟨⟨cls,dd,data,sl⟩,ho,hc,n,hd⟩:=id hl;obtain⟨⟨cls2,dd2,data2,sl2⟩,ho2,hc2,n2,hd2⟩:=id hb;simp only at hc hd hc2 hd2;subst hc hd hc2 hd2;exact richCompare_meets_room (op:=.Lt) ⟨_,ho,rfl⟩ ⟨_,ho2,rfl⟩ PySem.F.slot_tuple_lt PySem.F.entry_tuple_lt (PySem.F.args_tuple_lt_2 _ _) (l7 l b items items2 n n2 dd dd2 sl sl2 ns ms hi hj) ⟨ho,ho2,show JB (lexLt ns ms)≠Value.notImplemented/\Q (.bool (lexLt ns ms)) s from⟨(fun x=>nomatch x),h⟩⟩ hu
theorem zV{t b:Addr}{vs ws:List G0}{Q:G0->G6->Prop}(ht:IsTup s.heap t vs.toArray)(hb:IsTup s.heap b ws.toArray)(hv:vs≠[])
 (h1:ws=[]->Q (.ref t) s) (h2:ws≠[]->Q (.ref s.heap.objs.size) { s with heap:=s.heap.push { cls:=.type "tuple",data:=.seq (vs++ws).toArray } })
 (hsz:vs.length+ws.length<=GD):Gw (GG prog w) A (IF .Add (.ref t) (.ref b)) Q E s:=by
 obtain⟨⟨cls,dd,data,sl⟩,ho,hc,n,hd⟩:=id ht
 obtain⟨⟨cls2,dd2,data2,sl2⟩,ho2,hc2,n2,hd2⟩:=id hb
 simp only at hc hd hc2 hd2
 subst hc hd hc2 hd2
 have e:vs.toArray++ws.toArray=(vs++ws).toArray:=by simp
 by_cases hw:ws=[]
 ·exact concat_meets ⟨_,ho,rfl⟩ ⟨_,ho2,rfl⟩ noFill_tuple_add seq_tuple_add PySem.F.slot_tuple_add PySem.F.entry_tuple_add (PySem.F.args_tuple_add_2 _ _)
   (tuple_addW1 t b vs.toArray ws.toArray n n2 dd dd2 sl sl2 (by simpa using hv) (by simp[hw])) ⟨ho,ho2,h1 hw⟩
 ·refine concat_meets ⟨_,ho,rfl⟩ ⟨_,ho2,rfl⟩ noFill_tuple_add seq_tuple_add PySem.F.slot_tuple_add PySem.F.entry_tuple_add (PySem.F.args_tuple_add_2 _ _)
   (tuple_addW2 t b vs.toArray ws.toArray n n2 dd dd2 sl sl2 (by simpa using hv) (by simpa using hw) (by rw[GJ,GJ];exact hsz)) ⟨ho,ho2,?_⟩
  rw[e]
  exact h2 hw
def sIx(n d:Nat):Option Int->Nat
 |none=>d
 |some v=>if v<0 then(v+(n:Int)).toNat else min v.toNat n
theorem C2(n d:Nat)(hd:d<=n)(o:Option Int):sIx n d o<=n:=by
 cases o with
 |none=>exact hd
 |some v=>
  show(if v<0 then(v+(n:Int)).toNat else min v.toNat n)<=n
  by_cases hv:v<0
  ·rw[if_pos hv];omega
  ·rw[if_neg hv];exact Nat.min_le_right _ _
theorem tS(v:Int)(n d:Nat):(if v<0 then max (v+(n:Int)) 0 else min v (n:Int))=((sIx n d (some v):Nat):Int):=by
 show(if v<0 then max (v+(n:Int)) 0 else min v (n:Int))=(((if v<0 then(v+(n:Int)).toNat else min v.toNat n):Nat):Int);by_cases hv:v<0
 ·simp only[if_pos hv];omega
 ·simp only[if_neg hv];omega
theorem qJ(lo hi:Option Int)(n:Nat):Builtin.Slice.sliceAdjust lo hi 1 (n:Int)=(((sIx n 0 lo:Nat):Int),((sIx n n hi:Nat):Int)):=by
 have h1:¬((1:Int)<0):=by omega
 unfold Builtin.Slice.sliceAdjust;simp only[h1,if_false];refine Prod.ext ?_ ?_
 ·cases lo with
  |none=>rfl
  |some v=>exact tS v n 0
 ·cases hi with
  |none=>rfl
  |some v=>exact tS v n n
theorem q0(i j:Nat):Builtin.Slice.slicePlaces (i:Int) (j:Int) 1=j-i:=by
 unfold Builtin.Slice.slicePlaces;have h1:(1:Int)>0:=by omega
 simp only[h1,if_true,Int.ediv_one];split<;>omega
theorem lq{v:G0}{o:Option Int}{Q:Option Int->G6->Prop}(p:IsPart v o)(h:Q o s):Gw (GG prog w) A (Builtin.Slice.slicePartIndex v) Q E s:=by
 cases p with
 |none=>exact slicePart_none h
 |int i t=>exact slicePart_int h
theorem iT{sl:Addr}{vl vu:G0}{lo hi:Option Int}{n:Nat}{Q:Int×Int×Nat->G6->Prop}(hs:s.heap.IsSliceOf sl vl vu .none)(pl:IsPart vl lo)(pu:IsPart vu hi)
 (h:Q (((sIx n 0 lo:Nat):Int),1,sIx n n hi-sIx n 0 lo) s):Gw (GG prog w) A (Builtin.Slice.sliceApplied (.ref sl) (pure (n:Int))) Q E s:=by
 obtain⟨os,hos,hcs,hds⟩:=id hs
 unfold Builtin.Slice.sliceApplied Builtin.Slice.sliceFields
 refine cc (cc (wpAny_field hos hds (x:=vl) rfl (cc (wpAny_field hos hds (x:=vu) rfl (cc (wpAny_field hos hds (x:=.none) rfl (G7 ?_)))))))
 refine cc (slicePart_none ?_)
 show Gw _ _ (if((1:Int)==0)=true then _ else _) _ _ s
 rw[if_neg (by decide)]
 refine cc (lq pl (cc (lq pu (cc (G7 ?_)))))
 show Gw _ _ (match Builtin.Slice.sliceAdjust lo hi 1 (n:Int)with|(lo,hi)=>pure (lo,(1:Int),Builtin.Slice.slicePlaces lo hi 1)) _ _ s
 rw[qJ lo hi n]
 show Gw _ _ (pure (((sIx n 0 lo:Nat):Int),(1:Int),Builtin.Slice.slicePlaces ((sIx n 0 lo:Nat):Int) ((sIx n n hi:Nat):Int) 1)) _ _ s
 rw[q0]
 exact G7 h
theorem xX(xs:Array G0)(i k:Nat):((GR k).filterMap fun(m:Nat)=>xs[((i:Int)+(m:Int)*1).toNat]?).toArray=((xs.toList.drop i).take k).toArray:=by
 have e:(fun(m:Nat)=>xs[((i:Int)+(m:Int)*1).toNat]?)=fun m=>xs[i+m]?:=by
  funext m
  have:((i:Int)+(m:Int)*1).toNat=i+m:=by omega
  rw[this]
 rw[e];have:=pick_run xs i k;rw[List.filterMap_map]at this;have e2:((fun x=>xs[x]?)∘fun x=>i+x)=fun m=>xs[i+m]?:=rfl;rw[e2]at this;rw[this]
theorem ib{t sl:Addr}{items:Array G0}{vl vu:G0}{lo hi:Option Int}{Q:G0->G6->Prop}(ht:IsTup s.heap t items)(hs:s.heap.IsSliceOf sl vl vu .none)(pl:IsPart vl lo)(pu:IsPart vu hi)
 (hw:¬(sIx items.size 0 lo=0/\sIx items.size items.size hi=items.size))
 (h:Q (.ref s.heap.objs.size) { s with heap:=s.heap.push { cls:=.type "tuple",data:=.seq ((items.toList.drop (sIx items.size 0 lo)).take (sIx items.size items.size hi-sIx items.size 0 lo)).toArray } })
 (hsz:items.size<=GD):Gw (GG prog w) A (getItem (.ref t) (.ref sl)) Q E s:=by
 have htake:sizeOk (.seq ((items.toList.drop (sIx items.size 0 lo)).take (sIx items.size items.size hi-sIx items.size 0 lo)).toArray):=by
  show((items.toList.drop (sIx items.size 0 lo)).take (sIx items.size items.size hi-sIx items.size 0 lo)).toArray.size<=GD
  rw[GJ,J6,List.length_drop,Array.length_toList]
  omega
 have hj:sIx items.size items.size hi<=items.size:=C2 _ _ (Gq _) hi
 obtain⟨os,hos,hcs,hds⟩:=id hs
 have hTs:s.TypeIs (.ref sl) "slice":=⟨os,hos,hcs⟩
 unfold getItem
 try with_reducible refine HP ?_
 first|refine cc (G7 ?_)|skip
 refine cc (wpAny_sequenceKey ht.typeIs (by decide) ?_)
 refine cc (IS (name:=Ie "__getitem__") ht.typeIs PyProof.Rows.slot_tuple_getitem
  (J7 PyProof.Rows.slot_tuple_getitem ht.typeIs entry_tuple_getitem ?_ (args_tuple_getitem _ _)))
 show Gw _ _ (Builtin.Tuple.tupleItemsOf (.ref t) >>= _) _ _ s
 refine cc (tupleItemsOf_ ht ?_)
 refine cc (wpAny_typeOf hTs ?_)
 rw[if_pos (by decide)]
 refine cc (iT hs pl pu ?_)
 have hno:¬((((sIx items.size 0 lo:Nat):Int)==0&&(1:Int)==1&&(sIx items.size items.size hi-sIx items.size 0 lo)==items.size)=true):=by
  intro q
  rw[GN,GN]at q
  have q1:((sIx items.size 0 lo:Nat):Int)=0:=eq_of_beq q.1.1
  have q2:sIx items.size items.size hi-sIx items.size 0 lo=items.size:=eq_of_beq q.2
  exact hw ⟨by omega,by omega⟩
 show Gw _ _ (if(((sIx items.size 0 lo:Nat):Int)==0&&(1:Int)==1&&(sIx items.size items.size hi-sIx items.size 0 lo)==items.size)=true then _ else _) _ _ s
 rw[if_neg hno,xX]
 first
  |exact cc (m:=Builtin.Tuple.tupleExact _) (Hg (G7 ⟨_,rfl,G7 h⟩) htake)
  |exact cc (m:=Builtin.Tuple.tupleExact _) (Hg (cc (G7 (G7 ⟨_,rfl,G7 h⟩))) htake)
  |exact cc (cc (m:=Builtin.Tuple.tupleExact _) (Hg (G7 (G7 ⟨_,rfl,G7 h⟩)) htake))
  |exact cc (cc (m:=Builtin.Tuple.tupleExact _) (Hg (G7 ⟨_,rfl,G7 h⟩) htake))
end
end HT
namespace L2
open PySem PySem.Spec PyProof.Rows
abbrev TO:=St->Hp->(Option Int->Hp->Prop)->Prop
def PO(X:Cx)(e:Option Expr)(t:TO):Prop:=
 ∀(pins:List (Addr×Obj)) (s:G6) (σ:St) (H:Hp) (Q:Option Int->Hp->Prop),Inv X pins σ H s->t σ H Q->
  Gw (GG X.prog X.w) X.A (evalPart e X.env) (fun u s'=>∃o H',Inv X pins σ H' s'/\IsPart u o/\Q o H') X.xe s
def zy:TO:=fun _ H Q=>Q none H
def EI(t:TE):TO:=fun σ H Q=>t σ H fun x H1=>∃i,x=.int i/\Q (some i) H1
theorem intsAre_of{ns:List Int}:∀{us:List G0},Vals (ns.map V.int) us->Im us ns:=by
 induction ns with
 |nil=>intro us r;rw[Ig]at r;cases r;exact .nil
 |cons n ns ih=>
  intro us r
  rw[Gs]at r
  cases r with
  |cons r1 r2=>
   obtain⟨t,e⟩:=r1
   subst e
   exact .cons n t (ih r2)
section
variable{X:Cx}{e:Expr}{te:TE}{lo hi:Option Expr}{tl th:TO}{pos p2:Pos}
theorem yJ:PO X none zy:=by intro pins s σ H Q I h;rw[evalPart_none];exact G7 ⟨none,H,I,.none,h⟩
theorem Aa(h:PE X e te):PO X (some e) (EI te):=by intro pins s σ H Q I hw;rw[evalPart_some];refine thn (h pins s σ H _ I hw) fun u s1 zz65_0=>?_;obtain⟨x,H1,I1,r1,q1⟩:=zz65_0;obtain⟨i,rfl,q⟩:=q1;obtain⟨t,rfl⟩:=r1;exact⟨some i,H1,I1,.int i t,q⟩
def SlR(X:Cx)(r:V->Option Int->Option Int->Hp->VK->Prop):Prop:=
 ∀(pins:List (Addr×Obj)) (s:G6) (σ:St) (H:Hp) (x:V) (v vl vu:G0) (lo hi:Option Int) (sl:Addr) (Q:VK),Inv X pins σ H s->RelV x v->s.heap.IsSliceOf sl vl vu .none->IsPart vl lo->IsPart vu hi->r x lo hi H Q->
  ∃T id,typeLookup (.type T) "__getitem__"=pure (some (.builtin id))/\s.TypeIs v T/\Gw (GG X.prog X.w) X.A (getItem v (.ref sl)) (EP X pins σ Q) X.xe s
theorem SlR.or{r r':V->Option Int->Option Int->Hp->VK->Prop}(h:SlR X r)(h':SlR X r'):SlR X (fun x lo hi H Q=>r x lo hi H Q\/r' x lo hi H Q):=by
 intro pins s σ H x v vl vu lo hi sl Q I rx hs pl pu q;rcases q with q|q
 ·exact h pins s σ H x v vl vu lo hi sl Q I rx hs pl pu q
 ·exact h' pins s σ H x v vl vu lo hi sl Q I rx hs pl pu q
def tSl(r:V->Option Int->Option Int->Hp->VK->Prop)(te:TE)(tl th:TO):TE:=fun σ H Q=>te σ H fun x H1=>tl σ H1 fun l H2=>th σ H2 fun u H3=>r x l u H3 Q
theorem vJ{r:V->Option Int->Option Int->Hp->VK->Prop}(hr:SlR X r)(he:PE X e te)(hl:PO X lo tl)(hu:PO X hi th):PE X (.Subscript e (.Slice lo hi none p2) pos) (tSl r te tl th):=by intro pins s σ H Q I h;refine Subscript_ (thn (he pins s σ H _ I h) fun v s1 zz66_0=>?_);obtain⟨x,H1,I1,r1,q1⟩:=zz66_0;refine wpAny_Slice (thn (hl pins s1 σ H1 _ I1 q1) fun vl s2 ⟨l,H2,I2,pl,q2⟩=>thn (hu pins s2 σ H2 _ I2 q2) fun vu s3 zz67_0=>?_);obtain⟨u,H3,I3,pu,q3⟩:=zz67_0;rw[evalPart_none];refine G7 ?_;have I4:Inv X pins σ H3 { s3 with heap:=s3.heap.push { cls:=.type "slice",data:=.fields #[vl,vu,.none] } }:=I3.kept (t':=s3.toks) fun b ob q=>G9 _ q;obtain⟨T,id,hT,ht,hg⟩:=hr pins { s3 with heap:=s3.heap.push { cls:=.type "slice",data:=.fields #[vl,vu,.none] } } σ H3 x v vl vu l u s3.heap.objs.size Q I4 r1 (Heap.IsSliceOf.new ..) pl pu q3;show Gw (GG X.prog X.w) X.A (subscriptTail e (.Slice lo hi none p2) v (.ref s3.heap.objs.size)) (EP X pins σ Q) X.xe { s3 with heap:=s3.heap.push { cls:=.type "slice",data:=.fields #[vl,vu,.none] } };exact tail_any (ops:=[.ref s3.heap.objs.size,v]) ht hT hg (by with_unfolding_all rfl)
def pW(xs:List V)(lo hi:Option Int):List V:=(xs.drop (HT.sIx xs.length 0 lo)).take (HT.sIx xs.length xs.length hi-HT.sIx xs.length 0 lo)
theorem jx(xs:List V)(lo hi:Option Int):(pW xs lo hi).length<=xs.length:=by unfold pW;rw[J6,List.length_drop];omega
def FO(K:G5):V->Option Int->Option Int->Hp->VK->Prop:=fun x lo hi H Q=>∃a xs,x=.ref a/\SqT K H a xs/\
 ¬(HT.sIx xs.length 0 lo=0/\HT.sIx xs.length xs.length hi=xs.length)/\∀p,H p=none->Q (.ref p) (upd H p (.tup (pW xs lo hi)))
theorem Dj:SlR X (FO X.K):=by
 intro pins s σ H x v vl vu lo hi sl Q I rx hs pl pu h;obtain⟨a,xs,rfl,hx,hw,q⟩:=h;cases rx;obtain⟨its,r,ht,hz⟩:=I.tuple hx;have hlen:its.toArray.size=xs.length:=by rw[GJ];exact r.length.symm
 refine⟨"tuple",_,PyProof.Rows.slot_tuple_getitem.lookup,ht.typeIs,?_⟩;refine HT.ib ht hs pl pu (by rw[hlen];exact hw) ?_ (by rw[hlen];exact hz);rw[hlen];refine⟨.ref s.heap.objs.size,_,I.laid (t':=s.toks) (o:=.tup (pW xs lo hi)) (fun b ob q=>G9 _ q) (Gq _) ?_,rfl,q _ (I.hok.fresh (Gq _))⟩;exact⟨HF (jx xs lo hi) hz,_,(r.drop (HT.sIx xs.length 0 lo)).take (HT.sIx xs.length xs.length hi-HT.sIx xs.length 0 lo),IsTup.new _ _,NoD.new _ _⟩
def FE(K:G5):R2:=fun x y H Q=>∃a b ns ms,x=.ref a/\y=.ref b/\SqT K H a (ns.map V.int)/\SqT K H b (ms.map V.int)/\Q (.bl (HT.lexLt ns ms)) H
theorem CJ(hu:X.A.units<HG):OpR X (Hc .Lt) (FE X.K):=by intro pins s σ H x y v u Q I rx ry h;obtain⟨a,b,ns,ms,rfl,rfl,ha,hb,q⟩:=h;cases rx;cases ry;obtain⟨its,r1,p1,_⟩:=I.tuple ha;obtain⟨its2,r2,p2,_⟩:=I.tuple hb;have i1:Im its.toArray.toList ns:=intsAre_of r1;have i2:Im its2.toArray.toList ms:=intsAre_of r2;exact HT.k8 p1 p2 i1 i2 hu ⟨.bl (HT.lexLt ns ms),H,I,rfl,q⟩
def Ei(K:G5):R2:=fun x y H Q=>∃a b xs ys,x=.ref a/\y=.ref b/\SqT K H a xs/\SqT K H b ys/\xs≠[]/\xs.length+ys.length<=GD/\
 (ys=[]->Q (.ref a) H)/\(ys≠[]->∀p,H p=none->Q (.ref p) (upd H p (.tup (xs++ys))))
theorem Vals.oA{xs:List V}{us:List G0}(r:Vals xs us):us=[]↔xs=[]:=by
 cases r with
 |nil=>simp
 |cons _ _=>simp
theorem Ad:OpR X (IF .Add) (Ei X.K):=by intro pins s σ H x y v u Q I rx ry h;obtain⟨a,b,xs,ys,rfl,rfl,ha,hb,hx,hz,q1,q2⟩:=h;cases rx;cases ry;obtain⟨its,r1,p1,_⟩:=I.tuple ha;obtain⟨its2,r2,p2,_⟩:=I.tuple hb;refine HT.zV p1 p2 (fun z=>hx (r1.oA.mp z)) (fun z=>⟨.ref a,H,I,rfl,q1 (r2.oA.mp z)⟩) (fun z=>?_) (by rw[<-r1.length,<-r2.length];exact hz);refine⟨.ref s.heap.objs.size,_,I.laid (t':=s.toks) (o:=.tup (xs++ys)) (fun b ob q=>G9 _ q) (Gq _) ?_,rfl,q2 (fun w=>z (r2.oA.mpr w)) _ (I.hok.fresh (Gq _))⟩;exact⟨by rw[Ir];exact hz,_,r1.append r2,IsTup.new _ _,NoD.new _ _⟩
end
def ixN(n:Nat)(i:Int):Option Nat:=if 0<=i then(if i<n then some i.toNat else none)else if -(n:Int)<=i then some (i+n).toNat else none
def atI{α:Type}(xs:List α)(i:Int):Option α:=(ixN xs.length i).bind fun j=>xs[j]?
theorem tj{n:Nat}{i:Int}{j:Nat}(h:ixN n i=some j):seqIndex? i n=some j/\j<n/\-(n:Int)<=i/\i<n:=by
 unfold ixN at h;by_cases h0:0<=i
 ·rw[if_pos h0]at h;by_cases h1:i<n
  ·rw[if_pos h1]at h;have e:i.toNat=j:=Option.some.inj h;exact⟨by rw[seqIndex_of h0 h1,e],by omega,by omega,h1⟩
  ·rw[if_neg h1]at h;cases h
 ·rw[if_neg h0]at h;by_cases h1:-(n:Int)<=i
  ·rw[if_pos h1]at h;have e:(i+n).toNat=j:=Option.some.inj h;exact⟨by rw[seqIndex_neg (by omega) h1,e],by omega,h1,by omega⟩
  ·rw[if_neg h1]at h;cases h
theorem nL{α:Type}{xs:List α}{i:Int}{v:α}(h:atI xs i=some v):∃j,seqIndex? i xs.length=some j/\xs[j]?=some v/\j<xs.length/\-(xs.length:Int)<=i/\i<xs.length:=by
 unfold atI at h;cases e:ixN xs.length i with
 |none=>rw[e]at h;cases h
 |some j=>
  rw[e]at h
  obtain⟨h1,h2,h3,h4⟩:=tj e
  exact⟨j,h1,h,h2,h3,h4⟩
theorem b8{α:Type}{xs:List α}{j:Nat}{v:α}(h:xs[j]?=some v):atI xs (j:Int)=some v:=by
 have hj:j<xs.length:=(Gz.mp h).1;have e:ixN xs.length (j:Int)=some j:=by unfold ixN;rw[if_pos (by omega),if_pos (by omega)];simp
 unfold atI;rw[e];exact h
def nM(b:Expr):Prop:=∀o i,subscripted b false o i=operate [o,i] (getItem o i)
def IxR(X:Cx)(r:R2):Prop:=
 ∀(value slice:Expr) (pins:List (Addr×Obj)) (s:G6) (σ:St) (H:Hp) (x y:V) (v u:G0) (Q:VK),Inv X pins σ H s->RelV x v->RelV y u->r x y H Q->
  subscripted slice false v u=operate [v,u] (getItem v u)->Gw (GG X.prog X.w) X.A (subscriptTail value slice v u) (EP X pins σ Q) X.xe s
def MtR(X:Cx)(id:String)(r:V->List V->Hp->VK->Prop):Prop:=
 ∀(pins:List (Addr×Obj)) (s:G6) (σ:St) (H:Hp) (x:V) (xs:List V) (v:G0) (us:List G0) (Q:VK),Inv X pins σ H s->RelV x v->Vals xs us->r x xs H Q->
  Gw (GG X.prog X.w) X.A (call (.builtin id) (v::us)) (EP X pins σ Q) X.xe s
section
variable{X:Cx}{a b:Expr}{ta tb:TE}{pos:Pos}
theorem IxR.or{r r':R2}(h:IxR X r)(h':IxR X r'):IxR X (fun x y H Q=>r x y H Q\/r' x y H Q):=by
 intro value slice pins s σ H x y v u Q I rx ry q hs;rcases q with q|q
 ·exact h value slice pins s σ H x y v u Q I rx ry q hs
 ·exact h' value slice pins s σ H x y v u Q I rx ry q hs
theorem E6{r:R2}(hr:IxR X r)(ha:PE X a ta)(hb:PE X b tb)(hs:nM b):PE X (.Subscript a b pos) (tOp r ta tb):=by intro pins s σ H Q I h;exact Subscript_ (BN ha hb I h fun v u s2 x y H2 I2 rx ry q=>hr a b pins s2 σ H2 x y v u Q I2 rx ry q (hs _ _))
def D6(K:G5):R2:=fun x y H Q=>∃p xs i v,x=.ref p/\y=.int i/\SqL K H p xs/\atI xs i=some v/\Q v H
def D8(K:G5):R2:=fun x y H Q=>∃p xs i v,x=.ref p/\y=.int i/\SqT K H p xs/\atI xs i=some v/\Q v H
def DP:R2:=fun x y H Q=>∃z i c,x=.str z/\y=.int i/\z.length<=GD/\atI z.cps.toList i=some c/\Q (.str ⟨#[c]⟩) H
theorem zl:IxR X (D6 X.K):=by
 intro value slice pins s σ H x y v u Q I rx ry h hs;obtain⟨p,xs,i,z,rfl,rfl,hq,he,q⟩:=h;cases rx;obtain⟨t,rfl⟩:=ry;obtain⟨its,r,pl,hz⟩:=I.list hq;obtain⟨j,h1,h2,h3,h4,h5⟩:=nL he;obtain⟨w,ew,rw'⟩:=r.get h2;have hl:=r.length;have hn:=iY;have fin:EP X pins σ Q w s:=⟨z,H,I,rw',q⟩;by_cases h0:0<=i
 ·have hj:i.toNat=j:=by rw[seqIndex_of h0 h5]at h1;exact Option.some.inj h1
  exact item_listR pl.isList h0 (by omega) (by rw[hj];simpa using ew) fin hs
 ·have hj:(i+(its.toArray.size:Int)).toNat=j:=by rw[seqIndex_neg (by omega) h4]at h1;rw[GJ,<-hl];exact Option.some.inj h1
  exact subscriptTail_builtinR (x:=w) pl.isList.typeIs slot_list_getitem.lookup (wpAny_getItem_list_neg (Q:=fun r s'=>r=w/\EP X pins σ Q r s') pl.isList (by omega) (by rw[GJ]<;>omega) (by omega) (by rw[hj];simpa using ew) ⟨rfl,fin⟩) hs
theorem Dg:IxR X (D8 X.K):=by intro value slice pins s σ H x y v u Q I rx ry h hs;obtain⟨p,xs,i,z,rfl,rfl,hq,he,q⟩:=h;cases rx;obtain⟨t,rfl⟩:=ry;obtain⟨its,r,pl,hz⟩:=I.tuple hq;obtain⟨j,h1,h2,h3,h4,h5⟩:=nL he;obtain⟨w,ew,rw'⟩:=r.get h2;have hl:=r.length;have hn:=iY;have fin:EP X pins σ Q w s:=⟨z,H,I,rw',q⟩;exact subscriptTail_builtinR (x:=w) pl.typeIs slot_tuple_getitem.lookup (getItem_tuple (j:=j) (Q:=fun r s'=>r=w/\EP X pins σ Q r s') pl (by omega) (by omega) (by rw[GJ,<-hl];exact h1) (by simpa using ew) ⟨rfl,fin⟩) hs
theorem BC:IxR X DP:=by
 intro value slice pins s σ H x y v u Q I rx ry h hs;obtain⟨z,i,c,rfl,rfl,hz,he,q⟩:=h;obtain⟨t,rfl⟩:=rx;obtain⟨t',rfl⟩:=ry;obtain⟨j,h1,h2,h3,h4,h5⟩:=nL he;have hl:z.cps.toList.length=z.length:=by simp[Str.length]
 rw[hl]at h1 h4 h5;have hn:=iY
 exact tail_any (typeIs_str s z t) slot_str_getitem.lookup (getItem_str (c:=c) (by
  have e1:decide (i < -(2^63:Int))=false:=decide_eq_false (by omega)
  have e2:decide (i≥2^63)=false:=decide_eq_false (by omega)
  rw[e1,e2,Bool.or_false]) (by rw[h1];simpa using h2) ⟨.str ⟨#[c]⟩,H,I.tok _,⟨_,rfl⟩,q⟩) hs
def rIx(K:G5):R2:=fun x y H Q=>D6 K x y H Q\/D8 K x y H Q\/DP x y H Q
theorem Dm:IxR X (rIx X.K):=zl.or (Dg.or BC)
theorem rV(its:List G0)(n j:Nat)(u:G0):Obj.mapSeq (·.setIfInBounds j u) { cls:=.type "list",data:=.seq its.toArray n }={ cls:=.type "list",data:=.seq (its.set j u).toArray n }:=by simp[Obj.mapSeq]
theorem Inv.lst{pins:List (Addr×Obj)}{σ:St}{H:Hp}{s:G6}{p:Addr}{xs:List V}(I:Inv X pins σ H s)(h:H p=some (.lst xs)) : ∃(its:List G0) (n:Nat),Vals xs its/\s.heap.get? p=some { cls:=.type "list",data:=.seq its.toArray n }/\xs.length<=GD:=by obtain⟨z,its,n,r,e⟩:=I.hok p _ h;exact⟨its,n,r,e,z⟩
theorem Inv.B1{pins:List (Addr×Obj)}{σ:St}{H:Hp}{s:G6}{p:Addr}{xs ys:List V}{its its':List G0}{n n':Nat}{f:Obj->Obj}(I:Inv X pins σ H s)(h:H p=some (.lst xs))
 (ho:s.heap.get? p=some { cls:=.type "list",data:=.seq its.toArray n }) (hf:f { cls:=.type "list",data:=.seq its.toArray n }={ cls:=.type "list",data:=.seq its'.toArray n' }) (r:Vals ys its') (hz:ys.length<=GD) (t:Nat) :
 Inv X pins σ (upd H p (.lst ys)) { s with heap:=s.heap.update p f,toks:=t }:=by
 have e:(s.heap.update p f).get? p=some { cls:=.type "list",data:=.seq its'.toArray n' }:=by
  rw[HZ f ho (by rw[hf]<;>rfl),hf]
 refine I.write (x:=p) (e:=p) (by rw[h];trivial) (.inl rfl) (fun b u hb q=>(Hl _ _ (Ne.symm hb)).trans q) ⟨_,e⟩ ?_
 exact⟨hz,its',n',r,e⟩
def EG:V->V->V->Hp->(Hp->Prop)->Prop:=fun o i v H Q=>∃p xs k j,o=.ref p/\i=.int k/\H p=some (.lst xs)/\ixN xs.length k=some j/\Q (upd H p (.lst (xs.set j v)))
theorem set_list:Ft X EG:=by
 intro pins s σ H o i v ov iv u Q I ro ri rv h;obtain⟨p,xs,k,j,rfl,rfl,hp,hj,q⟩:=h;cases ro;obtain⟨t,rfl⟩:=ri;obtain⟨its,n,r,ho,hz⟩:=I.lst hp;obtain⟨h1,h2,h3,h4⟩:=tj hj;have hl:=r.length;have hn:=iY;have I':Inv X pins σ (upd H p (.lst (xs.set j v))) { s with heap:=s.heap.update p (Obj.mapSeq (·.setIfInBounds j u)) }:=I.B1 hp ho (rV its n j u) (r.set rv j) (by rw[List.length_set];exact hz) s.toks;by_cases h0:0<=k
 ·have hk:k.toNat=j:=by rw[seqIndex_of h0 h4]at h1;exact Option.some.inj h1
  exact PySem.W.ki_setAt ho h0 (by omega) (by rw[GJ,<-hl];exact h4) (by rw[hk];exact⟨_,I',q⟩)
 ·have hk:(k+(its.toArray.size:Int)).toNat=j:=by rw[seqIndex_neg (by omega) h3]at h1;rw[GJ,<-hl];exact Option.some.inj h1
  exact PySem.W.ki_setBack ho (by omega) (by rw[GJ,<-hl];exact h3) (by omega) (by rw[hk];exact⟨_,I',q⟩)
theorem nK(lo hi:Option Int)(n:Nat):(sliceBounds lo hi none n).1=((HT.sIx n 0 lo:Nat):Int)/\(sliceBounds lo hi none n).2.1=((HT.sIx n n hi:Nat):Int)/\(sliceBounds lo hi none n).2.2=1:=by
 refine⟨?_,?_,rfl⟩
 ·cases lo with
  |none=>simp[sliceBounds,HT.sIx]
  |some i=>
   simp only[sliceBounds,HT.sIx,Option.getD_none,show(1:Int)>0 by decide,if_true]
   by_cases h:i<0
   ·simp only[h,if_true]<;>omega
   ·simp only[h,if_false]<;>omega
 ·cases hi with
  |none=>simp[sliceBounds,HT.sIx]
  |some i=>
   simp only[sliceBounds,HT.sIx,Option.getD_none,show(1:Int)>0 by decide,if_true]
   by_cases h:i<0
   ·simp only[h,if_true]<;>omega
   ·simp only[h,if_false]<;>omega
theorem lZ(its:List G0)(lo hi:Option Int):slicePick its.toArray lo hi none=((its.drop (HT.sIx its.length 0 lo)).take (HT.sIx its.length its.length hi-HT.sIx its.length 0 lo)).toArray:=by obtain⟨h1,h2,h3⟩:=nK lo hi its.toArray.size;unfold slicePick;rw[h1,h2,h3];simp only[sliceRange_one,pick_run,GJ]<;>rfl
def FQ(K:G5):V->Option Int->Option Int->Hp->VK->Prop:=fun x lo hi H Q=>∃a xs,x=.ref a/\SqL K H a xs/\∀p,H p=none->Q (.ref p) (upd H p (.lst (pW xs lo hi)))
theorem Ai:SlR X (FQ X.K):=by intro pins s σ H x v vl vu lo hi sl Q I rx hs pl pu h;obtain⟨a,xs,rfl,hx,q⟩:=h;cases rx;obtain⟨its,r,ht,hz⟩:=I.list hx;have hlen:=r.length;refine⟨"list",_,slot_list_getitem.lookup,ht.isList.typeIs,?_⟩;refine wpAny_getItem_list_slice ht.isList hs pl pu .none (by simp) ?_ (by rw[GJ]<;>omega);rw[lZ,<-hlen];refine⟨.ref s.heap.objs.size,_,I.laid (t':=s.toks) (o:=.lst (pW xs lo hi)) (fun b ob q=>G9 _ q) (Gq _) ?_,rfl,q _ (I.hok.fresh (Gq _))⟩;exact⟨HF (jx xs lo hi) hz,_,0,(r.drop (HT.sIx xs.length 0 lo)).take (HT.sIx xs.length xs.length hi-HT.sIx xs.length 0 lo),Gv _ rfl⟩
theorem nJ:cu X (.builtin "len") (fun xs H Q=>∃p ys,xs=[.ref p]/\(SqL X.K H p ys\/SqT X.K H p ys)/\Q (.int ys.length) H):=by
 intro pins s σ H xs us Q I r h;obtain⟨p,ys,rfl,hq,q⟩:=h;obtain⟨u,rfl,rx⟩:=vals1 r;cases rx;have hn:=iY;rcases hq with hq|hq
 ·obtain⟨its,r',pl,hz⟩:=I.list hq;have hlen:=r'.length;exact Calls.call_len_list pl.isList (by simp only[GJ]<;>omega) ⟨.int ys.length,H,I.tok _,⟨s.toks+1,by rw[GJ,hlen]⟩,q⟩
 ·obtain⟨its,r',pl,hz⟩:=I.tuple hq;have hlen:=r'.length;exact len_tuple pl (by simp only[GJ]<;>omega) ⟨.int ys.length,H,I.tok _,⟨s.toks+1,by rw[GJ,hlen]⟩,q⟩
theorem cu.or{f:G0}{r r':List V->Hp->VK->Prop}(h:cu X f r)(h':cu X f r'):cu X f (fun xs H Q=>r xs H Q\/r' xs H Q):=by
 intro pins s σ H xs us Q I rs q;rcases q with q|q
 ·exact h pins s σ H xs us Q I rs q
 ·exact h' pins s σ H xs us Q I rs q
theorem nF:cu X (.type "list") (fun xs H Q=>∃p ys,xs=[.ref p]/\(SqL X.K H p ys\/SqT X.K H p ys)/\∀l,H l=none->Q (.ref l) (upd H l (.lst ys))):=by
 intro pins s σ H xs us Q I r h;obtain⟨p,ys,rfl,hq,q⟩:=h;obtain⟨u,rfl,rx⟩:=vals1 r;cases rx;have fin:∀(its:List G0),Vals ys its->ys.length<=GD->∀(h':Heap) (c':Nat),(∀b o',s.heap.get? b=some o'->h'.get? b=some o')->h'.get? s.heap.objs.size=some { cls:=.type "list",dict:=none,data:=.seq its.toArray c',slots:=#[] }->EP X pins σ Q (.ref s.heap.objs.size) { s with heap:=h' }:=fun its r' hz h' c' kp e=>⟨.ref s.heap.objs.size,_,I.laid (t':=s.toks) kp (Gq _) (show cn X.prog X.w _ h' _ (.lst ys)from⟨hz,its,c',r',e⟩),rfl,q _ (I.hok.fresh (Gq _))⟩;rcases hq with hq|hq
 ·obtain⟨its,r',pl,hz⟩:=I.list hq;have hlen:=r'.length;obtain⟨o,ho,hc,n,hd⟩:=pl.isList;exact call_list_seq p (.inl rfl) ho hc hd (fun h' c' kp e=>fin its r' hz h' c' kp e) (by simp only[GJ]<;>omega)
 ·obtain⟨its,r',pl,hz⟩:=I.tuple hq;have hlen:=r'.length;obtain⟨o,ho,hc,n,hd⟩:=pl;exact call_list_seq p (.inr rfl) ho hc hd (fun h' c' kp e=>fin its r' hz h' c' kp e) (by simp only[GJ]<;>omega)
theorem mi:cu X (.type "tuple") (fun xs H Q=>∃p ys,xs=[.ref p]/\((SqL X.K H p ys/\∀l,H l=none->Q (.ref l) (upd H l (.tup ys)))\/(SqT X.K H p ys/\Q (.ref p) H))):=by
 intro pins s σ H xs us Q I r h;obtain⟨p,ys,rfl,h⟩:=h;obtain⟨u,rfl,rx⟩:=vals1 r;cases rx;rcases h with⟨hq,q⟩|⟨hq,q⟩
 ·obtain⟨its,r',pl,hz⟩:=I.list hq;have hlen:=r'.length;refine call_tuple_list pl.isList (fun h' kp=>?_) (by simp only[GJ]<;>omega);have I1:Inv X pins σ H { s with heap:=h' }:=I.kept (t':=s.toks) kp;have I2:Inv X pins σ (upd H h'.objs.size (.tup ys)) { s with heap:=h'.push { cls:=.type "tuple",data:=.seq its.toArray } }:=I1.laid (t':=s.toks) (fun b o e=>G9 _ e) (Gq _) (show cn X.prog X.w _ _ _ (.tup ys)from⟨hz,its,r',IsTup.new _ _,NoD.new _ _⟩);exact⟨.ref h'.objs.size,_,I2,rfl,q _ (I1.hok.fresh (Gq _))⟩
 ·obtain⟨its,r',pl,hz⟩:=I.tuple hq;exact call_tuple_same pl ⟨.ref p,H,I,rfl,q⟩
def tyV(K:G5)(T:String)(x:V)(H:Hp):Prop:=match x with
 |.str _=>T="str"
 |.int _=>T="int"
 |.ref p=>(T="list"/\∃xs,SqL K H p xs)\/(T="tuple"/\∃o,K.lookup p=some o/\o.cls=.type "tuple"/\o.dict=none)\/
  (T="dict"/\((∃kvs,H p=some (.dK kvs))\/∃kvs,H p=some (.dT kvs)))\/(T="set"/\∃S n,H p=some (.set S n))
 |_=>False
theorem B6{pins:List (Addr×Obj)}{σ:St}{H:Hp}{s:G6}{T:String}{x:V}{v:G0}(I:Inv X pins σ H s)(r:RelV x v)(ty:tyV X.K T x H) : s.TypeIs v T/\∀a,v=.ref a->∃ob,s.heap.get? a=some ob/\ob.dict=none:=by
 cases x with
 |str z=>
  obtain⟨t,rfl⟩:=r
  cases (show T="str" from ty)
  exact⟨typeIs_str s z t,fun _ e=>nomatch e⟩
 |int i=>
  obtain⟨t,rfl⟩:=r
  cases (show T="int" from ty)
  exact⟨typeIs_int s i t,fun _ e=>nomatch e⟩
 |ref p=>
  cases r
  rcases ty with⟨rfl,xs,hq⟩|⟨rfl,o,hk,hc,hd⟩|⟨rfl,hk⟩|⟨rfl,S,n,hk⟩
  ·obtain⟨its,_,pl,_⟩:=I.list hq;refine⟨pl.isList.typeIs,fun a e=>?_⟩;cases e;obtain⟨o,n,e,c,hd,_⟩:=pl;exact⟨o,e,hd⟩
  ·refine⟨⟨o,I.kIn p o hk,hc⟩,fun a e=>?_⟩;cases e;exact⟨o,I.kIn _ o hk,hd⟩
  ·have z:∃o,s.heap.get? p=some o/\o.ExactDict:=by
    rcases hk with⟨kvs,hk⟩|⟨kvs,hk⟩
    ·obtain⟨_,_,_,_,o,_,_,e,ex,_⟩:=I.hok p _ hk;exact⟨o,e,ex⟩
    ·obtain⟨_,_,_,_,o,_,_,e,ex,_⟩:=I.hok p _ hk;exact⟨o,e,ex⟩
   obtain⟨o,e,ex⟩:=z;refine⟨⟨o,e,ex.1⟩,fun a e2=>?_⟩;cases e2;exact⟨o,e,ex.2.1⟩
  ·obtain⟨o,_,_,_,e,ex,_⟩:=I.hok p _ hk;refine⟨⟨o,e,ex.1⟩,fun a e2=>?_⟩;cases e2;exact⟨o,e,ex.2.1⟩
 |_=>exact JD ty
def tBM(K:G5)(T:String)(r:V->List V->Hp->VK->Prop)(to:TE)(t:TA):TE:=fun σ H Q=>to σ H fun x H1=>tyV K T x H1/\t σ H1 fun xs H2=>r x xs H2 Q
variable{o e:Expr}{es:List Expr}{to:TE}{t:TA}{name:Str}{apos a9:Pos}{T id:String}{r:V->List V->Hp->VK->Prop}
theorem AN(pa:PlainAttrs T)(slot:Slot T name id)(hty:typeOf (.builtin id)=pure (.type "method_descriptor"))(hm:MtR X id r)(ho:PE X o to)(ha:PA X (e::es) t)
 (hbase:attributeBase o name X.env (eval o X.env)=eval o X.env:=by rfl)
 (hfew:((Ij a9 (GH (e::es) X.env)).all (fun x=>!x.1)&&(backToKw a9 (Jm [] X.env)).all (fun x=>x.1.isSome)
  && decide ((e::es).length+([]:List Keyword).length+(if([]:List Keyword).isEmpty then 0 else 1)<30))=true:=by rfl)
 (hline:(apos.endLine==a9.line)=true:=by rfl) (hs:GH (e::es) X.env=(false,eval e X.env)::GH es X.env:=by rfl) (hplain:(Ij a9 (GH es X.env)).any (·.1)=false:=by rfl) :
 PE X (.Call (.Attribute o name apos) (e::es) [] a9) (tBM X.K T r to t):=by
 intro pins s σ H Q I h
 refine wpAny_Call_method_late hbase hfew hline rfl (thn (ho pins s σ H _ I h) fun v s1 zz69_0=>?_)
 obtain⟨x,H1,I1,r1,ty,q1⟩:=zz69_0
 obtain⟨h1,h2⟩:=B6 I1 r1 ty
 refine⟨T,id,pa,slot,hty,h1,h2,?_⟩
 have hA:=ha a9 pins s1 σ H1 _ I1 q1
 rw[hs]at hA ⊢
 refine Calls.callWith_builtin (by show(false||(Ij a9 (GH es X.env)).any (·.1))=false;rw[hplain]<;>rfl) (Calls.evalArgs_plain ?_)
 exact thn hA fun us s2 zz70_0=>by obtain⟨vs,H2,I2,r2,q2⟩:=zz70_0;exact(hm pins s2 σ H2 x vs v us Q I2 r1 r2 q2)
/- xs.append(e),list.index on a module's tuple .. are MtR facts of 06m -/
end
def MtM(X:Cx)(id:String)(r:V->List V->Hp->VK->Prop):Prop:=
 ∀(pins:List (Addr×Obj)) (s:G6) (σ:St) (H:Hp) (x:V) (xs:List V) (v:G0) (us:List G0) (Q:VK),Inv X pins σ H s->RelV x v->Vals xs us->r x xs H Q->
  Gw (GG X.prog X.w) X.A (call (.builtin id) (v::us)) (EP X pins σ Q) X.xe s
theorem Vals.one:∀{x:V} {us:List G0},Vals [x] us->∃u,us=[u]/\RelV x u
 |_,_,.cons r .nil=>⟨_,rfl,r⟩
theorem Vals.two:∀{x y:V} {us:List G0},Vals [x,y] us->∃u v,us=[u,v]/\RelV x u/\RelV y v
 |_,_,_,.cons r (.cons q .nil)=>⟨_,_,rfl,r,q⟩
theorem Vals.rep{xs:List V}{us:List G0}(h:Vals xs us):∀k:Nat,Vals (GZ k xs).flatten (GZ k us).flatten
 |0=>.nil
 |k+1=>by
  rw[Ii,Ii,Jn,Jn]
  exact Vals.append h (Vals.rep h k)
theorem foldl_rep(its:List G0):∀(k:Nat) (acc:List G0),
 List.foldl (fun x1 x2=>x1++x2) acc.toArray (GZ k its.toArray)=(acc++(GZ k its).flatten).toArray
 |0,acc=>by simp
 |k+1,acc=>by
  have e:acc.toArray++its.toArray=(acc++its).toArray:=by simp
  have e2:(acc++its)++(GZ k its).flatten=acc++(GZ (k+1) its).flatten:=by
   rw[Ii,Jn,Jo]
  rw[<-e2,<-foldl_rep its k (acc++its),<-e,Ii,Ji]
section
variable{X:Cx}{pins:List (Addr×Obj)}{σ:St}{H:Hp}{s:G6}{l b:Addr}{xs ys zs:List V}
theorem Inv.Fc{its its':List G0}{n:Nat}{f:Array G0->Array G0}{t':Nat}(I:Inv X pins σ H s)(hH:H l=some (.lst xs))
 (e:s.heap.get? l=some { cls:=.type "list",data:=.seq its.toArray n }) (hf:f its.toArray=its'.toArray) (hv:Vals ys its') (hz:ys.length<=GD) :
 Inv X pins σ (upd H l (.lst ys)) { s with heap:=s.heap.update l (Obj.mapSeq f),toks:=t' }:=by
 have q:=PySem.IsL.update e f
 rw[hf]at q
 refine I.write (x:=l) (e:=l) (by rw[hH];exact trivial) (.inl rfl) (fun b' u hb hu=>(Hl s.heap (Obj.mapSeq f) (Ne.symm hb)).trans hu) ⟨_,q⟩ ?_
 exact⟨hz,its',_,hv,q⟩
theorem Inv.Eb{its:List G0}{t':Nat}(I:Inv X pins σ H s)(hv:Vals ys its)(hz:ys.length<=GD) : Inv X pins σ (upd H s.heap.objs.size (.lst ys)) { s with heap:=s.heap.push { cls:=.type "list",data:=.seq its.toArray },toks:=t' }:=I.laid (fun _ _ q=>G9 _ q) (Gq _) ⟨hz,its,0,hv,Gv _ rfl⟩
theorem Inv.fresh(I:Inv X pins σ H s):H s.heap.objs.size=none:=I.hok.fresh (Gq _)
theorem Inv.pN(I:Inv X pins σ H s)(hH:H l=some (.lst xs)):xs.length<=GD/\∃(its:List G0) (n:Nat),Vals xs its/\xs.length=its.length/\s.heap.get? l=some { cls:=.type "list",data:=.seq its.toArray n }:=by obtain⟨z,its,n,r,e⟩:=I.hok l _ hH;exact⟨z,its,n,r,r.length,e⟩
theorem wO{n:Nat}(h:n<=GD):Builtin.List.listTooLong n=false:=by unfold Builtin.List.listTooLong;exact decide_eq_false (by omega)
end
section
variable{X:Cx}
def zf:V->List V->Hp->VK->Prop:=fun x vs H Q=>∃l xs y,x=.ref l/\vs=[y]/\H l=some (.lst xs)/\xs.length<GD/\Q .non (upd H l (.lst (xs++[y])))
theorem jb:MtM X "list.append" zf:=by intro pins s σ H x vs v us Q I rx rv h;obtain⟨l,xs,y,rfl,rfl,hH,hz,q⟩:=h;cases rx;obtain⟨u,rfl,ru⟩:=rv.one;obtain⟨z,its,n,r,hl,e⟩:=I.pN hH;refine call_meets F.slot_list_append ⟨_,e,rfl⟩ F.entry_list_append (F.args_list_append_2 _ _) (PySem.list_append l its.toArray n u (by rw[GJ];omega)) ⟨e,?_⟩;refine⟨.non,_,I.Fc (its':=its++[u]) hH e (by simp) (r.append (.cons ru .nil)) ?_,rfl,q⟩;rw[Ir,List.length_singleton];omega
def F5:R2:=fun x y H Q=>∃l b xs zs,x=.ref l/\y=.ref b/\H l=some (.lst xs)/\H b=some (.lst zs)/\xs.length+zs.length<=GD/\∀p,H p=none->Q (.ref p) (upd H p (.lst (xs++zs)))
theorem CC:OpR X (IF .Add) F5:=by
 intro pins s σ H x y v u Q I rx ry h;obtain⟨l,b,xs,zs,rfl,rfl,hH,hB,hz,q⟩:=h;cases rx;cases ry;obtain⟨z,its,n,r,hl,e⟩:=I.pN hH;obtain⟨z2,its2,n2,r2,hl2,e2⟩:=I.pN hB;refine PySem.P.add_list e e2 ?_ (by rw[GJ,GJ];omega);have ea:its.toArray++its2.toArray=(its++its2).toArray:=by simp
 rw[ea];exact⟨.ref _,_,I.Eb (t':=s.toks) (r.append r2) (by rw[Ir];omega),rfl,q _ I.fresh⟩
def Gb:R2:=fun x y H Q=>∃l k xs,x=.ref l/\y=.int k/\H l=some (.lst xs)/\-(2^63)<=k/\k<2^63/\xs.length*k.toNat<=GD/\
 ∀p,H p=none->Q (.ref p) (upd H p (.lst (GZ k.toNat xs).flatten))
theorem len_rep{α:Type}(xs:List α)(k:Nat):(GZ k xs).flatten.length=k*xs.length:=by
 induction k with
 |zero=>simp
 |succ k ih=>rw[Ii,Jn,Ir,ih,Nat.succ_mul,Nat.add_comm]
theorem A7:OpR X (IF .Mult) Gb:=by
 intro pins s σ H x y v u Q I rx ry h;obtain⟨l,k,xs,rfl,rfl,hH,h1,h2,hz,q⟩:=h;cases rx;obtain⟨t,rfl⟩:=ry;obtain⟨z,its,n,r,hl,e⟩:=I.pN hH;have hlen:its.toArray.size*k.toNat<=GD:=by rw[GJ,<-hl];exact hz
 have hcap:¬its.toArray.size*k.toNat>(2^63-1)/8:=by
  have:(GD:Nat)<=(2^63-1)/8:=by decide
  omega
 have hfit:¬(!Builtin.List.listFitsIndex k)=true:=by rw[fitsIndex_both h1 h2];exact GA
 have hlong:¬Builtin.List.listTooLong (its.toArray.size*k.toNat)=true:=by rw[wO hlen];exact GA
 have hnew:List.foldl (fun x1 x2=>x1++x2) #[] (GZ (if its.toArray.isEmpty=true then 0 else k.toNat) its.toArray)=(GZ k.toNat its).flatten.toArray:=by
  have f0:∀m:Nat,List.foldl (fun x1 x2=>x1++x2) #[] (GZ m its.toArray)=(GZ m its).flatten.toArray:=fun m=>by
   have:=foldl_rep its m []
   rw[List.nil_append]at this
   exact this
  rw[f0]
  cases its with
  |nil=>simp
  |cons a r'=>rw[if_neg (by simp)]
 refine wpAny_binaryOp_repeat_ref (T:="list") (U:="int") (by decide) ⟨_,e,rfl⟩ (fun s'=>typeIs_int s' k t) noFill_list_mul F.fills_int_mul F.slot_int_rmul repeat_list F.slot_int_index.lookup
  (call_meets F.slot_int_rmul (typeIs_int s k t) F.entry_int_rmul (F.args_int_rmul_2 _ _) (int___rmul___int_list k t l its.toArray n)
   ⟨e,rfl,⟨_,e,rfl⟩,call_meets F.slot_list_mul ⟨_,e,rfl⟩ F.entry_list_mul (F.args_list_mul_2 _ _) (AutoListH.list___mul___list_int_3 l its.toArray n k t hfit hcap hlong) ⟨e,?_⟩⟩)
 rw[hnew];exact⟨.ref _,_,I.Eb (t':=s.toks) (r.rep k.toNat) (by rw[len_rep,Nat.mul_comm];exact hz),rfl,q _ I.fresh⟩
end
end L2
namespace Att
open PySem PySem.W PySem.Calls PyProof.Rows
theorem jE{P:H0}{h:Heap}:∀(ns:List Int) (vs:List G0),WellAll P h vs (ns.map WData.int)->Im vs ns:=by
 intro ns
 induction ns with
 |nil=>
  intro vs w
  rw[Ig]at w
  cases w
  exact .nil
 |cons n ns ih=>
  intro vs w
  rw[Gs]at w
  cases w with
  |cons a b=>
   cases a
   exact .cons _ _ (ih _ b)
theorem uD{l:OpenLaw}{n:Nat}(hn:l.most=some n){P:H0}{h:Heap}{args:List WData}{vals:List G0}
 (hpre:l.row.toRowW.claim.pre args=true) (hwl:WellAll P h vals args) :
 ∃a vs ns,vals=[HS a]/\args=[WData.list (ns.map WData.int)]/\h.get? a=some { cls:=.type "list",data:=.seq vs.toArray }/\Im vs ns/\ns.length<=n:=by
 have hsh:WShape.hasAll [] args [.list .int]=true:=(pre_splitW hpre).1
 have hc:l.pre.holds [] { args:=args }=true:=(pre_splitW hpre).2
 obtain⟨d,r,rfl,h1,h2⟩:=hasAllW_cons hsh
 obtain rfl:=hasAllW_nil h2
 obtain⟨xs,rfl,h3⟩:=hasW_list h1
 obtain⟨ns,rfl⟩:=items_int h3
 have hlen:ns.length<=n:=by
  unfold OpenLaw.pre at hc
  have h4:(WTm.not (.lt (.lit (.int (n:Int))) (.len (.arg 0)))).holds [] { args:=[.list (ns.map .int)] }=true:=by
   have h4:=(holds_andW hc).1
   rw[hn]at h4
   exact h4
  have h5:=condW_of h4 (w_not (w_lt w_lit (w_len_list (w_arg rfl))))
  rw[Gx]at h5
  refine Nat.le_of_not_lt fun q=>?_
  have q':(n:Int)<((ns.length:Nat):Int):=by omega
  first
   |(rw[decide_eq_true q']at h5;exact absurd h5 (by decide))
   |(simp at h5;omega)
 cases hwl with
 |cons w1 w2=>
  cases w2
  cases w1 with
  |list ho hall=>exact⟨_,_,ns,rfl,rfl,ho,jE ns _ hall,hlen⟩
theorem uf(l:OpenLaw)(args:List WData):l.row.toRowW.claim.post args (.bool true) args=true:=
 postW_of (r:=l.row.toRowW) (X:=(true==true))
  (show WShape.has [] (.bool true) .bool=true by first|rfl|decide|simp[WShape.has,WShape.arms,WShape.armsAll])
  (show(WTm.eq .res (.lit (.bool true))).value [] { args:=args,res:=some (.bool true),after:=args }=some (.bool (true==true))from w_eq_bool (w_res rfl) w_lit) rfl
theorem pF{l:OpenLaw}{n:Nat}{q:GL}{loose:List Str}{XP:(Str->Option G0)->Heap->Prop}{YP:Hk->Heap->Prop}{d:DefRec}
 (hn:l.most=some n) (hdf:d.params.defaults=[])
 (call:∀(w:Hk) (s₀ s₁:G6) (mg mb:Str->Option G0) (fa:Addr) (o:Obj) (pm cd doc:G0) (a:Addr) (vs:List G0) (ns:List Int),
  Ground q loose [] XP w s₀ mg mb s₁.heap->YP w s₁.heap->
  s₁.heap.get? fa=some o->o.data=.func (docDef d.name d.params d.body d.scope pm cd doc)->s₁.heap.CodeRec cd d.name->mg d.name=some (.ref fa)->
  s₁.heap.get? a=some { cls:=.type "list",data:=.seq vs.toArray }->Im vs ns->ns.length<=n->s₁.gens=#[]->
  IQ (GG l.prog w) callerA (.call (.ref fa) ⟨[.ref a],[]⟩) (fun r s'=>r=.ok (.ret (.bool true))/\OldK s₁.heap s'.heap/\s'.os=s₁.os/\AllBare s'.gens) s₁) :
 WalkO q loose XP YP l.row.toRowW d [] (fun f vs=>PySem.call f vs):=by
 intro w s₀ s₁ mg mb G Y fa o pm cd doc dV kV ho hd hcd hD hmg hg args vals as hpre hlay hrd hwl hlo
 obtain rfl:dV=.none:=Dflts.none hD hdf
 obtain rfl:kV=.none:=Dflts.noKw hD
 obtain⟨a,vs,ns,rfl,rfl,hobj,hints,hlen⟩:=uD hn hpre hwl
 refine enter_call (codeAny_mono (call w s₀ s₁ mg mb fa o pm cd doc a vs ns G Y ho (fd_plain hd) hcd hmg hobj hints hlen hg) fun r s' hq=>?_)
 obtain⟨rfl,h2,h3,h4⟩:=hq
 exact⟨.inl ⟨.bool true,.bool true,[],rfl,fun _=>rfl,.bool true,uf l _,fun _=>⟨List.Pairwise.nil,fun _ hm=>(nomatch hm)⟩⟩,h2,h3,h4⟩
section
variable{prog:GL}{w:Hk}{A:Hr}{E:G0->G6->Prop}{s:G6}{K:Frag}
end
end Att
namespace L2
open PySem PySem.Spec PyProof.Rows
theorem mZ:∀{vs:List G0} {ns:List Int},Im vs ns->Vals (ns.map V.int) vs
 |_,_,.nil=>.nil
 |_,_,.cons n t h=>.cons ⟨t,rfl⟩ (mZ h)
def CG(H:Hp):Prop:=∀b,H b=none\/∃o xs,H b=some (.frz o (.lst xs))
theorem vI{P:GL}{w:Hk}{K:G5}{mg mb:Str->Option G0}{CX:CXT}{k:Nat}{fa a:Addr}{fd:JE}{x:Str}{sp:Sp}{s₁:G6}{vs:List G0}{ns:List Int}
 (KX:K.In s₁.heap) (hns:s₁.heap.Ns Jl mg) (hb:s₁.heap.Ns builtinsNs mb) (hbb:∀x:Str,x≠"__name__"->mb x=HL x) (hlim:s₁.heap.NoLimit) (hg:s₁.gens=#[])
 (ha:s₁.heap.get? a=some { cls:=.type "list",data:=.seq vs.toArray }) (hi:Im vs ns) (hl:ns.length<=GD) (hr:Room k callerA)
 (F:∀base:Heap,K.In base->base.Ns Jl mg->FnOk P w K mg base CX k fa fd [x] sp) (hbind:∀(s:G6) (u:G0),BindsTo s fd ⟨[u],[]⟩ [(x,u)])
 (hsp:∀H:Hp,CG H->SqL K H a (ns.map V.int)->sp [.ref a] H (fun v _=>v=.bl true) fun _ _ _=>False)
 (hCX:∀H e s',CX [] H s₁ (fun _ _ _=>False) e s'->False) :
 IQ (GG P w) callerA (.call (.ref fa) ⟨[.ref a],[]⟩) (fun r s'=>r=.ok (.ret (.bool true))/\OldK s₁.heap s'.heap/\s'.os=s₁.os/\AllBare s'.gens) s₁:=by
 have rv:=mZ hi
 have lenV:=hi.length
 have core:∀H:Hp,CG H->SqL K H a (ns.map V.int)->HOk P w H s₁.heap->(∀b,H b≠none->b=a)->(H a≠none->K.lookup a=none)->
  IQ (GG P w) callerA (.call (.ref fa) ⟨[.ref a],[]⟩) (fun r s'=>r=.ok (.ret (.bool true))/\OldK s₁.heap s'.heap/\s'.os=s₁.os/\AllBare s'.gens) s₁:=by
  intro H hO hS hok hA hK
  have base_of:∀{b:Addr} {o:Obj},s₁.heap.get? b=some o->H b=none->(ot s₁.heap H).get? b=some o:=fun e n=>yo e n
  have noA:∀{b:Addr} {o:Obj} {es:Array HM} {ep:Nat},s₁.heap.get? b=some o->o.data=.dict es ep->H b=none:=fun{b o es ep} e d=>by
   cases q:H b with
   |none=>rfl
   |some u=>
    have e':b=a:=hA b (by rw[q];simp)
    subst e'
    rw[ha]at e;cases e
    have d':Data.seq vs.toArray _=Data.dict es ep:=d
    cases d'
  have nsK:∀{b:Addr} {m:Str->Option G0},s₁.heap.Ns b m->(ot s₁.heap H).Ns b m:=fun{b m} zz73_0=>by obtain⟨o,es,ep,e,d,r⟩:=zz73_0;exact(⟨o,es,ep,base_of e (noA e d),d,r⟩)
  have hKb:K.In (ot s₁.heap H):=fun b o e=>base_of (KX b o e) (by
   cases q:H b with
   |none=>rfl
   |some u=>
    have e':b=a:=hA b (by rw[q];simp)
    subst e'
    rw[hK (by rw[q];simp)]at e;cases e)
  have hM:Mod K mg (ot s₁.heap H):=⟨hKb,nsK hns,⟨mb,nsK hb,hbb⟩,let⟨mc,h1,h2⟩:=hlim;⟨mc,nsK h1,h2⟩⟩
  have e0:Env0 P w K mg (ot s₁.heap H) callerA [] s₁ H:=⟨rfl,hM,fun b o e=>zi e,Nat.le_of_eq (uZ _ _),trivial,fun b hb=>absurd (show b∈([]:List Addr)from hb) (by simp),hok,.of_eq hg⟩
  refine codeAny_mono ((F _ hKb (nsK hns)).run callerA [] s₁ H ⟨[.ref a],[]⟩ [.ref a] [.ref a] _ _ hr e0 (hbind s₁ (.ref a)) (.cons rfl .nil) (hsp H hO hS)) fun r s' h=>?_
  cases r with
  |error e=>exact(hCX H e s' h).elim
  |ok fl=>
   cases fl with
   |next=>exact JD h
   |brk=>exact JD h
   |cont=>exact JD h
   |ret u=>
    obtain⟨v,H',os,bare,un,hok',r',q⟩:=h
    have q':v=.bl true:=q
    subst q'
    obtain rfl:u=JB true:=r'
    refine⟨rfl,OldK.of_keep fun b o e=>?_,os,bare⟩
    cases q:H b with
    |none=>exact un.keep b o e q (by intro z;exact absurd (show b∈([]:List Addr)from z) (by simp)) (by simp)
    |some u=>
     rcases hO b with z|⟨ob,xs,z⟩
     ·rw[q]at z;cases z
     ·have z2:=un.frzs b ob _ z
      obtain⟨e1,_⟩:=hok b _ z
      obtain⟨e2,_⟩:=hok' b _ z2
      rw[e]at e1;cases e1
      exact e2
 cases hk:K.lookup a with
 |some o=>
  have e:=KX a o hk
  rw[ha]at e
  cases e
  refine core (fun _=>none) (fun _=>.inl rfl) (.inr ⟨_,vs.toArray,_,hk,rfl,rfl,rfl,by rw[GJ,lenV];exact hl,by simpa using rv⟩) (fun b u z=>by have z':(none:Option HO)=some u:=z;cases z') (fun b z=>absurd rfl z) fun z=>absurd rfl z
 |none=>
  refine core (fun b=>if b=a then some (.frz { cls:=.type "list",data:=.seq vs.toArray } (.lst (ns.map V.int)))else none) (fun b=>?_) (.inl (.inr ⟨{ cls:=.type "list",data:=.seq vs.toArray },if_pos rfl⟩)) (fun b u z=>?_) (fun b z=>?_) fun _=>hk
  ·by_cases hb:b=a
   ·exact .inr ⟨_,_,if_pos hb⟩
   ·exact .inl (if_neg hb)
  ·by_cases hb:b=a
   ·have z':=(if_pos hb).symm.trans z
    cases z'
    subst hb
    exact⟨ha,by rw[Gx];exact hl,vs,_,rv,ha⟩
   ·have z':=(if_neg hb).symm.trans z
    cases z'
  ·by_cases hb:b=a
   ·exact hb
   ·exact absurd (if_neg hb) z
abbrev KOf{K:G5}{h:Heap}(_:K.In h):G5:=K
theorem Ab{l:PySem.W.OpenLaw}{n k:Nat}{q:GL}{loose:List Str}{XP:(Str->Option G0)->Heap->Prop}{YP:Hk->Heap->Prop}{d:DefRec}{K:H0->G5}{CX:Hk->CXT}{sp:Hk->Sp}{x:Str}
 (hn:l.most=some n) (hn2:n<=GD) (hdf:d.params.defaults=[]) (hr:Room k callerA)
 (hY:∀(w:Hk) (h:Heap),YP w h->(K w.params).In h)
 (F:∀(w:Hk) (mg:Str->Option G0) (fa:Addr) (h:Heap),(K w.params).In h->h.Ns Jl mg->mg d.name=some (.ref fa)->
  ∃fd:JE,(∀(s:G6) (u:G0),BindsTo s fd ⟨[u],[]⟩ [(x,u)])/\
   ∀base:Heap,(K w.params).In base->base.Ns Jl mg->FnOk l.prog w (K w.params) mg base (CX w) k fa fd [x] (sp w))
 (hsp:∀(w:Hk) (H:Hp) (a:Addr) (ns:List Int),ns.length<=n->CG H->SqL (K w.params) H a (ns.map V.int)->sp w [.ref a] H (fun v _=>v=.bl true) fun _ _ _=>False)
 (hCX:∀(w:Hk) (H:Hp) (s:G6) (e:G0) (s':G6),CX w [] H s (fun _ _ _=>False) e s'->False) :
 PySem.W.WalkO q loose XP YP l.row.toRowW d [] (fun f vs=>PySem.call f vs):=by
 refine Att.pF hn hdf fun w s₀ s₁ mg mb fa o pm cd doc a vs ns G Y ho hd hcd hmg hobj hints hlen hg=>?_
 have KX:=hY w _ Y
 obtain⟨fd,hb,hF⟩:=F w mg fa _ KX G.T.g hmg
 exact vI KX G.T.g G.T.b G.T.builtins G.T.nolimit hg hobj hints (HF hlen hn2) hr hF hb (fun H hO hS=>hsp w H a ns hlen hO hS) fun H e s'=>hCX w H s₁ e s'
def ck(s:Stmt):Arguments:=match s with
 |.FunctionDef _ a _ _ _ _ _ _ _ _=>a
 |_=>{ posonlyargs:=[],args:=[],vararg:=none,kwonlyargs:=[],kw_defaults:=[],kwarg:=none,defaults:=[] }
def aY(s:Stmt):List Stmt:=match s with
 |.FunctionDef _ _ b _ _ _ _ _ _ _=>b
 |_=>[]
def aq(s:Stmt):Ja:=match s with
 |.FunctionDef _ _ _ _ _ _ sc _ _ _=>sc
 |_=>{ kind:=.function,names:=[],isGenerator:=false,isCoroutine:=false }
abbrev CX0:CXT:=fun _ _ _ _ _ _=>False
abbrev E0:XK:=fun _ _ _=>False
theorem EX{X:Cx}:Passes CX0 X E0:=fun _ _ _ _ _ _ _ h=>h.elim
structure Fun(K:G5)(x qual:Str)(st:Stmt)(f:Addr)(fd:JE):Prop where
 ex:∃(oc:G0) (od:Option Addr) (kV doc pm:G0) (an:Option Addr) (cdv ct:G0) (osl:Array (Option G0)),
  fd=Il x qual (ck st) (aY st) (aq st) .none kV doc pm an cdv ct/\K.lookup f=some ⟨oc,od,.func fd,osl⟩/\PySem.W.codeIn K cdv qual=true
 kp:PySem.W.keepIn K (.ref f)=true
section
variable{P:GL}{w:Hk}{K:G5}{mg:Str->Option G0}{base:Heap}
theorem Fun.ok{x qual:Str}{st:Stmt}{f:Addr}{fd:JE}{N ps:List Str}{k:Nat}{sp:Sp}(F:Fun K x qual st f fd)(S:FnScope N ps (aq st))(len:∀vs H Q E,sp vs H Q E->vs.length=ps.length)
 (hbody:∀(cdv:G0) (A:Hr) (outer:List Env) (s:G6) (H:Hp) (vs:List V) (Q:VK) (E:XK),Room k (A.deeper (envOfC qual (aq st) s.heap.objs.size f cdv))->sp vs H Q E->
  ∃t,PSs (i8 CX0 P w K mg base N qual (aq st) f cdv A outer s H E).nox (aY st) t/\t { nx:=fun _ H'=>Q .non H',rt:=Q } (start N vs) H):FnOk P w K mg base CX0 (k+1) f fd ps sp:=by
 obtain⟨oc,od,kV,doc,pm,an,cdv,ct,osl,rfl,lk,hcd⟩:=F.ex
 refine Eo lk hcd S len fun A outer s H vs Q E hr hsp=>?_
 obtain⟨t,h,q⟩:=hbody cdv A outer s H vs Q E hr hsp
 exact⟨t,h.nox,q⟩
theorem Fun.binds{x qual:Str}{st:Stmt}{f:Addr}{fd:JE}{ps:List Str}(F:Fun K x qual st f fd) (h:∀(kV doc pm:G0) (an:Option Addr) (cdv ct:G0) (us:List G0),us.length=ps.length->bindArgs (Il x qual (ck st) (aY st) (aq st) .none kV doc pm an cdv ct) ⟨us,[]⟩=pure (ps.zip us)):Binds K fd ps []:=by obtain⟨oc,od,kV,doc,pm,an,cdv,ct,osl,rfl,lk,hcd⟩:=F.ex;exact .all (h kV doc pm an cdv ct)
theorem A3{x qual:Str}{st:Stmt}{f:Addr}{oc:G0}{od an:Option Addr}{osl:Array (Option G0)}{kV doc pm cdv ct:G0}(l:K.lookup f=some ⟨oc,od,.func (Il x qual (ck st) (aY st) (aq st) .none kV doc pm an cdv ct),osl⟩) (c:PySem.W.codeIn K cdv qual=true) (k:PySem.W.keepIn K (.ref f)=true):Fun K x qual st f (Il x qual (ck st) (aY st) (aq st) .none kV doc pm an cdv ct):=⟨⟨oc,od,kV,doc,pm,an,cdv,ct,osl,rfl,l,c⟩,k⟩
end
theorem CU{A B:Prop}(h:A):if true=true then A else B:=by rw[if_pos rfl];exact h
theorem b6{c A B:Prop}[Decidable c](h1:c->A)(h2:¬c->B):if c then A else B:=by
 by_cases h:c
 ·rw[if_pos h];exact h1 h
 ·rw[if_neg h];exact h2 h
section
variable{κ:Type}[DecidableEq κ]
def eC(kvs:List (κ×V))(k:κ):Option V:=(kvs.find? fun kv=>decide (kv.1=k)).map (·.2)
def putK(kvs:List (κ×V))(k:κ)(v:V):List (κ×V):=
 if(kvs.any fun kv=>decide (kv.1=k))=true then kvs.map (fun kv=>if kv.1=k then(kv.1,v)else kv)else kvs++[(k,v)]
theorem bU{p:κ×V}{r:List (κ×V)}{k:κ}(e:p.1=k):eC (p::r) k=some p.2:=by simp[eC,Ha,e]
theorem bX{p:κ×V}{r:List (κ×V)}{k:κ}(e:¬p.1=k):eC (p::r) k=eC r k:=by simp[eC,Ha,e]
theorem dF(k:κ):∀kvs:List (κ×V),(kvs.any fun kv=>decide (kv.1=k))=(eC kvs k).isSome
 |[]=>rfl
 |p::r=>by
  rw[J1]
  by_cases e:p.1=k
  ·simp only[bU e,decide_eq_true e,Bool.true_or,Option.isSome_some]
  ·rw[bX e,decide_eq_false e,Bool.false_or];exact dF k r
theorem pQ(k j:κ)(y:V):∀kvs:List (κ×V),eC (kvs.map fun kv=>if kv.1=k then(kv.1,y)else kv) j=(eC kvs j).map fun x=>if j=k then y else x
 |[]=>rfl
 |p::r=>by
  have ih:=pQ k j y r
  rw[Gs]
  by_cases h:p.1=k
  ·rw[if_pos h]
   by_cases e:p.1=j
   ·rw[bU (p:=(p.1,y)) e,bU e,Option.map_some,if_pos (e.symm.trans h)]
   ·rw[bX (p:=(p.1,y)) e,bX e,ih]
  ·rw[if_neg h]
   by_cases e:p.1=j
   ·rw[bU (p:=p) e,bU e,Option.map_some,if_neg (fun z=>h (e.trans z))]
   ·rw[bX (p:=p) e,bX e,ih]
theorem mP(k j:κ)(y:V):∀kvs:List (κ×V),eC kvs k=none->eC (kvs++[(k,y)]) j=if j=k then some y else eC kvs j
 |[],_=>by
  by_cases e:k=j
  ·rw[if_pos e.symm];exact bU (p:=(k,y)) e
  ·rw[if_neg (fun z=>e z.symm)];exact bX (p:=(k,y)) e
 |p::r,hn=>by
  rw[List.cons_append]
  have hk:¬p.1=k:=fun z=>by rw[bU z]at hn;cases hn
  rw[bX hk]at hn
  have ih:=mP k j y r hn
  by_cases e:p.1=j
  ·rw[bU e,bU e,if_neg (fun z=>hk (e.trans z))]
  ·rw[bX e,bX e,ih]
theorem x9(kvs:List (κ×V))(k j:κ)(y:V):eC (putK kvs k y) j=if j=k then some y else eC kvs j:=by
 unfold putK;by_cases a:(kvs.any fun kv=>decide (kv.1=k))=true
 ·rw[if_pos a,pQ];rw[dF]at a;by_cases e:j=k
  ·obtain⟨x,hx⟩:=Option.isSome_iff_exists.mp a;rw[if_pos e,e,hx,Option.map_some,if_pos rfl]
  ·rw[if_neg e];cases eC kvs j with
   |none=>rfl
   |some x=>rw[Option.map_some,if_neg e]
 ·rw[if_neg a];refine mP k j y kvs ?_;rw[dF]at a;cases q:eC kvs k with
  |none=>rfl
  |some x=>rw[q]at a;exact(a rfl).elim
theorem fH(kvs:List (κ×V))(k:κ)(v:V):(putK kvs k v).length<=kvs.length+1:=by
 unfold putK;split
 ·rw[Gx];omega
 ·rw[Ir,Hv,Io];omega
theorem uN.iN{o:Option V}{u:Option G0}(r:uN o u):o.isSome=u.isSome:=by
 cases o with
 |none=>cases u with
  |none=>rfl
  |some _=>exact(show False from r).elim
 |some _=>cases u with
  |none=>exact(show False from r).elim
  |some _=>rfl
theorem KV.val{kvs:List (κ×V)}{vs:List (κ×G0)}(r:KV kvs vs)(k:κ):uN (eC kvs k) (valueAt vs k):=by
 unfold KV at r
 induction r with
 |nil=>exact True.intro
 |@cons p q ps qs h t ih=>
  obtain⟨h1,h2⟩:=h
  by_cases e:p.1=k
  ·have e':q.1=k:=h1.symm.trans e;have b:valueAt (q::qs) k=some q.2:=by simp[valueAt,Ha,e']
   rw[bU e,b];exact h2
  ·have e':¬q.1=k:=fun z=>e (h1.trans z);have b:valueAt (q::qs) k=valueAt qs k:=by simp[valueAt,Ha,e']
   rw[bX e,b];exact ih
theorem KV.any{kvs:List (κ×V)}{vs:List (κ×G0)}(r:KV kvs vs)(k:κ):(kvs.any fun kv=>decide (kv.1=k))=vs.any fun kv=>decide (kv.1=k):=by
 unfold KV at r
 induction r with
 |nil=>rfl
 |cons h t ih=>rw[J1,J1,ih,h.1]
theorem KV.CA{kvs:List (κ×V)}{vs:List (κ×G0)}(r:KV kvs vs)(k:κ){y:V}{u:G0}(ry:RelV y u) :
 KV (kvs.map fun kv=>if kv.1=k then(kv.1,y)else kv) (vs.map fun kv=>if kv.1=k then(kv.1,u)else kv):=by
 unfold KV at r ⊢
 induction r with
 |nil=>exact .nil
 |@cons p q ps qs h t ih=>
  rw[Gs,Gs]
  refine .cons ?_ ih
  obtain⟨h1,h2⟩:=h
  by_cases e:p.1=k
  ·rw[if_pos e,if_pos (h1.symm.trans e)];exact⟨h1,ry⟩
  ·rw[if_neg e,if_neg (fun z=>e (h1.trans z))];exact⟨h1,h2⟩
theorem KV.put{kvs:List (κ×V)}{vs:List (κ×G0)}(r:KV kvs vs)(k:κ){y:V}{u:G0}(ry:RelV y u):KV (putK kvs k y) (stored vs k u):=by
 unfold putK stored;rw[r.any k];by_cases e:(vs.any fun kv=>decide (kv.1=k))=true
 ·rw[if_pos e,if_pos e];exact r.CA k ry
 ·rw[if_neg e,if_neg e];exact Paired.snoc r ⟨rfl,ry⟩
theorem KV.length{kvs:List (κ×V)}{vs:List (κ×G0)}(r:KV kvs vs):kvs.length=vs.length:=Paired.length r
end
theorem xf{P:GL}{w:Hk}{k:Key}{u:G0}(r:RelV (kV k) u):(bQ P w).is k u=true:=by
 cases k with
 |inl i=>obtain⟨t,e⟩:=(show ∃t,u=Value.int i t from r);subst e;exact oR P w i t
 |inr x=>obtain⟨t,e⟩:=(show ∃t,u=Value.str x t from r);subst e;exact pI P w x t
theorem mM{P:GL}{w:Hk}:∀{ks:List Key} {us:List G0},Vals (ks.map kV) us->ItemsAre (bQ P w) ks us
 |[],_,r=>by rw[Ig]at r;cases r;exact .nil
 |k::ks,_,r=>by
  rw[Gs]at r
  cases r with
  |cons h t=>exact .cons (xf h) (mM t)
abbrev KT(H:Hp):List (List Key×V)->List (List Key×Addr×G0)->Prop:=JF fun p q=>p.1=q.1/\H q.2.1=some (.tup (p.1.map kV))/\RelV p.2 q.2.2
theorem KT.val{H:Hp}{kvs:List (List Key×V)}{xs:List (List Key×Addr×G0)}(r:KT H kvs xs)(k:List Key):uN (eC kvs k) ((atKey xs k).map (·.2)):=by
 induction r with
 |nil=>exact True.intro
 |@cons p q ps qs h t ih=>
  obtain⟨h1,_,h2⟩:=h
  by_cases e:p.1=k
  ·have e':q.1=k:=h1.symm.trans e;have b:atKey (q::qs) k=some q.2:=by simp[atKey,Ha,e']
   rw[bU e,b];exact h2
  ·have e':¬q.1=k:=fun z=>e (h1.trans z);have b:atKey (q::qs) k=atKey qs k:=by simp[atKey,Ha,e']
   rw[bX e,b];exact ih
theorem KT.CA{H:Hp}{kvs:List (List Key×V)}{xs:List (List Key×Addr×G0)}(r:KT H kvs xs)(k:List Key){y:V}{u:G0}(ry:RelV y u) :
 KT H (kvs.map fun kv=>if kv.1=k then(kv.1,y)else kv) (xs.map (putAt k u)):=by
 induction r with
 |nil=>exact .nil
 |@cons p q ps qs h t ih=>
  rw[Gs,Gs]
  refine .cons ?_ ih
  obtain⟨h1,h2,h3⟩:=h
  unfold putAt
  by_cases e:p.1=k
  ·rw[if_pos e,if_pos (h1.symm.trans e)];exact⟨h1,h2,ry⟩
  ·rw[if_neg e,if_neg (fun z=>e (h1.trans z))];exact⟨h1,h2,h3⟩
theorem KT.put{H:Hp}{kvs:List (List Key×V)}{xs:List (List Key×Addr×G0)}(r:KT H kvs xs)(k:List Key){b:Addr}{y:V}{u:G0}(hb:H b=some (.tup (k.map kV)))(ry:RelV y u) :
 KT H (putK kvs k y) (storedH xs k b u):=by
 have e:(kvs.any fun kv=>decide (kv.1=k))=(atKey xs k).isSome:=by
  rw[dF,(r.val k).iN,Option.isSome_map]
 unfold putK storedH
 rw[e]
 by_cases q:(atKey xs k).isSome=true
 ·rw[if_pos q,if_pos q];exact r.CA k ry
 ·rw[if_neg q,if_neg q];exact Paired.snoc r ⟨rfl,hb,ry⟩
theorem KT.keeps{H H':Hp}{kvs:List (List Key×V)}{xs:List (List Key×Addr×G0)}(r:KT H kvs xs)(ht:∀b ys,H b=some (.tup ys)->H' b=some (.tup ys)):KT H' kvs xs:=Paired.C9 r fun _ _ z=>⟨z.1,ht _ _ z.2.1,z.2.2⟩
section
variable{P:GL}{w:Hk}{H:Hp}{h:Heap}{a:Addr}
theorem Ar{u:HO}(ok:HOk P w H h)(e:Rd H a u):cn P w H h a u:=e.ok ok
theorem Al{kvs:List (Key×V)}(ok:HOk P w H h)(e:Rd H a (.dK kvs)):kvs.length<=GD/\(a==Iq)=false/\∃vs,KV kvs vs/\h.DictOf (bQ P w) a vs:=show cn P w H h a (.dK kvs)from Ar ok e
theorem DU{kvs:List (Key×V)}(ok:HOk P w H h)(e:H a=some (.dK kvs)):kvs.length<=GD/\(a==Iq)=false/\∃vs,KV kvs vs/\h.DictOf (bQ P w) a vs:=Al ok (.inl e)
theorem qi{ks:List Key}(ok:HOk P w H h)(e:H a=some (.tup (ks.map kV))):(tupleKind (bQ P w)).is h ks a:=by obtain⟨_,its,r,⟨o,h1,h2,n,h3⟩,_⟩:=(show cn P w H h a (.tup (ks.map kV))from ok a _ e);exact⟨o,its.toArray,n,h1,h2,h3,by simpa using mM r⟩
theorem AG{kvs:List (List Key×V)}(ok:HOk P w H h)(e:Rd H a (.dT kvs)):kvs.length<=GD/\(a==Iq)=false/\
 ∃xs,KT H kvs xs/\h.DictOfH (tupleKind (bQ P w)) a xs:=by
 obtain⟨z,y,xs,r,o,es,ep,h1,h2,h3,h4,h5⟩:=(show cn P w H h a (.dT kvs)from Ar ok e)
 refine⟨z,y,xs,r,o,es,ep,h1,h2,h3,h4,fun x hx=>?_,h5⟩
 have all:∀{l:List (List Key×V)} {m:List (List Key×Addr×G0)},KT H l m->∀x∈m,(tupleKind (bQ P w)).is h x.1 x.2.1:=by
  intro l m q
  induction q with
  |nil=>intro x hx;exact nomatch hx
  |@cons p q ps qs hq t ih=>
   intro x hx
   rcases Hf.mp hx with e|hx
   ·subst e
    exact qi ok (by rw[<-hq.1];exact hq.2.1)
   ·exact ih x hx
 exact all r x hx
theorem EW{kvs:List (List Key×V)}(ok:HOk P w H h)(e:H a=some (.dT kvs)):kvs.length<=GD/\(a==Iq)=false/\∃xs,KT H kvs xs/\h.DictOfH (tupleKind (bQ P w)) a xs:=AG ok (.inl e)
end
def BG(H:Hp)(a:Addr)(y:V)(r:Option V):Prop:=
 (∃kvs k,Rd H a (.dK kvs)/\y=kV k/\r=eC kvs k)\/∃kvs k b,Rd H a (.dT kvs)/\y=.ref b/\H b=some (.tup (k.map kV))/\r=eC kvs k
def DC(H:Hp)(a:Addr)(y v:V)(H':Hp):Prop:=
 (∃kvs k,H a=some (.dK kvs)/\y=kV k/\kvs.length<GD/\H'=upd H a (.dK (putK kvs k v)))\/
 ∃kvs k b,H a=some (.dT kvs)/\y=.ref b/\H b=some (.tup (k.map kV))/\kvs.length<GD/\H'=upd H a (.dT (putK kvs k v))
section
variable{X:Cx}{pins:List (Addr×Obj)}{σ:St}{H:Hp}{s:G6}{a:Addr}{y v:V}{u r:G0}{o:Option V}{A:Hr}{E:G0->G6->Prop}
theorem Inv.big(I:Inv X pins σ H s):Iq<s.heap.objs.size:=by have h:Jl<s.heap.objs.size:=(I.mod.glob.keeps I.bk).lt;exact Nat.lt_trans (by decide) h
theorem zx{Q:G0->G6->Prop}(hu:A.units+1<HG)(I:Inv X pins σ H s)(g:BG H a y o)(ry:RelV y u)(h:∀s',Inv X pins σ H s'->Q (.bool (!o.isSome)) s') : Gw (GG X.prog X.w) A (Hc .NotIn u (.ref a)) Q E s:=by
 rcases g with⟨kvs,k,e,ey,l⟩|⟨kvs,k,b,e,ey,eb,l⟩
 ·subst ey;obtain⟨z,hd,vs,rel,dd⟩:=Al I.hok e;refine wpAny_notIn_of (xf ry) hd dd.mapOf ?_;rw[<-(rel.val k).iN,<-l];exact h _ (I.tok _)
 ·subst ey;cases (show u=HS b from ry);obtain⟨z,hd,xs,rel,dd⟩:=AG I.hok e;refine wpAny_notIn_heap (tupleKind_room_in1 hu) (qi I.hok eb) hd dd ?_;have q:=(rel.val k).iN;rw[Option.isSome_map]at q;rw[<-q,<-l];exact h _ (I.tok _)
theorem gY{h':Heap}{t':Nat}{ob:HO}(I:Inv X pins σ H s)(mu:Mut (H a))(hs:IJ a s.heap h')(he:∃q,h'.get? a=some q)(new:cn X.prog X.w (upd H a ob) h' a ob) : Inv X pins σ (upd H a ob) { s with heap:=h',toks:=t' }:=I.write (x:=a) (e:=a) mu (.inl rfl) (fun b q hb z=>(hs.2 b hb).trans z) he new
theorem BI{P:GL}{w:Hk}{H':Hp}{h':Heap}{kvs:List (Key×V)}{vs:List (Key×G0)}(z:kvs.length<=GD)(hd:(a==Iq)=false)(rel:KV kvs vs)(dd:h'.DictOf (bQ P w) a vs) : cn P w H' h' a (.dK kvs):=⟨z,hd,vs,rel,dd⟩
theorem u5{H':Hp}{Q:Unit->G6->Prop}(hu:A.units+1<HG)(I:Inv X pins σ H s)(g:DC H a y v H')(ry:RelV y u)(rv:RelV v r)(h:∀s',Inv X pins σ H' s'->Q () s') : Gw (GG X.prog X.w) A (setItem (.ref a) u r) Q E s:=by
 rcases g with⟨kvs,k,e,ey,l,eH⟩|⟨kvs,k,b,e,ey,eb,l,eH⟩
 ·subst ey eH;obtain⟨z,hd,vs,rel,dd⟩:=DU I.hok e;have hz:vs.length<=GD:=by rw[<-rel.length];exact z
  have hl:(putK kvs k v).length<=GD:=by have:=fH kvs k v;omega
  refine wpAny_setItem_pairs (hsz:=hz) (xf ry) dd fun h' dd' hs=>h _ ?_;have he:∃q,h'.get? a=some q:=let⟨q,_,_,hq,_⟩:=dd';⟨q,hq⟩
  exact gY I (by rw[e];exact True.intro) hs he (BI hl hd (rel.put k rv) dd')
 ·subst ey eH;cases (show u=HS b from ry);obtain⟨z,hd,xs,rel,dd⟩:=EW I.hok e;have hz:xs.length<=GD:=by rw[<-Paired.length rel];exact z
  have hl:(putK kvs k v).length<=GD:=by have:=fH kvs k v;omega
  refine wpAny_setItem_heap (hsz:=hz) (tupleKind_room_in1 hu) (qi I.hok eb) dd fun h' dd' hs=>h _ ?_;obtain⟨q,es,ep,hq,h2,h3,h4,_,h5⟩:=dd';refine gY I (by rw[e];exact True.intro) hs ⟨q,hq⟩ ⟨hl,hd,_,(rel.put k eb rv).keeps fun c ys ec=>?_,q,es,ep,hq,h2,h3,h4,h5⟩;rw[aS (EO ec e (fun z=>nomatch z))];exact ec
end
def Fe(i:Expr):Prop:=∀ov iv,subscripted i false ov iv=operate [ov,iv] (getItem ov iv)
def yM(ty td:TE):TE:=fun σ H Q=>ty σ H fun y H1=>td σ H1 fun x H2=>∃a o,x=.ref a/\BG H2 a y o/\Q (.bl (!o.isSome)) H2
def En(td ty tv:TE):TS:=fun D σ H=>tv σ H fun v H1=>td σ H1 fun x H2=>ty σ H2 fun y H3=>∃a H4,x=.ref a/\DC H3 a y v H4/\D.nx σ H4
section
variable{X:Cx}{o i e value:Expr}{pos pos' tpos:Pos}{td ty tv:TE}
theorem uW(hu:X.A.units+1<HG)(hi:PE X i ty)(ho:PE X o td):PC X .NotIn i o (yM ty td):=by intro pins s σ H Q I h;refine thn (hi pins s σ H _ I h) fun iv s1 ⟨y,H1,I1,ry,q1⟩=>thn (ho pins s1 σ H1 _ I1 q1) fun u s2 ⟨x,H2,I2,rx,a,ov,ex,g,q2⟩=>?_;subst ex;obtain rfl:u=HS a:=rx;exact zx hu I2 g ry fun s3 I3=>⟨.bl (!ov.isSome),H2,I3,rfl,q2⟩
theorem yz(hu:X.A.units+1<HG)(ho:PE X o td)(hi:PE X i ty)(hv:PE X value tv)(hs:J5 value (some (.Subscript o i pos')) pos.line X.env=pure false) : PS X (.Assign [.Subscript o i pos'] value pos) (En td ty tv):=by intro pins s σ H D I h;refine wpAny_Assign_Subscript (thn (hv pins s σ H _ I h) fun r s1 ⟨v,H1,I1,rv,q1⟩=>thn (ho pins s1 σ H1 _ I1 q1) fun u s2 ⟨x,H2,I2,rx,q2⟩=>thn (hi pins s2 σ H2 _ I2 q2) fun iv s3 ⟨y,H3,I3,ry,a,H4,ex,g,q3⟩=>?_) hs;subst ex;obtain rfl:u=HS a:=rx;exact u5 hu I3 g ry rv fun s4 I4=>⟨σ,H4,I4,q3⟩
end
theorem xM{P:GL}{w:Hk}{H:Hp}(h:Heap)(hb:Iq<h.objs.size):cn P w H (h.push { cls:=.type "dict",data:=.dict #[] }) h.objs.size (.dK []):=⟨HR _,beq_eq_false_iff_ne.mpr (Ne.symm (Hh hb)),[],.nil,Heap.DictOf.new h⟩
def AY:TE:=fun _ H Q=>∀p,H p=none->Q (.ref p) (upd H p (.dK []))
section
variable{X:Cx}{pos:Pos}
theorem v9:PE X (.Dict [] [] pos) AY:=fun pins s σ H Q I h=>wpAny_Dict_empty ⟨.ref s.heap.objs.size,_,I.laid (a:=s.heap.objs.size) (o:=.dK []) (t':=s.toks) (fun _ _ q=>G9 _ q) (Gq _) (xM s.heap I.big),rfl,h _ (I.hok.fresh (Gq _))⟩
end
end L2
namespace SD
theorem CW{α:Type}{l:List α}(h:l.length=1):∃a,l=[a]:=by
 cases l with
 |nil=>cases h
 |cons a l=>
  cases l with
  |nil=>exact⟨a,rfl⟩
  |cons b l=>cases h
theorem FK{α:Type}{n:Nat}{l:List α}(h:l.length=n+1):∃a r,l=a::r/\r.length=n:=by
 cases l with
 |nil=>cases h
 |cons a l=>exact⟨a,l,rfl,Nat.succ.inj h⟩
theorem B9{α:Type}{l:List α}(h:l.length=2):∃a b,l=[a,b]:=by obtain⟨a,r,rfl,h2⟩:=FK h;obtain⟨b,rfl⟩:=CW h2;exact⟨a,b,rfl⟩
open PySem PySem.Spec PyProof.Rows L2
inductive D where
 |non|bl (b:Bool)|int (i:Int)|str (x:Str)|ty (n:String)|ref (a:Addr)|rol (ds:List D)|tup (ds:List D)
def SqF(K:G5)(H:Hp)(a:Addr)(xs:List V):Prop:=
 (∃o,H a=some (.frz o (.lst xs)))\/
  ∃(o:Obj) (its:Array G0) (n:Nat),K.lookup a=some o/\o.cls=.type "list"/\o.dict=none/\o.data=.seq its n/\its.size<=GD/\Vals xs its.toList
theorem SqF.sql{K:G5}{H:Hp}{a:Addr}{xs:List V}(h:SqF K H a xs):SqL K H a xs:=by
 rcases h with h|h
 ·exact .inl (.inr h)
 ·exact .inr h
mutual
def Rep(K:G5)(H:Hp):D->V->Prop
 |.non,v=>v=.non
 |.bl b,v=>v=.bl b
 |.int i,v=>v=.int i
 |.str x,v=>v=.str x
 |.ty n,v=>v=.ty n
 |.ref a,v=>v=.ref a
 |.rol ds,v=>∃a xs,v=.ref a/\SqF K H a xs/\aD K H ds xs
 |.tup ds,v=>∃a xs,v=.ref a/\SqT K H a xs/\aD K H ds xs
def aD(K:G5)(H:Hp):List D->List V->Prop
 |[],xs=>xs=[]
 |d::ds,xs=>∃x r,xs=x::r/\Rep K H d x/\aD K H ds r
end
structure Grow(K:G5)(H H':Hp):Prop where
 t:∀a xs,SqT K H a xs->SqT K H' a xs
 f:∀a xs,SqF K H a xs->SqF K H' a xs
theorem Grow.refl{K:G5}{H:Hp}:Grow K H H:=⟨fun _ _ h=>h,fun _ _ h=>h⟩
theorem Grow.trans{K:G5}{H H1 H2:Hp}(a:Grow K H H1)(b:Grow K H1 H2):Grow K H H2:=⟨fun x y h=>b.t x y (a.t x y h),fun x y h=>b.f x y (a.f x y h)⟩
theorem Grow.put{K:G5}{H:Hp}{p:Addr}{o:HO}(h1:∀xs,H p≠some (.tup xs))(h2:∀u xs,H p≠some (.frz u xs)):Grow K H (upd H p o):=by
 refine⟨fun a xs h=>?_,fun a xs h=>?_⟩
 ·rcases h with(h|⟨u,h⟩)|h
  ·exact .inl (.inl (by rw[aS (by intro e;subst e;exact h1 _ h)];exact h))
  ·exact .inl (.inr ⟨u,by rw[aS (by intro e;subst e;exact h2 _ _ h)];exact h⟩)
  ·exact .inr h
 ·rcases h with⟨u,h⟩|h
  ·exact .inl ⟨u,by rw[aS (by intro e;subst e;exact h2 _ _ h)];exact h⟩
  ·exact .inr h
theorem Grow.new{K:G5}{H:Hp}{p:Addr}{o:HO}(h:H p=none):Grow K H (upd H p o):=.put (fun xs e=>by rw[h]at e;cases e) (fun u xs e=>by rw[h]at e;cases e)
theorem Grow.lst{K:G5}{H:Hp}{p:Addr}{o:HO}{xs:List V}(h:H p=some (.lst xs)):Grow K H (upd H p o):=.put (fun ys e=>by rw[h]at e;cases e) (fun u ys e=>by rw[h]at e;cases e)
mutual
theorem Rep.mono{K:G5}{H H':Hp}(g:Grow K H H'):∀{d:D} {v:V},Rep K H d v->Rep K H' d v
 |.non,_,h=>h
 |.bl _,_,h=>h
 |.int _,_,h=>h
 |.str _,_,h=>h
 |.ty _,_,h=>h
 |.ref _,_,h=>h
 |.rol ds,_,h=>by
  rw[Rep]at h ⊢
  obtain⟨a,xs,e,h1,h2⟩:=h
  exact⟨a,xs,e,g.f _ _ h1,aD.mono g h2⟩
 |.tup ds,_,h=>by
  rw[Rep]at h ⊢
  obtain⟨a,xs,e,h1,h2⟩:=h
  exact⟨a,xs,e,g.t _ _ h1,aD.mono g h2⟩
theorem aD.mono{K:G5}{H H':Hp}(g:Grow K H H'):∀{ds:List D} {xs:List V},aD K H ds xs->aD K H' ds xs
 |[],_,h=>h
 |d::ds,_,h=>by
  rw[aD]at h ⊢
  obtain⟨x,r,e,h1,h2⟩:=h
  exact⟨x,r,e,Rep.mono g h1,aD.mono g h2⟩
end
section
variable{K:G5}{H H':Hp}
theorem aD.nil:aD K H [] []:=by rw[aD]
theorem aD.cons{d:D}{ds:List D}{x:V}{r:List V}(a:Rep K H d x)(b:aD K H ds r):aD K H (d::ds) (x::r):=by rw[aD];exact⟨x,r,rfl,a,b⟩
theorem aD.length:∀{ds:List D} {xs:List V},aD K H ds xs->ds.length=xs.length
 |[],xs,h=>by rw[aD]at h;subst h;rfl
 |d::ds,xs,h=>by
  rw[aD]at h
  obtain⟨x,r,rfl,_,h2⟩:=h
  simp[aD.length h2]
theorem aD.get:∀{ds:List D} {xs:List V} {i:Nat} {d:D},aD K H ds xs->ds[i]?=some d->∃x,xs[i]?=some x/\Rep K H d x
 |[],_,_,_,_,e=>by simp at e
 |_::_,xs,0,_,h,e=>by
  rw[aD]at h
  obtain⟨x,r,rfl,h1,_⟩:=h
  simp at e;subst e
  exact⟨x,rfl,h1⟩
 |_::ds,xs,i+1,d,h,e=>by
  rw[aD]at h
  obtain⟨x,r,rfl,_,h2⟩:=h
  simpa using aD.get (i:=i) (d:=d) h2 (by simpa using e)
theorem aD.set{d:D}{x:V}(a:Rep K H d x):∀{ds:List D} {xs:List V} (i:Nat),aD K H ds xs->aD K H (ds.set i d) (xs.set i x)
 |[],_,_,h=>by rw[aD]at h;subst h;simp[aD.nil]
 |_::_,_,0,h=>by
  rw[aD]at h
  obtain⟨y,r,rfl,_,h2⟩:=h
  exact .cons a h2
 |_::ds,_,i+1,h=>by
  rw[aD]at h
  obtain⟨y,r,rfl,h1,h2⟩:=h
  exact .cons h1 (aD.set a i h2)
theorem aD.append:∀{ds es:List D} {xs ys:List V},aD K H ds xs->aD K H es ys->aD K H (ds++es) (xs++ys)
 |[],_,_,_,h,k=>by rw[aD]at h;subst h;exact k
 |_::ds,_,_,_,h,k=>by
  rw[aD]at h
  obtain⟨y,r,rfl,h1,h2⟩:=h
  exact .cons h1 (aD.append h2 k)
theorem aD.of_get:∀{ds:List D} {xs:List V},ds.length=xs.length->(∀(i:Nat) d x,ds[i]?=some d->xs[i]?=some x->Rep K H d x)->aD K H ds xs
 |[],[],_,_=>.nil
 |[],_::_,h,_=>by simp at h
 |_::_,[],h,_=>by simp at h
 |d::ds,x::xs,h,k=>.cons (k 0 d x rfl rfl) (aD.of_get (by simpa using h) fun i d x a b=>k (i+1) d x (by simpa using a) (by simpa using b))
theorem aD.take{ds:List D}{xs:List V}(n:Nat)(h:aD K H ds xs):aD K H (ds.take n) (xs.take n):=by
 refine .of_get (by simp[h.length]) fun i d x a b=>?_
 have hi:i<n:=by
  rw[List.getElem?_take]at a;split at a
  ·assumption
  ·cases a
 rw[List.getElem?_take_of_lt hi]at a b;obtain⟨y,e,r⟩:=h.get a;rw[e]at b;cases b;exact r
theorem aD.drop{ds:List D}{xs:List V}(n:Nat)(h:aD K H ds xs):aD K H (ds.drop n) (xs.drop n):=by refine .of_get (by simp[h.length]) fun i d x a b=>?_;rw[List.getElem?_drop]at a b;obtain⟨y,e,r⟩:=h.get a;rw[e]at b;cases b;exact r
theorem jj:∀(ns:List Int),aD K H (ns.map D.int) (ns.map V.int)
 |[]=>.nil
 |n::ns=>.cons (by rw[Rep]) (jj ns)
end
def FC(a C:Addr):Heap->Prop:=fun h=>∃o,h.get? a=some o/\o.cls=.ref C
inductive MO where
 |lst (ds:List D)|err (C:Addr)
 |dct (n:Nat) (P:List Int->Bool)
 |gen (A:G5->Hp->Addr->Prop)
abbrev MH:=Addr->Option MO
def pK(K:G5)(H:Hp)(a:Addr):MO->Prop
 |.lst ds=>∃xs,H a=some (.lst xs)/\aD K H ds xs
 |.err C=>H a=some (.ext (FC a C))
 |.dct n P=>∃kvs:List (List Key×V),H a=some (.dT kvs)/\kvs.length<=n/\∀k:List Int,(kvs.any fun kv=>decide (kv.1=k.map Sum.inl))=P k
 |.gen A=>A K H a/\H a≠none/\∀H',Grow K H H'->H' a=H a->A K H' a
def Abs(K:G5)(H:Hp)(M:MH):Prop:=∀a o,M a=some o->pK K H a o
def ax(M:MH)(a:Addr)(o:MO):MH:=fun b=>if b=a then some o else M b
theorem af{M:MH}{a:Addr}{o:MO}:ax M a o a=some o:=by unfold ax;rw[if_pos rfl]
theorem aj{M:MH}{a b:Addr}{o:MO}(h:b≠a):ax M a o b=M b:=by unfold ax;rw[if_neg h]
theorem bJ{M:MH}{a:Addr}{o u:MO}:ax (ax M a o) a u=ax M a u:=by funext b;unfold ax;split<;>rfl
section
variable{K:G5}{H H':Hp}{M:MH}
theorem pK.some{a:Addr}{o:MO}(h:pK K H a o):H a≠none:=by
 cases o with
 |lst ds=>
  obtain⟨xs,h1,_⟩:=h
  rw[h1];simp
 |err C=>rw[show H a=_ from h];simp
 |dct n P=>
  obtain⟨kvs,h1,_⟩:=h
  rw[h1];simp
 |gen A=>exact h.2.1
theorem Abs.fresh(h:Abs K H M){p:Addr}(hp:H p=none):M p=none:=by
 cases e:M p with
 |none=>rfl
 |some o=>exact absurd hp (h p o e).some
theorem pK.gH{a:Addr}{o:MO}(g:Grow K H H')(e:H' a=H a)(h:pK K H a o):pK K H' a o:=by
 cases o with
 |lst ds=>
  obtain⟨xs,h1,h2⟩:=h
  exact⟨xs,e.trans h1,h2.mono g⟩
 |err C=>exact e.trans h
 |dct n P=>
  obtain⟨kvs,h1,h2⟩:=h
  exact⟨kvs,e.trans h1,h2⟩
 |gen A=>exact⟨h.2.2 H' g e,fun z=>h.2.1 (by rw[<-e];exact z),fun H2 g2 e2=>h.2.2 H2 (g.trans g2) (e2.trans e)⟩
theorem Abs.new{p:Addr}{o:HO}(h:Abs K H M)(hp:H p=none):Abs K (upd H p o) M:=fun a u e=>by
 have ne:a≠p:=fun z=>by subst z;rw[h.fresh hp]at e;cases e
 exact(h a u e).gH (.new hp) (aS ne)
theorem Abs.l9{p:Addr}{xs:List V}{ds:List D}(h:Abs K H M)(hp:H p=none)(r:aD K H ds xs):Abs K (upd H p (.lst xs)) (ax M p (.lst ds)):=fun a u e=>by
 by_cases ne:a=p
 ·subst ne;rw[af]at e;cases e;exact⟨xs,aW,r.mono (.new hp)⟩
 ·rw[aj ne]at e;exact(h a u e).gH (.new hp) (aS ne)
theorem Abs.vm{p:Addr}{xs ys:List V}{ds:List D}(h:Abs K H M)(hp:H p=some (.lst xs))(r:aD K H ds ys):Abs K (upd H p (.lst ys)) (ax M p (.lst ds)):=fun a u e=>by
 by_cases ne:a=p
 ·subst ne;rw[af]at e;cases e;exact⟨ys,aW,r.mono (.lst hp)⟩
 ·rw[aj ne]at e;exact(h a u e).gH (.lst hp) (aS ne)
theorem Abs.sub{M':MH}(h:Abs K H M)(s:∀a o,M' a=some o->M a=some o):Abs K H M':=fun a o e=>h a o (s a o e)
end
abbrev DS:=List (Option D)
structure Slots(K:G5)(H:Hp)(δ:DS)(σ:L2.St):Prop where
 len:δ.length=σ.length
 at':∀(i:Nat) d,δ[i]?=some (some d)->∃v,σ[i]?=some (some v)/\Rep K H d v
section
variable{K:G5}{H H':Hp}{δ:DS}{σ:L2.St}
theorem Slots.mono(g:Grow K H H')(h:Slots K H δ σ):Slots K H' δ σ:=⟨h.len,fun i d e=>let⟨v,a,b⟩:=h.at' i d e;⟨v,a,b.mono g⟩⟩
theorem Slots.set{d:D}{v:V}(r:Rep K H d v)(i:Nat)(h:Slots K H δ σ):Slots K H (δ.set i (some d)) (σ.set i (some v)):=by
 refine⟨by simp[h.len],fun j e q=>?_⟩;rw[List.getElem?_set]at q;by_cases hij:i=j
 ·subst hij;rw[if_pos rfl]at q;by_cases hl:i<δ.length
  ·rw[if_pos hl]at q;cases q;exact⟨v,by rw[List.getElem?_set,if_pos rfl,if_pos (by rw[<-h.len];exact hl)],r⟩
  ·rw[if_neg hl]at q;cases q
 ·rw[if_neg hij]at q;obtain⟨v',e1,e2⟩:=h.at' j e q;exact⟨v',by rw[List.getElem?_set,if_neg hij];exact e1,e2⟩
theorem qc{N:List Str}{ds:List D}{vs:List V}(r:aD K H ds vs):Slots K H (ds.map some++GZ (N.length-ds.length) none) (L2.start N vs):=by
 have hl:=r.length;refine⟨by unfold L2.start;simp[hl],fun i d e=>?_⟩;unfold L2.start;by_cases hi:i<ds.length
 ·rw[Hy (by simpa using hi),Gr]at e;cases q:ds[i]? with
  |none=>rw[q]at e;cases e
  |some d'=>
   rw[q]at e;cases e
   obtain⟨x,e1,e2⟩:=r.get q
   refine⟨x,?_,e2⟩
   rw[Hy (by simp;omega),Gr,e1];rfl
 ·rw[Ht (by simpa using hi),List.getElem?_replicate]at e;split at e<;>cases e
end
abbrev DK:=D->MH->Prop
abbrev TD:=DS->MH->DK->Prop
abbrev TTD:=DS->MH->(Bool->MH->Prop)->Prop
abbrev TAD:=DS->MH->(List D->MH->Prop)->Prop
structure EndsD where
 nx:DS->MH->Prop
 rt:DK
 bk:DS->MH->Prop:=fun _ _=>False
 ct:DS->MH->Prop:=fun _ _=>False
abbrev TSD:=EndsD->DS->MH->Prop
section
variable(K:G5)
def Fin(H:Hp)(R:DK)(Q:VK):Prop:=∀d M' v H',Grow K H H'->Rep K H' d v->Abs K H' M'->R d M'->Q v H'
def yO(H:Hp)(R:Bool->MH->Prop)(Q:Bool->Hp->Prop):Prop:=∀b M' H',Grow K H H'->Abs K H' M'->R b M'->Q b H'
def FinA(H:Hp)(R:List D->MH->Prop)(Q:List V->Hp->Prop):Prop:=∀ds M' vs H',Grow K H H'->aD K H' ds vs->Abs K H' M'->R ds M'->Q vs H'
def lift(t:TD):TE:=fun σ H Q=>∃δ M R,Slots K H δ σ/\Abs K H M/\t δ M R/\Fin K H R Q
def liftT(t:TTD):TT:=fun σ H Q=>∃δ M R,Slots K H δ σ/\Abs K H M/\t δ M R/\yO K H R Q
def vZ(t:TAD):TA:=fun σ H Q=>∃δ M R,Slots K H δ σ/\Abs K H M/\t δ M R/\FinA K H R Q
structure EndsOk(H:Hp)(B:EndsD)(E:Ends):Prop where
 nx:∀δ M σ H',Grow K H H'->Slots K H' δ σ->Abs K H' M->B.nx δ M->E.nx σ H'
 rt:∀d M v H',Grow K H H'->Rep K H' d v->Abs K H' M->B.rt d M->E.rt v H'
 bk:∀δ M σ H',Grow K H H'->Slots K H' δ σ->Abs K H' M->B.bk δ M->E.bk σ H'
 ct:∀δ M σ H',Grow K H H'->Slots K H' δ σ->Abs K H' M->B.ct δ M->E.ct σ H'
def Ak(t:TSD):TS:=fun E σ H=>∃δ M,Slots K H δ σ/\Abs K H M/\∃B,EndsOk K H B E/\t B δ M
end
def DE(X:Cx)(e:Expr)(t:TD):Prop:=PE X e (lift X.K t)
def DT(X:Cx)(e:Expr)(t:TTD):Prop:=PT X e (liftT X.K t)
def DW(X:Cx)(e:Expr)(t:TTD):Prop:=PW X e (liftT X.K t)
def DA(X:Cx)(es:List Expr)(t:TAD):Prop:=PA X es (vZ X.K t)
def DSt(X:Cx)(st:Stmt)(t:TSD):Prop:=PS X st (Ak X.K t)
def DSs(X:Cx)(st:List Stmt)(t:TSD):Prop:=PSs X st (Ak X.K t)
theorem aZ{X:Cx}{e:Expr}{t t':TE}(h:PE X e t)(k:∀σ H Q,t' σ H Q->t σ H Q):PE X e t':=fun pins s σ H Q I q=>h pins s σ H Q I (k σ H Q q)
theorem lQ{X:Cx}{e:Expr}{t t':TT}(h:PT X e t)(k:∀σ H Q,t' σ H Q->t σ H Q):PT X e t':=fun pins s σ H Q I q=>h pins s σ H Q I (k σ H Q q)
theorem ya{X:Cx}{e:Expr}{t t':TT}(h:PW X e t)(k:∀σ H Q,t' σ H Q->t σ H Q):PW X e t':=fun wh pins s σ H Q I q=>h wh pins s σ H Q I (k σ H Q q)
theorem vV{X:Cx}{e:List Expr}{t t':TA}(h:PA X e t)(k:∀σ H Q,t' σ H Q->t σ H Q):PA X e t':=fun pos pins s σ H Q I q=>h pos pins s σ H Q I (k σ H Q q)
theorem cD{X:Cx}{e:Stmt}{t t':TS}(h:PS X e t)(k:∀D σ H,t' D σ H->t D σ H):PS X e t':=fun pins s σ H D I q=>h pins s σ H D I (k D σ H q)
theorem sP{X:Cx}{e:List Stmt}{t t':TS}(h:PSs X e t)(k:∀D σ H,t' D σ H->t D σ H):PSs X e t':=fun pins s σ H D I q=>h pins s σ H D I (k D σ H q)
section
variable{K:G5}{H H1 H':Hp}
theorem Fin.go{R:DK}{Q:VK}(g:Grow K H H1)(h:Fin K H R Q):Fin K H1 R Q:=fun d M v H' g'=>h d M v H' (g.trans g')
theorem yO.go{R:Bool->MH->Prop}{Q:Bool->Hp->Prop}(g:Grow K H H1)(h:yO K H R Q):yO K H1 R Q:=fun b M H' g'=>h b M H' (g.trans g')
theorem EndsOk.go{B:EndsD}{E:Ends}(g:Grow K H H1)(h:EndsOk K H B E):EndsOk K H1 B E:=⟨fun d M v H' g'=>h.nx d M v H' (g.trans g'),fun d M v H' g'=>h.rt d M v H' (g.trans g'),fun d M v H' g'=>h.bk d M v H' (g.trans g'),fun d M v H' g'=>h.ct d M v H' (g.trans g')⟩
end
section
variable{X:Cx}
inductive tVarD(i:Nat)(δ:DS)(M:MH)(Q:DK):Prop
 |mk (d:D) (h:δ[i]?=some (some d)) (q:Q d M):tVarD i δ M Q
def tCD(d:D):TD:=fun _ M Q=>Q d M
theorem dv(i:Nat){x:Str}{pos:Pos}(hN:X.N[i]?=some x:=by rfl)(hv:Vis X.env.scope x:=by first|exact Or.inl rfl|exact Or.inr (Or.inl rfl)|exact Or.inr (Or.inr rfl))(hd:(x==("__debug__":Str))=false:=by decide)
 (hcd:(x==("__classdict__":Str))=false:=by decide):DE X (.Name x pos) (tVarD i):=
 aZ (Bp hN hv hd hcd) fun σ H Q z9=>by
  obtain⟨δ,M,R,hs,hM,⟨d,e,r⟩,fin⟩:=z9
  obtain⟨v,e1,e2⟩:=hs.at' i d e
  exact⟨v,e1,fin d M v H .refl e2 hM r⟩
theorem dc{e:Expr}{v:V}{d:D}(h:PE X e (tC v))(r:∀H,Rep X.K H d v):DE X e (tCD d):=aZ h fun σ H Q zz1_0=>by obtain⟨δ,M,R,hs,hM,q,fin⟩:=zz1_0;exact(fin d M v H .refl (r H) hM q)
theorem ag{i j pos}:DE X (.Constant (.int i) j pos) (tCD (.int i)):=dc wB fun _=>by rw[Rep]
theorem jU{i j pos}:DE X (.Constant (.bool i) j pos) (tCD (.bl i)):=dc D2 fun _=>by rw[Rep]
theorem jY{j pos}:DE X (.Constant .none j pos) (tCD .non):=dc AZ fun _=>by rw[Rep]
theorem ko{x j pos}:DE X (.Constant (.str x) j pos) (tCD (.str x)):=dc CS fun _=>by rw[Rep]
end
abbrev R2D:=D->D->MH->DK->Prop
def n6(K:G5)(r:R2D):R2:=fun v u H Q=>∃x y M R,Rep K H x v/\Rep K H y u/\Abs K H M/\r x y M R/\Fin K H R Q
def OpD(X:Cx)(f:G0->G0->Sem G0)(r:R2D):Prop:=OpR X f (n6 X.K r)
def ud(r:R2D)(ta tb:TD):TD:=fun δ M Q=>ta δ M fun x M1=>tb δ M1 fun y M2=>r x y M2 Q
theorem gQ{X:Cx}{f:G0->G0->Sem G0}{r r':R2}(h:OpR X f r)(k:∀x y H Q,r' x y H Q->r x y H Q):OpR X f r':=fun pins s σ H x y v u Q I a b q=>h pins s σ H x y v u Q I a b (k _ _ _ _ q)
theorem jR{K:G5}{r:R2D}{ta tb:TD}{σ:L2.St}{H:Hp}{Q:VK}(h:lift K (ud r ta tb) σ H Q):tOp (n6 K r) (lift K ta) (lift K tb) σ H Q:=by obtain⟨δ,M,R,hs,hM,q,fin⟩:=h;refine⟨δ,M,_,hs,hM,q,fun x M1 v H1 g1 r1 a1 q1=>?_⟩;exact⟨δ,M1,_,hs.mono g1,a1,q1,fun y M2 u H2 g2 r2 a2 q2=>⟨x,y,M2,R,r1.mono g2,r2,a2,q2,fin.go (g1.trans g2)⟩⟩
section
variable{X:Cx}{a b:Expr}{ta tb:TD}{pos:Pos}
theorem au{op:Operator}{r:R2D}(ho:OpD X (IF op) r)(ha:DE X a ta)(hb:DE X b tb):DE X (.BinOp a op b pos) (ud r ta tb):=aZ (D4 ho ha hb) fun _ _ _ h=>jR h
theorem cZ{op:CmpOp}{r:R2D}(ho:OpD X (Hc op) r)(ha:DE X a ta)(hb:DE X b tb)(hm:Jt op b=false:=by exact wg _):DE X (.Compare a [op] [b] pos) (ud r ta tb):=aZ (zH ho ha hb hm) fun _ _ _ h=>jR h
inductive IsBl(x:D)(M:MH)(Q:Bool->MH->Prop):Prop
 |mk (c:Bool) (h:x=.bl c) (q:Q c M):IsBl x M Q
def tBD(t:TD):TTD:=fun δ M Q=>t δ M fun x M1=>IsBl x M1 Q
theorem mS{K:G5}{t:TD}{t':TE}(ht:∀σ H Q,lift K t σ H Q->t' σ H Q){σ:L2.St}{H:Hp}{Q:Bool->Hp->Prop}(h:liftT K (tBD t) σ H Q):AB t' σ H Q:=by obtain⟨δ,M,R,hs,hM,q,fin⟩:=h;refine ht _ _ _ ⟨δ,M,_,hs,hM,q,fun x M1 v H1 g1 r1 a1 zz2_0=>?_⟩;obtain⟨c,e,q1⟩:=zz2_0;subst e;rw[Rep]at r1;exact⟨c,r1,fin c M1 H1 g1 a1 q1⟩
theorem aN{op:CmpOp}{r:R2D}(ho:OpD X (Hc op) r)(ha:DE X a ta)(hb:DE X b tb)(hm:Jt op b=false:=by exact wg _):DT X (.Compare a [op] [b] pos) (tBD (ud r ta tb)):=lQ (yA ho ha hb hm) fun _ _ _ h=>mS (fun _ _ _ h=>jR h) h
theorem en{e:Expr}{t:TD}(h:DE X e t)(he:∀whole,isTrue e X.env whole=(do let v <-whole;standAt e.pos;holding [v] (truthy v)):=by intro _;rfl):DT X e (tBD t):=
 lQ (CB h he) fun _ _ _ h=>mS (t':=lift X.K t) (fun _ _ _ h=>h) h
end
section
variable{X:Cx}{a b c:Expr}{ta tb:TD}{tA tB':TTD}{rest:List Expr}{pos:Pos}
def Aq(t u:TTD):TTD:=fun δ M Q=>t δ M fun c M1=>if c=true then u δ M1 Q else Q false M1
def EF(t u:TTD):TTD:=fun δ M Q=>t δ M fun c M1=>if c=true then Q true M1 else u δ M1 Q
def iz(t:TTD):TTD:=fun δ M Q=>t δ M fun c M1=>Q (!c) M1
theorem hZ(ha:DT X a tA):DW X (.BoolOp .And [a] pos) tA:=zu ha
theorem Bx(ha:DT X a tA):DW X (.BoolOp .Or [a] pos) tA:=CI ha
theorem ly(ha:DT X a tA)(hb:DW X (.BoolOp .And (b::rest) pos) tB'):DW X (.BoolOp .And (a::b::rest) pos) (Aq tA tB'):=
 ya (BO ha hb) fun σ H Q zz3_0=>by obtain⟨δ,M,R,hs,hM,q,fin⟩:=zz3_0;exact(⟨δ,M,_,hs,hM,q,fun c M1 H1 g1 a1 q1=>by
  cases c with
  |true=>rw[if_pos rfl]at q1 ⊢;exact⟨δ,M1,R,hs.mono g1,a1,q1,fin.go g1⟩
  |false=>rw[if_neg GA]at q1 ⊢;exact fin _ _ _ g1 a1 q1⟩)
theorem Fl(ha:DT X a tA)(hb:DW X (.BoolOp .Or (b::rest) pos) tB'):DW X (.BoolOp .Or (a::b::rest) pos) (EF tA tB'):=
 ya (D5 ha hb) fun σ H Q zz4_0=>by obtain⟨δ,M,R,hs,hM,q,fin⟩:=zz4_0;exact(⟨δ,M,_,hs,hM,q,fun c M1 H1 g1 a1 q1=>by
  cases c with
  |true=>rw[if_pos rfl]at q1 ⊢;exact fin _ _ _ g1 a1 q1
  |false=>rw[if_neg GA]at q1 ⊢;exact⟨δ,M1,R,hs.mono g1,a1,q1,fin.go g1⟩⟩)
theorem uP{e:Expr}{t:TTD}(h:DW X e t):DT X e t:=PW.pt h
theorem Dh(ha:DT X a tA):DT X (.UnaryOp .Not a pos) (iz tA):=lQ (Dd ha) fun σ H Q zz5_0=>by obtain⟨δ,M,R,hs,hM,q,fin⟩:=zz5_0;exact(⟨δ,M,_,hs,hM,q,fun c M1 H1 g1 a1 q1=>fin _ _ _ g1 a1 q1⟩)
def xJ(ta tb:TD):TD:=fun δ M Q=>ta δ M fun x M1=>IsBl x M1 fun c M1=>if c=true then tb δ M1 Q else Q (.bl false) M1
def AO(ta tb:TD):TD:=fun δ M Q=>ta δ M fun x M1=>IsBl x M1 fun c M1=>if c=true then Q (.bl true) M1 else tb δ M1 Q
def BJ(ta:TD):TD:=fun δ M Q=>ta δ M fun x M1=>IsBl x M1 fun c M1=>Q (.bl (!c)) M1
theorem nR{op}{t:TD}(h:DE X a t):DE X (.BoolOp op [a] pos) t:=BE h
theorem oh(ha:DE X a ta)(hb:DE X (.BoolOp .And (b::rest) pos) tb):DE X (.BoolOp .And (a::b::rest) pos) (xJ ta tb):=
 aZ (A0 ha hb) fun σ H Q ⟨δ,M,R,hs,hM,q,fin⟩=>⟨δ,M,_,hs,hM,q,fun x M1 v H1 g1 r1 a1 z9=>by
  obtain⟨c,e,q1⟩:=z9
  subst e
  rw[Rep]at r1
  refine⟨c,r1,?_⟩
  cases c with
  |true=>rw[if_pos rfl]at q1 ⊢;exact⟨δ,M1,R,hs.mono g1,a1,q1,fin.go g1⟩
  |false=>rw[if_neg GA]at q1 ⊢;exact fin _ _ _ _ g1 (by rw[Rep]) a1 q1⟩
theorem Fj(ha:DE X a ta)(hb:DE X (.BoolOp .Or (b::rest) pos) tb):DE X (.BoolOp .Or (a::b::rest) pos) (AO ta tb):=
 aZ (DN ha hb) fun σ H Q ⟨δ,M,R,hs,hM,q,fin⟩=>⟨δ,M,_,hs,hM,q,fun x M1 v H1 g1 r1 a1 z9=>by
  obtain⟨c,e,q1⟩:=z9
  subst e
  rw[Rep]at r1
  refine⟨c,r1,?_⟩
  cases c with
  |true=>rw[if_pos rfl]at q1 ⊢;exact fin _ _ _ _ g1 (by rw[Rep]) a1 q1
  |false=>rw[if_neg GA]at q1 ⊢;exact⟨δ,M1,R,hs.mono g1,a1,q1,fin.go g1⟩⟩
theorem qD(ha:DE X a ta):DE X (.UnaryOp .Not a pos) (BJ ta):=
 aZ (Be ha) fun σ H Q zz6_0=>by obtain⟨δ,M,R,hs,hM,q,fin⟩:=zz6_0;exact(⟨δ,M,_,hs,hM,q,fun x M1 v H1 g1 r1 a1 z9=>by
  obtain⟨c,e,q1⟩:=z9
  subst e
  rw[Rep]at r1
  exact⟨c,r1,fin _ _ _ _ g1 (by rw[Rep]) a1 q1⟩⟩)
def Gp(t:TTD)(ta tb:TD):TD:=fun δ M Q=>t δ M fun c M1=>if c=true then ta δ M1 Q else tb δ M1 Q
theorem fV(hc:DT X c tA)(ha:DE X a ta)(hb:DE X b tb):DE X (.IfExp c a b pos) (Gp tA ta tb):=
 aZ (wX hc ha hb) fun σ H Q zz7_0=>by obtain⟨δ,M,R,hs,hM,q,fin⟩:=zz7_0;exact(⟨δ,M,_,hs,hM,q,fun c M1 H1 g1 a1 q1=>by
  cases c with
  |true=>rw[if_pos rfl]at q1 ⊢;exact⟨δ,M1,R,hs.mono g1,a1,q1,fin.go g1⟩
  |false=>rw[if_neg GA]at q1 ⊢;exact⟨δ,M1,R,hs.mono g1,a1,q1,fin.go g1⟩⟩)
end
def Gj(r:D->MH->DK->Prop)(ta:TD):TD:=fun δ M Q=>ta δ M fun x M1=>r x M1 Q
def AK(K:G5)(r:D->MH->DK->Prop):V->Hp->VK->Prop:=fun v H Q=>∃x M R,Rep K H x v/\Abs K H M/\r x M R/\Fin K H R Q
theorem oW{X:Cx}{a:Expr}{ta:TD}{pos:Pos}{op:UnaryOp}{r:D->MH->DK->Prop}(ho:UnR X (unaryOp op) (AK X.K r))(ha:DE X a ta):DE X (.UnaryOp op a pos) (Gj r ta):=aZ (Fp ho ha) fun σ H Q zz8_0=>by obtain⟨δ,M,R,hs,hM,q,fin⟩:=zz8_0;exact(⟨δ,M,_,hs,hM,q,fun x M1 v H1 g1 r1 a1 q1=>⟨x,M1,R,r1,a1,q1,fin.go g1⟩⟩)
def E1:TAD:=fun _ M Q=>Q [] M
def Ct(ta:TD)(tr:TAD):TAD:=fun δ M Q=>ta δ M fun x M1=>tr δ M1 fun xs M2=>Q (x::xs) M2
section
variable{X:Cx}{e:Expr}{es:List Expr}{te:TD}{t:TAD}{pos:Pos}
theorem ae:DA X [] E1:=vV A8 fun σ H Q zz9_0=>by obtain⟨δ,M,R,hs,hM,q,fin⟩:=zz9_0;exact(fin _ _ _ _ .refl .nil hM q)
theorem aa(ha:DE X e te)(hr:DA X es t)(hs:GH (e::es) X.env=(false,eval e X.env)::GH es X.env:=by rfl):DA X (e::es) (Ct te t):=
 vV (zq ha hr hs) fun σ H Q zz10_0=>by obtain⟨δ,M,R,hs,hM,q,fin⟩:=zz10_0;exact(⟨δ,M,_,hs,hM,q,fun x M1 v H1 g1 r1 a1 q1=>
  ⟨δ,M1,_,hs.mono g1,a1,q1,fun xs M2 vs H2 g2 r2 a2 q2=>fin _ _ _ _ (g1.trans g2) (.cons (r1.mono g2) r2) a2 q2⟩⟩)
def EC(t:TAD):TD:=fun δ M Q=>t δ M fun xs M1=>xs.length<=GD/\Q (.tup xs) M1
def Dx(t:TAD):TD:=fun δ M Q=>t δ M fun xs M1=>xs.length<=GD/\∀p,M1 p=none->Q (.ref p) (ax M1 p (.lst xs))
theorem aE{x1}(h:DA X es t):DE X (.Tuple es x1 pos) (EC t):=aZ (Ba h) fun σ H Q zz11_0=>by obtain⟨δ,M,R,hs,hM,q,fin⟩:=zz11_0;exact(⟨δ,M,_,hs,hM,q,fun xs M1 vs H1 g1 r1 a1 zz12_0=>by obtain⟨z,q1⟩:=zz12_0;exact(⟨by rw[<-r1.length];exact z,fun p hp=>fin _ _ _ _ (g1.trans (.new hp)) (by rw[Rep];exact⟨p,vs,rfl,SqT.of aW,r1.mono (.new hp)⟩) (a1.new hp) q1⟩)⟩)
theorem b7(h:DA X es t):DE X (.List es pos) (Dx t):=aZ (CV h) fun σ H Q zz13_0=>by obtain⟨δ,M,R,hs,hM,q,fin⟩:=zz13_0;exact(⟨δ,M,_,hs,hM,q,fun xs M1 vs H1 g1 r1 a1 zz14_0=>by obtain⟨z,q1⟩:=zz14_0;exact(⟨by rw[<-r1.length];exact z,fun p hp=>fin _ _ _ _ (g1.trans (.new hp)) (by rw[Rep]) (a1.l9 hp r1) (q1 p (a1.fresh hp))⟩)⟩)
end
def IxD(X:Cx)(r:R2D):Prop:=IxR X (n6 X.K r)
theorem Cj{X:Cx}{r r':R2}(h:IxR X r)(k:∀x y H Q,r' x y H Q->r x y H Q):IxR X r':=fun e1 e2 pins s σ H x y v u Q I a b q=>h e1 e2 pins s σ H x y v u Q I a b (k _ _ _ _ q)
theorem Ca{X:Cx}{a b:Expr}{ta tb:TD}{pos:Pos}{r:R2D}(hr:IxD X r)(ha:DE X a ta)(hb:DE X b tb)(hs:nM b):DE X (.Subscript a b pos) (ud r ta tb):=aZ (E6 hr ha hb hs) fun _ _ _ h=>jR h
inductive AtD(ds:List D)(i:Int)(M:MH)(Q:DK):Prop
 |mk (d:D) (h:atI ds i=some d) (q:Q d M):AtD ds i M Q
inductive AtM(a:Addr)(i:Int)(M:MH)(Q:DK):Prop
 |mk (ds:List D) (d:D) (h:M a=some (.lst ds)) (q:atI ds i=some d/\Q d M):AtM a i M Q
def CZ:R2D:=fun x y M Q=>match x,y with
 |.tup ds,.int i=>AtD ds i M Q
 |.rol ds,.int i=>AtD ds i M Q
 |.ref a,.int i=>AtM a i M Q
 |_,_=>False
theorem aD.atI{K:G5}{H:Hp}{ds:List D}{xs:List V}{i:Int}{d:D}(h:aD K H ds xs)(e:L2.atI ds i=some d):∃x,L2.atI xs i=some x/\Rep K H d x:=by
 unfold L2.atI at e ⊢;rw[<-h.length];cases q:ixN ds.length i with
 |none=>rw[q]at e;cases e
 |some j=>
  rw[q]at e
  exact h.get e
theorem ur{K:G5}{v u:V}{H:Hp}{Q:VK}(h:n6 K CZ v u H Q):rIx K v u H Q:=by
 obtain⟨x,y,M,R,r1,r2,a,q,fin⟩:=h;unfold CZ at q;split at q
 ·obtain⟨d,e,q⟩:=q;obtain rfl:u=.int _:=r2;rw[Rep]at r1;obtain⟨p,xs,rfl,hq,rs⟩:=r1;obtain⟨x,e1,e2⟩:=rs.atI e;exact .inr (.inl ⟨p,xs,_,x,rfl,rfl,hq,e1,fin _ _ _ _ .refl e2 a q⟩)
 ·obtain⟨d,e,q⟩:=q;obtain rfl:u=.int _:=r2;rw[Rep]at r1;obtain⟨p,xs,rfl,hq,rs⟩:=r1;obtain⟨x,e1,e2⟩:=rs.atI e;exact .inl ⟨p,xs,_,x,rfl,rfl,hq.sql,e1,fin _ _ _ _ .refl e2 a q⟩
 ·obtain⟨ds,d,e0,e,q⟩:=q;obtain rfl:u=.int _:=r2;obtain rfl:v=.ref _:=r1;obtain⟨xs,hx,rs⟩:=a _ _ e0;obtain⟨x,e1,e2⟩:=rs.atI e;exact .inl ⟨_,xs,_,x,rfl,rfl,SqL.of hx,e1,fin _ _ _ _ .refl e2 a q⟩
 ·exact q.elim
theorem aw{X:Cx}{a b:Expr}{ta tb:TD}{pos:Pos}(ha:DE X a ta)(hb:DE X b tb)(hs:nM b:=by exact fun _ _=>rfl):DE X (.Subscript a b pos) (ud CZ ta tb):=Ca (Cj Dm fun _ _ _ _ h=>ur h) ha hb hs
def Bd(n:Nat)(i:Int):Prop:=i.natAbs<2^n
instance(n:Nat)(i:Int):Decidable (Bd n i):=inferInstanceAs (Decidable (i.natAbs<2^n))
theorem Bd.mono{m n:Nat}{i:Int}(h:Bd m i)(l:m<=n):Bd n i:=GP h (Nat.pow_le_pow_right (by decide) l)
theorem Bd.bits{n:Nat}{i:Int}(h:Bd n i):Builtin.Int.intBits i<=n:=by
 unfold Builtin.Int.intBits;split
 ·exact HR _
 ·rename_i hz;have h0:i.natAbs≠0:=fun e=>hz (by simpa using Int.natAbs_eq_zero.mp e);exact(Nat.log2_lt h0).mpr h
theorem Bd.log2{n:Nat}{i:Int}(h:Bd n i)(hn:0<n):i.natAbs.log2<n:=by
 by_cases h0:i.natAbs=0
 ·rw[h0];simpa using hn
 ·exact(Nat.log2_lt h0).mpr h
theorem Bd.mul{m n:Nat}{i j:Int}(a:Bd m i)(b:Bd n j):Bd (m+n) (i*j):=by unfold Bd at *;rw[Int.natAbs_mul,Nat.pow_add];exact Nat.mul_lt_mul'' a b
theorem Bd.add{n:Nat}{i j:Int}(a:Bd n i)(b:Bd n j):Bd (n+1) (i+j):=by unfold Bd at *;rw[Nat.pow_succ];have:=Int.natAbs_add_le i j;omega
theorem Bd.sub{n:Nat}{i j:Int}(a:Bd n i)(b:Bd n j):Bd (n+1) (i-j):=by unfold Bd at *;rw[Nat.pow_succ];have:=Int.natAbs_sub_le i j;omega
theorem Bd.neg{n:Nat}{i:Int}(a:Bd n i):Bd n (-i):=by unfold Bd at *;rw[Int.natAbs_neg];exact a
theorem Bd.of_le{n:Nat}{i j:Int}(a:Bd n i)(b:j.natAbs<=i.natAbs):Bd n j:=Nat.lt_of_le_of_lt b a
theorem bG{n:Nat}{i:Int}(h:i.natAbs<2^64)(l:64<=n:=by decide):Bd n i:=Bd.mono (m:=64) h l
theorem d6{i j:Int}(a:Bd 1000000 i)(b:Bd 1000000 j):IntMulOk i j:=.of_bits (HF a.bits (by decide)) (HF b.bits (by decide))
theorem aQ{i j:Int}(a:Bd 64 i):IntMulOk i j:=.of_left a.bits
theorem e7{i j:Int}(a:Bd 64 j):IntMulOk i j:=.of_right a.bits
def rI2(C:Int->Int->Prop)(g:Int->Int->D):R2D:=fun x y M Q=>match x,y with
 |.int i,.int j=>C i j/\Q (g i j) M
 |_,_=>False
section
variable{X:Cx}
theorem cT{f:G0->G0->Sem G0}{C:Int->Int->Prop}{g:Int->Int->V}{g':Int->Int->D}(h:OpR X f (rI C g))(e:∀i j H,Rep X.K H (g' i j) (g i j)):OpD X f (rI2 C g'):=
 gQ h fun v u H Q z9=>by
  obtain⟨x,y,M,R,r1,r2,a,q,fin⟩:=z9
  unfold rI2 at q
  split at q
  ·obtain rfl:v=.int _:=r1
   obtain rfl:u=.int _:=r2
   exact⟨_,_,rfl,rfl,q.1,fin _ _ _ _ .refl (e _ _ _) a q.2⟩
  ·exact q.elim
theorem ri0{f:G0->G0->Sem G0}{g:Int->Int->V}(h:OpR X f (rI0 g)):OpR X f (rI (fun _ _=>True) g):=gQ h fun x y H Q zz1_0=>by obtain⟨i,j,a,b,_,q⟩:=zz1_0;exact(⟨i,j,a,b,q⟩)
def El:R2D:=rI2 (fun _ _=>True) fun i j=>.int (i-j)
def ES:R2D:=rI2 IntMulOk fun i j=>.int (i*j)
def CFd(i j:Int):Prop:=j≠0/\Bd 8000 j
def F8:R2D:=rI2 CFd fun i j=>.int (i.fdiv j)
def Eu:R2D:=rI2 (fun _ j=>j≠0) fun i j=>.int (i.fmod j)
def EM:R2D:=rI2 Fb fun i j=>.int (i^j.toNat)
def FJ:R2D:=rI2 (fun _ _=>True) fun i j=>.bl (decide (i<j))
def FG:R2D:=rI2 (fun _ _=>True) fun i j=>.bl (decide (i<=j))
def FP:R2D:=rI2 (fun _ _=>True) fun i j=>.bl (decide (j<i))
def FL:R2D:=rI2 (fun _ _=>True) fun i j=>.bl (decide (j<=i))
theorem cE:OpD X (IF .Sub) El:=cT (ri0 Cq) fun _ _ _=>by rw[Rep]
theorem aG:OpD X (IF .Mult) ES:=cT (opI fun _ _ _ _ _ _ _ hc q=>mul_int q hc) fun _ _ _=>by rw[Rep]
theorem gw:OpD X (IF .FloorDiv) F8:=cT (opI fun _ _ _ _ _ _ _ hc q=>floordiv_int hc.1 q (.inl (PyProof.noPylong_of_log2 (Nat.lt_trans (hc.2.log2 (by decide)) (by decide))))) fun _ _ _=>by rw[Rep]
theorem fF:OpD X (IF .Mod) Eu:=cT yS fun _ _ _=>by rw[Rep]
theorem gG:OpD X (IF .Pow) EM:=cT CO fun _ _ _=>by rw[Rep]
theorem D7:OpD X (Hc .Lt) FJ:=cT (ri0 EB) fun _ _ _=>by rw[Rep]
theorem Et:OpD X (Hc .LtE) FG:=cT (ri0 EZ) fun _ _ _=>by rw[Rep]
theorem Ee:OpD X (Hc .Gt) FP:=cT (ri0 E8) fun _ _ _=>by rw[Rep]
theorem wY:OpD X (Hc .GtE) FL:=cT (ri0 DR) fun _ _ _=>by rw[Rep]
def AQ:D->MH->DK->Prop:=fun x M Q=>match x with
 |.int i=>Q (.int (-i)) M
 |_=>False
theorem g9:UnR X (unaryOp .USub) (AK X.K AQ):=fun pins s σ H x v Q I r zz2_0=>by obtain⟨d,M,R,r1,a,q,fin⟩:=zz2_0;exact(C4 pins s σ H x v Q I r (by
 unfold AQ at q
 split at q
 ·obtain rfl:x=.int _:=r1;exact⟨_,rfl,fin _ _ _ _ .refl (by rw[Rep]) a q⟩
 ·exact q.elim))
def AD:R2D:=fun x y M Q=>match x,y with
 |.int i,.int j=>Q (.int (i+j)) M
 |.tup a,.tup b=>a≠[]/\a.length+b.length<=GD/\Q (.tup (a++b)) M
 |.ref a,.ref b=>∃xs ys,M a=some (.lst xs)/\M b=some (.lst ys)/\xs.length+ys.length<=GD/\∀p,M p=none->Q (.ref p) (ax M p (.lst (xs++ys)))
 |_,_=>False
theorem aI:OpD X (IF .Add) AD:=gQ (Cp.or (Ad.or CC)) fun v u H Q z9=>by
 obtain⟨x,y,M,R,r1,r2,a,q,fin⟩:=z9;unfold AD at q;split at q
 ·obtain rfl:v=.int _:=r1;obtain rfl:u=.int _:=r2;exact .inl ⟨_,_,rfl,rfl,fin _ _ _ _ .refl (by rw[Rep]) a q⟩
 ·rename_i da db;obtain⟨hn,hl,q⟩:=q;rw[Rep]at r1;obtain⟨p,xs,rfl,hx,rx⟩:=r1;obtain⟨p',ys,rfl,hy,ry⟩:∃a xs,u=V.ref a/\SqT X.K H a xs/\aD X.K H db xs:=by rw[Rep]at r2;exact r2
  have l1:=rx.length;have l2:=ry.length;refine .inr (.inl ⟨p,p',xs,ys,rfl,rfl,hx,hy,?_,by omega,fun e=>?_,fun _ z hz=>?_⟩)
  ·intro e;subst e;exact hn (List.length_eq_zero_iff.mp (by simpa using l1))
  ·subst e;obtain rfl:db=[]:=List.length_eq_zero_iff.mp (by simpa using l2);exact fin _ _ _ _ .refl (by rw[Rep,Ib];exact⟨p,xs,rfl,hx,rx⟩) a q
  ·exact fin _ _ _ _ (.new hz) (by rw[Rep];exact⟨z,_,rfl,SqT.of aW,(rx.append ry).mono (.new hz)⟩) (a.new hz) q
 ·obtain⟨ds,es,e1,e2,hl,q⟩:=q;obtain rfl:v=.ref _:=r1;obtain rfl:u=.ref _:=r2;obtain⟨xs,hx,rx⟩:=a _ _ e1;obtain⟨ys,hy,ry⟩:=a _ _ e2;have l1:=rx.length;have l2:=ry.length;exact .inr (.inr ⟨_,_,xs,ys,rfl,rfl,hx,hy,by omega,fun z hz=>fin _ _ _ _ (.new hz) (by rw[Rep]) (a.l9 hz (rx.append ry)) (q z (a.fresh hz))⟩)
 ·exact q.elim
end
mutual
inductive Pd(M:MH):D->Jx->Prop
 |non:Pd M .non .none
 |bl (b:Bool):Pd M (.bl b) (.bool b)
 |int (i:Int):Pd M (.int i) (.int i)
 |str (x:Str):Pd M (.str x) (.str x)
 |tup {ds:List D} {ps:List Jx}:Pds M ds ps->Pd M (.tup ds) (.tuple ps)
 |rol {ds:List D} {ps:List Jx}:Pds M ds ps->Pd M (.rol ds) (.list ps)
 |lst {a:Addr} {ds:List D} {ps:List Jx}:M a=some (.lst ds)->Pds M ds ps->Pd M (.ref a) (.list ps)
inductive Pds(M:MH):List D->List Jx->Prop
 |nil:Pds M [] []
 |cons {d:D} {ds:List D} {p:Jx} {ps:List Jx}:Pd M d p->Pds M ds ps->Pds M (d::ds) (p::ps)
end
mutual
def pdO:D->Option Jx
 |.non=>some .none
 |.bl b=>some (.bool b)
 |.int i=>some (.int i)
 |.str x=>some (.str x)
 |.tup ds=>match rO ds with
  |some ps=>some (.tuple ps)
  |none=>none
 |_=>none
def rO:List D->Option (List Jx)
 |[]=>some []
 |d::ds=>match pdO d,rO ds with
  |some p,some ps=>some (p::ps)
  |_,_=>none
end
mutual
theorem Pd.of{M:MH}:∀{d:D} {p:Jx},pdO d=some p->Pd M d p
 |.non,p,h=>by rw[pdO]at h;cases h;exact .non
 |.bl b,p,h=>by rw[pdO]at h;cases h;exact .bl b
 |.int i,p,h=>by rw[pdO]at h;cases h;exact .int i
 |.str x,p,h=>by rw[pdO]at h;cases h;exact .str x
 |.ty _,p,h=>by simp[pdO]at h
 |.ref _,p,h=>by simp[pdO]at h
 |.rol _,p,h=>by simp[pdO]at h
 |.tup ds,p,h=>by
  rw[pdO]at h
  cases e:rO ds with
  |none=>rw[e]at h;cases h
  |some ps=>rw[e]at h;cases h;exact .tup (Pds.of e)
theorem Pds.of{M:MH}:∀{ds:List D} {ps:List Jx},rO ds=some ps->Pds M ds ps
 |[],ps,h=>by rw[rO]at h;cases h;exact .nil
 |d::ds,ps,h=>by
  rw[rO]at h
  cases e1:pdO d with
  |none=>rw[e1]at h;cases h
  |some p=>
   cases e2:rO ds with
   |none=>rw[e1,e2]at h;cases h
   |some qs=>rw[e1,e2]at h;cases h;exact .cons (Pd.of e1) (Pds.of e2)
end
section
variable{X:Cx}{pins:List (Addr×Obj)}{σ:L2.St}{H:Hp}{s:G6}{M:MH}
mutual
theorem bI(I:Inv X pins σ H s)(hM:Abs X.K H M):∀{d:D} {p:Jx} {v:V} {u:G0},Pd M d p->Rep X.K H d v->L2.RelV v u->∃as,Reads s.heap u p as
 |_,_,_,_,.non,r,e=>by rw[Rep]at r;subst r;cases e;exact⟨_,.none⟩
 |_,_,_,_,.bl b,r,e=>by rw[Rep]at r;subst r;cases e;exact⟨_,.bool b⟩
 |_,_,_,_,.int i,r,e=>by rw[Rep]at r;subst r;obtain⟨t,rfl⟩:=e;exact⟨_,.int i t⟩
 |_,_,_,_,.str x,r,e=>by rw[Rep]at r;subst r;obtain⟨t,rfl⟩:=e;exact⟨_,.str x t⟩
 |_,_,_,_,.tup hp,r,e=>by
  rw[Rep]at r
  obtain⟨a,xs,rfl,hq,rs⟩:=r
  cases e
  obtain⟨its,rv,⟨o,h1,h2,n,h3⟩,_⟩:=I.tuple hq
  obtain⟨as,hh⟩:=fZ I hM hp rs rv
  exact⟨as,reads_tuple_at h1 h2 h3 (by simpa using hh)⟩
 |_,_,_,_,.rol hp,r,e=>by
  rw[Rep]at r
  obtain⟨a,xs,rfl,hq,rs⟩:=r
  cases e
  obtain⟨its,rv,⟨o,n,h1,h2,_,h3⟩,_⟩:=I.list hq.sql
  obtain⟨as,hh⟩:=fZ I hM hp rs rv
  exact⟨_,reads_list_at h1 h2 h3 (by simpa using hh)⟩
 |_,_,_,_,.lst ha hp,r,e=>by
  rw[Rep]at r
  subst r
  cases e
  obtain⟨xs,hx,rs⟩:=hM _ _ ha
  obtain⟨its,rv,⟨o,n,h1,h2,_,h3⟩,_⟩:=I.list (SqL.of hx)
  obtain⟨as,hh⟩:=fZ I hM hp rs rv
  exact⟨_,reads_list_at h1 h2 h3 (by simpa using hh)⟩
theorem fZ(I:Inv X pins σ H s)(hM:Abs X.K H M):∀{ds:List D} {ps:List Jx} {vs:List V} {us:List G0},Pds M ds ps->aD X.K H ds vs->Vals vs us->∃as,ReadsAll s.heap us ps as
 |_,_,_,_,.nil,r,e=>by rw[aD]at r;subst r;cases e;exact⟨_,.nil⟩
 |_,_,_,_,.cons h1 h2,r,e=>by
  rw[aD]at r
  obtain⟨x,r,rfl,r1,r2⟩:=r
  cases e with
  |cons e1 e2=>
   obtain⟨as,q1⟩:=bI I hM h1 r1 e1
   obtain⟨bs,q2⟩:=fZ I hM h2 r2 e2
   exact⟨_,.cons q1 q2⟩
end
end
inductive rEqG(g:Bool->Bool)(x y:D)(M:MH)(Q:DK):Prop
 |mk (p q:Jx) (h1:Pd M x p) (h2:Pd M y q) (h3:IZ p=true) (h4:IZ q=true) (hq:Q (.bl (g (Hu p q))) M):rEqG g x y M Q
def DD:R2D:=fun x y M Q=>match x,y with
 |.int i,.int j=>Q (.bl (decide (i=j))) M
 |.bl i,.bl j=>Q (.bl (decide (i=j))) M
 |x,y=>rEqG (fun b=>b) x y M Q
def CP:R2D:=fun x y M Q=>match x,y with
 |.int i,.int j=>Q (.bl (!decide (i=j))) M
 |.bl i,.bl j=>Q (.bl (!decide (i=j))) M
 |x,y=>rEqG (fun b=>!b) x y M Q
section
variable{X:Cx}
theorem Bc(hu:X.A.units+64<HG):OpD X (Hc .Eq) (rEqG fun b=>b):=by intro pins s σ H v u v' u' Q I rv ru h;obtain⟨x,y,M,R,r1,r2,a,⟨p,q,p1,p2,s1,s2,hq⟩,fin⟩:=h;obtain⟨as,q1⟩:=bI I a p1 r1 rv;obtain⟨bs,q2⟩:=bI I a p2 r2 ru;exact eq_dataH q1 q2 s1 s2 hu ⟨.bl _,H,I,rfl,fin _ _ _ _ .refl (by rw[Rep]) a hq⟩
theorem Cy(hu:X.A.units+64<HG):OpD X (Hc .NotEq) (rEqG fun b=>!b):=by intro pins s σ H v u v' u' Q I rv ru h;obtain⟨x,y,M,R,r1,r2,a,⟨p,q,p1,p2,s1,s2,hq⟩,fin⟩:=h;obtain⟨as,q1⟩:=bI I a p1 r1 rv;obtain⟨bs,q2⟩:=bI I a p2 r2 ru;exact ne_dataH q1 q2 s1 s2 hu ⟨.bl _,H,I,rfl,fin _ _ _ _ .refl (by rw[Rep]) a hq⟩
theorem jN{i j:Int}:(i==j)=decide (i=j):=by by_cases h:i=j<;>simp[h]
theorem p5{i j:Bool}:(i==j)=decide (i=j):=by cases i<;>cases j<;>rfl
theorem cK(hu:X.A.units+64<HG):OpD X (Hc .Eq) DD:=gQ (Bc hu) fun v u H Q z9=>by
 obtain⟨x,y,M,R,r1,r2,a,q,fin⟩:=z9;refine⟨x,y,M,R,r1,r2,a,?_,fin⟩;unfold DD at q;split at q
 ·exact⟨_,_,.int _,.int _,rfl,rfl,by simpa[Hu,jN]using q⟩
 ·exact⟨_,_,.bl _,.bl _,rfl,rfl,by simpa[Hu,p5]using q⟩
 ·exact q
theorem jq(hu:X.A.units+64<HG):OpD X (Hc .NotEq) CP:=gQ (Cy hu) fun v u H Q z9=>by
 obtain⟨x,y,M,R,r1,r2,a,q,fin⟩:=z9;refine⟨x,y,M,R,r1,r2,a,?_,fin⟩;unfold CP at q;split at q
 ·exact⟨_,_,.int _,.int _,rfl,rfl,by simpa[Hu,jN]using q⟩
 ·exact⟨_,_,.bl _,.bl _,rfl,rfl,by simpa[Hu,p5]using q⟩
 ·exact q
def isC:D->D->Option Bool
 |.non,.non=>some true
 |.non,.bl _=>some false
 |.bl _,.non=>some false
 |.bl a,.bl b=>some (decide (a=b))
 |_,.non=>some false
 |_,.bl _=>some false
 |_,_=>none
inductive rIsG(g:Bool->Bool)(x y:D)(M:MH)(Q:DK):Prop
 |mk (b:Bool) (h:isC x y=some b) (q:Q (.bl (g b)) M):rIsG g x y M Q
def FH:R2D:=rIsG fun b=>b
theorem ua{K:G5}{H:Hp}{x y:D}{b:Bool}{v u:V}{v' u':G0}(h:isC x y=some b)(r1:Rep K H x v)(r2:Rep K H y u)(rv:L2.RelV v v')(ru:L2.RelV u u'):plainIs v' u'=true/\(v'==u')=b:=by
 have hu:u'=.none\/∃c,u'=.bool c:=by
  cases y with
  |non=>rw[Rep]at r2;subst r2;exact .inl ru
  |bl c=>rw[Rep]at r2;subst r2;exact .inr ⟨c,ru⟩
  |_=>cases x<;>exact absurd (show(none:Option Bool)=some b from h) (fun z=>nomatch z)
 cases x with
 |non=>
  rw[Rep]at r1;subst r1;cases (show v'=Iv from rv)
  cases y<;>try exact absurd (show(none:Option Bool)=some b from h) (fun z=>nomatch z)
  ·rw[Rep]at r2;subst r2;cases (show u'=Iv from ru);cases (show some true=some b from h);exact⟨rfl,rfl⟩
  ·rw[Rep]at r2;subst r2;cases (show u'=JB _ from ru);cases (show some false=some b from h);exact⟨rfl,rfl⟩
 |bl c=>
  rw[Rep]at r1;subst r1;cases (show v'=JB _ from rv)
  cases y<;>try exact absurd (show(none:Option Bool)=some b from h) (fun z=>nomatch z)
  ·rw[Rep]at r2;subst r2;cases (show u'=Iv from ru);cases (show some false=some b from h);exact⟨rfl,rfl⟩
  ·rename_i c';rw[Rep]at r2;subst r2;cases (show u'=JB _ from ru);cases (show some (decide (c=c'))=some b from h);refine⟨rfl,?_⟩;cases c<;>cases c'<;>rfl
 |int i=>
  rw[Rep]at r1;subst r1;obtain⟨t,rfl⟩:=rv
  cases y<;>first|exact absurd (show(none:Option Bool)=some b from h) (fun z=>nomatch z)|(cases (show some false=some b from h);rcases hu with rfl|⟨c,rfl⟩<;>exact⟨rfl,rfl⟩)
 |str i=>
  rw[Rep]at r1;subst r1;obtain⟨t,rfl⟩:=rv
  cases y<;>first|exact absurd (show(none:Option Bool)=some b from h) (fun z=>nomatch z)|(cases (show some false=some b from h);rcases hu with rfl|⟨c,rfl⟩<;>exact⟨rfl,rfl⟩)
 |ty i=>
  rw[Rep]at r1;subst r1;cases (show v'=JC _ from rv)
  cases y<;>first|exact absurd (show(none:Option Bool)=some b from h) (fun z=>nomatch z)|(cases (show some false=some b from h);rcases hu with rfl|⟨c,rfl⟩<;>exact⟨rfl,rfl⟩)
 |ref i=>
  rw[Rep]at r1;subst r1;cases (show v'=HS _ from rv)
  cases y<;>first|exact absurd (show(none:Option Bool)=some b from h) (fun z=>nomatch z)|(cases (show some false=some b from h);rcases hu with rfl|⟨c,rfl⟩<;>exact⟨rfl,rfl⟩)
 |rol i=>
  rw[Rep]at r1;obtain⟨a,xs,rfl,_,_⟩:=r1;cases (show v'=HS _ from rv)
  cases y<;>first|exact absurd (show(none:Option Bool)=some b from h) (fun z=>nomatch z)|(cases (show some false=some b from h);rcases hu with rfl|⟨c,rfl⟩<;>exact⟨rfl,rfl⟩)
 |tup i=>
  rw[Rep]at r1;obtain⟨a,xs,rfl,_,_⟩:=r1;cases (show v'=HS _ from rv)
  cases y<;>first|exact absurd (show(none:Option Bool)=some b from h) (fun z=>nomatch z)|(cases (show some false=some b from h);rcases hu with rfl|⟨c,rfl⟩<;>exact⟨rfl,rfl⟩)
theorem wD:OpD X (Hc .Is) FH:=by intro pins s σ H v u v' u' Q I rv ru h;obtain⟨x,y,M,R,r1,r2,a,⟨b,e,q⟩,fin⟩:=h;obtain⟨e1,e2⟩:=ua e r1 r2 rv ru;exact wpAny_is_plain e1 ⟨.bl b,H,I,by rw[e2];rfl,fin _ _ _ _ .refl (by rw[Rep]) a q⟩
end
abbrev RC:=List D->MH->DK->Prop
def AV(K:G5)(r:RC):List V->Hp->VK->Prop:=fun vs H Q=>∃ds M R,aD K H ds vs/\Abs K H M/\r ds M R/\Fin K H R Q
def eK(X:Cx)(f:G0)(r:RC):Prop:=cu X f (AV X.K r)
theorem cw{X:Cx}{f:G0}{r r':List V->Hp->VK->Prop}(h:cu X f r)(k:∀xs H Q,r' xs H Q->r xs H Q):cu X f r':=fun pins s σ H xs us Q I a q=>h pins s σ H xs us Q I a (k _ _ _ q)
def Ce(r:RC)(t:TAD):TD:=fun δ M Q=>t δ M fun ds M1=>r ds M1 Q
theorem sO{K:G5}{r:RC}{t:TAD}{σ:L2.St}{H:Hp}{Q:VK}(h:lift K (Ce r t) σ H Q):tCB (AV K r) (vZ K t) σ H Q:=by obtain⟨δ,M,R,hs,hM,q,fin⟩:=h;exact⟨δ,M,_,hs,hM,q,fun ds M1 vs H1 g1 r1 a1 q1=>⟨ds,M1,R,r1,a1,q1,fin.go g1⟩⟩
section
variable{X:Cx}{x:Str}{p pos:Pos}{e:Expr}{es:List Expr}{t:TAD}{id T:String}{r:RC}
theorem aO(hc:eK X (.builtin id) r)(hg:Gl X x)(hm:X.mg x=none)(hv:HL x=some (.builtin id))(ha:DA X (e::es) t)(hn:x≠"__name__":=by decide)(hdb:(x==("__debug__":Str))=false:=by decide) (he:GH (e::es) X.env=(false,eval e X.env)::GH es X.env:=by rfl) (hpl:(Ij pos (GH es X.env)).any (·.1)=false:=by rfl):DE X (.Call (.Name x p) (e::es) [] pos) (Ce r t):=aZ (vQ hc hg hm hv ha hn hdb he hpl) fun _ _ _ h=>sO h
theorem dq(hc:eK X (.type T) r)(hg:Gl X x)(hm:X.mg x=none)(hv:HL x=some (.type T))(ha:DA X (e::es) t)(hn:x≠"__name__":=by decide)(hdb:(x==("__debug__":Str))=false:=by decide) (he:GH (e::es) X.env=(false,eval e X.env)::GH es X.env:=by rfl) (hpl:(Ij pos (GH es X.env)).any (·.1)=false:=by rfl):DE X (.Call (.Name x p) (e::es) [] pos) (Ce r t):=aZ (uq hc hg hm hv ha hn hdb he hpl) fun _ _ _ h=>sO h
theorem cJ{K:G5}{H:Hp}{d:D}{vs:List V}(h:aD K H [d] vs):∃v,vs=[v]/\Rep K H d v:=by rw[aD]at h;obtain⟨x,r,rfl,h1,h2⟩:=h;rw[aD]at h2;subst h2;exact⟨x,rfl,h1⟩
theorem fM{K:G5}{H:Hp}{d e:D}{vs:List V}(h:aD K H [d,e] vs):∃v u,vs=[v,u]/\Rep K H d v/\Rep K H e u:=by rw[aD]at h;obtain⟨x,r,rfl,h1,h2⟩:=h;obtain⟨u,rfl,h3⟩:=cJ h2;exact⟨x,u,rfl,h1,h3⟩
def D9:RC:=fun ds M Q=>match ds with
 |[.int i]=>Q (.int (i.natAbs:Int)) M
 |_=>False
theorem ou:eK X (.builtin "abs") D9:=cw wU fun vs H Q z9=>by
 obtain⟨ds,M,R,rs,a,q,fin⟩:=z9;unfold D9 at q;split at q
 ·rename_i i;obtain⟨v,rfl,r⟩:=cJ rs;rw[Rep]at r;subst r;have e:(if i<0 then -i else i)=(i.natAbs:Int):=by split<;>omega
  exact⟨_,rfl,fin _ _ _ _ .refl (by rw[Rep,e]) a q⟩
 ·exact q.elim
def E2:RC:=fun ds M Q=>match ds with
 |[.int i,.int j]=>Q (.int (max i j)) M
 |_=>False
def Ez:RC:=fun ds M Q=>match ds with
 |[.int i,.int j]=>Q (.int (min i j)) M
 |_=>False
theorem B4(hc:X.calm=true):eK X (.builtin "max") E2:=cw (uK hc) fun vs H Q z9=>by
 obtain⟨ds,M,R,rs,a,q,fin⟩:=z9;unfold E2 at q;split at q
 ·rename_i i j;obtain⟨v,u,rfl,r,r'⟩:=fM rs;rw[Rep]at r;subst r;have r2:u=.int j:=by rw[Rep]at r';exact r'
  subst r2;have e:(if j>i then j else i)=max i j:=by split<;>omega
  exact⟨_,_,rfl,fin _ _ _ _ .refl (by rw[Rep,e]) a q⟩
 ·exact q.elim
theorem Dl(hc:X.calm=true):eK X (.builtin "min") Ez:=cw (uU hc) fun vs H Q z9=>by
 obtain⟨ds,M,R,rs,a,q,fin⟩:=z9;unfold Ez at q;split at q
 ·rename_i i j;obtain⟨v,u,rfl,r,r'⟩:=fM rs;rw[Rep]at r;subst r;have r2:u=.int j:=by rw[Rep]at r';exact r'
  subst r2;have e:(if j<i then j else i)=min i j:=by split<;>omega
  exact⟨_,_,rfl,fin _ _ _ _ .refl (by rw[Rep,e]) a q⟩
 ·exact q.elim
def Dv:RC:=fun ds M Q=>match ds with
 |[.tup xs]=>Q (.int (xs.length:Int)) M
 |[.rol xs]=>Q (.int (xs.length:Int)) M
 |[.ref l]=>∃xs,M l=some (.lst xs)/\Q (.int (xs.length:Int)) M
 |_=>False
theorem dP:eK X (.builtin "len") Dv:=cw nJ fun vs H Q z9=>by
 obtain⟨ds,M,R,rs,a,q,fin⟩:=z9;unfold Dv at q;split at q
 ·obtain⟨v,rfl,r⟩:=cJ rs;rw[Rep]at r;obtain⟨l,xs,rfl,h1,h2⟩:=r;exact⟨l,xs,rfl,.inr h1,fin _ _ _ _ .refl (by rw[Rep,h2.length]) a q⟩
 ·obtain⟨v,rfl,r⟩:=cJ rs;rw[Rep]at r;obtain⟨l,xs,rfl,h1,h2⟩:=r;exact⟨l,xs,rfl,.inl h1.sql,fin _ _ _ _ .refl (by rw[Rep,h2.length]) a q⟩
 ·obtain⟨v,rfl,r⟩:=cJ rs;rw[Rep]at r;subst r;obtain⟨xs,e,q⟩:=q;obtain⟨ys,h1,h2⟩:=a _ _ e;exact⟨_,ys,rfl,.inl (SqL.of h1),fin _ _ _ _ .refl (by rw[Rep,h2.length]) a q⟩
 ·exact q.elim
def wZ:RC:=fun ds M Q=>match ds with
 |[.tup xs]=>Q (.tup xs) M
 |[.rol xs]=>Q (.tup xs) M
 |[.ref l]=>∃xs,M l=some (.lst xs)/\Q (.tup xs) M
 |_=>False
theorem wJ:eK X (.type "tuple") wZ:=cw mi fun vs H Q z9=>by
 obtain⟨ds,M,R,rs,a,q,fin⟩:=z9;unfold wZ at q;split at q
 ·obtain⟨v,rfl,r⟩:=cJ rs;rw[Rep]at r;obtain⟨l,xs,rfl,h1,h2⟩:=r;exact⟨l,xs,rfl,.inr ⟨h1,fin _ _ _ _ .refl (by rw[Rep];exact⟨l,xs,rfl,h1,h2⟩) a q⟩⟩
 ·obtain⟨v,rfl,r⟩:=cJ rs;rw[Rep]at r;obtain⟨l,xs,rfl,h1,h2⟩:=r;exact⟨l,xs,rfl,.inl ⟨h1.sql,fun p hp=>fin _ _ _ _ (.new hp) (by rw[Rep];exact⟨p,xs,rfl,SqT.of aW,h2.mono (.new hp)⟩) (a.new hp) q⟩⟩
 ·obtain⟨v,rfl,r⟩:=cJ rs;rw[Rep]at r;subst r;obtain⟨xs,e,q⟩:=q;obtain⟨ys,h1,h2⟩:=a _ _ e;exact⟨_,ys,rfl,.inl ⟨SqL.of h1,fun p hp=>fin _ _ _ _ (.new hp) (by rw[Rep];exact⟨p,ys,rfl,SqT.of aW,h2.mono (.new hp)⟩) (a.new hp) q⟩⟩
 ·exact q.elim
def Ap:RC:=fun ds M Q=>match ds with
 |[.int i]=>Q (.int i) M
 |[.bl k]=>Q (.int (if k=true then 1 else 0)) M
 |_=>False
theorem qh:eK X (.type "int") Ap:=cw uO fun vs H Q z9=>by
 obtain⟨ds,M,R,rs,a,q,fin⟩:=z9;unfold Ap at q;split at q
 ·obtain⟨v,rfl,r⟩:=cJ rs;rw[Rep]at r;subst r;exact .inl ⟨_,rfl,fin _ _ _ _ .refl (by rw[Rep]) a q⟩
 ·obtain⟨v,rfl,r⟩:=cJ rs;rw[Rep]at r;subst r;exact .inr ⟨_,rfl,fin _ _ _ _ .refl (by rw[Rep]) a q⟩
 ·exact q.elim
end
abbrev TGD:=D->DS->MH->(DS->MH->Prop)->Prop
abbrev rA:=List D->DS->MH->(DS->MH->Prop)->Prop
section
variable(K:G5)
def xV(H:Hp)(R:DS->MH->Prop)(Q:L2.St->Hp->Prop):Prop:=∀δ' M' σ' H',Grow K H H'->Slots K H' δ' σ'->Abs K H' M'->R δ' M'->Q σ' H'
def Ep(t:TGD):TG:=fun v σ H Q=>∃d δ M R,Rep K H d v/\Slots K H δ σ/\Abs K H M/\t d δ M R/\xV K H R Q
def Bm(t:rA):TGs:=fun vs σ H Q=>∃ds δ M R,aD K H ds vs/\Slots K H δ σ/\Abs K H M/\t ds δ M R/\xV K H R Q
end
theorem xV.go{K:G5}{H H1:Hp}{R:DS->MH->Prop}{Q:L2.St->Hp->Prop}(g:Grow K H H1)(h:xV K H R Q):xV K H1 R Q:=fun d M v H' g'=>h d M v H' (g.trans g')
def DG(X:Cx)(e:Expr)(t:TGD):Prop:=PG X e (Ep X.K t)
def DGs(X:Cx)(es:List Expr)(t:rA):Prop:=PGs X es (Bm X.K t)
theorem rJ{X:Cx}{e:Expr}{t t':TG}(h:PG X e t)(k:∀v σ H Q,t' v σ H Q->t v σ H Q):PG X e t':=fun pins s σ H v u Q I r q=>h pins s σ H v u Q I r (k _ _ _ _ q)
theorem sN{X:Cx}{e:List Expr}{t t':TGs}(h:PGs X e t)(k:∀v σ H Q,t' v σ H Q->t v σ H Q):PGs X e t':=fun pins s σ H v u Q I r q=>h pins s σ H v u Q I r (k _ _ _ _ q)
section
variable{X:Cx}{pos:Pos}
def br(i:Nat):TGD:=fun d δ M Q=>Q (δ.set i (some d)) M
theorem ay(i:Nat){x:Str}(hN:X.N.Nodup)(hi:X.N[i]?=some x:=by rfl)(hx:Loc X.env.scope x:=by first|exact Or.inl rfl|exact Or.inr rfl)(hf:X.fn x=true\/X.env.scope.names.lookup x=some .local:=by first|exact .inl rfl|exact .inr rfl|assumption):DG X (.Name x pos) (br i):=rJ (sF hN hi hx hf) fun v σ H Q zz1_0=>by obtain⟨d,δ,M,R,r,hs,a,q,fin⟩:=zz1_0;exact(fin _ _ _ _ .refl (hs.set r i) a q)
def EH:rA:=fun ds δ M Q=>ds=[]/\Q δ M
inductive gConsD(t:TGD)(u:rA)(ds:List D)(δ:DS)(M:MH)(Q:DS->MH->Prop):Prop
 |mk (d:D) (r:List D) (h:ds=d::r) (q:t d δ M fun δ' M'=>u r δ' M' Q):gConsD t u ds δ M Q
theorem ba:DGs X [] EH:=sN t5 fun vs σ H Q z9=>by obtain⟨ds,δ,M,R,rs,hs,a,⟨e,q⟩,fin⟩:=z9;subst e;rw[aD]at rs;exact⟨rs,fin _ _ _ _ .refl hs a q⟩
theorem aA{e:Expr}{es:List Expr}{t:TGD}{u:rA}(h1:DG X e t)(h2:DGs X es u) (hs:(Ju (e::es) X.env).map (·.2)=Jw e X.env::(Ju es X.env).map (·.2):=by rfl):DGs X (e::es) (gConsD t u):=sN (lH h1 h2 hs) fun vs σ H Q z9=>by obtain⟨ds,δ,M,R,rs,hs,a,⟨d,r,e,q⟩,fin⟩:=z9;subst e;rw[aD]at rs;obtain⟨x,xs,rfl,r1,r2⟩:=rs;exact⟨x,xs,rfl,d,δ,M,_,r1,hs,a,q,fun δ' M' σ' H' g' s' a' q'=>⟨r,δ',M',R,r2.mono g',s',a',q',fin.go g'⟩⟩
inductive gTupD(n:Nat)(t:rA)(d:D)(δ:DS)(M:MH)(Q:DS->MH->Prop):Prop
 |mk (ds:List D) (h:d=.tup ds) (q:ds.length=n/\t ds δ M Q):gTupD n t d δ M Q
theorem bH{es:List Expr}{k:Nat}{t:rA}{n:Nat}(hc:X.calm=true)(h:DGs X es t) (hn:(Ju es X.env).length=n:=by rfl) (hst:(Ju es X.env).findIdx? (·.1)=none:=by rfl):DG X (.Tuple es k pos) (gTupD n t):=rJ (vU hc h hn hst) fun v σ H Q z9=>by obtain⟨d,δ,M,R,r,hs,a,⟨ds,e,hl,q⟩,fin⟩:=z9;subst e;rw[Rep]at r;obtain⟨p,xs,rfl,h1,h2⟩:=r;exact⟨p,xs,rfl,h1,by rw[<-h2.length];exact hl,ds,δ,M,R,h2,hs,a,q,fin⟩
def Au:D->D->D->MH->(MH->Prop)->Prop:=fun o i v M Q=>match o,i with
 |.ref p,.int k=>∃ds j,M p=some (.lst ds)/\ixN ds.length k=some j/\Q (ax M p (.lst (ds.set j v)))
 |_,_=>False
def E3(to ti:TD):TGD:=fun v δ M Q=>to δ M fun o M1=>ti δ M1 fun i M2=>Au o i v M2 fun M3=>Q δ M3
theorem nG{o i:Expr}{to ti:TD}(ho:DE X o to)(hi:DE X i ti)
 (ha:∀v,Jw (.Subscript o i pos) X.env v=(do
  let ov <-holding [v] (eval o X.env)
  let iv <-holding [v,ov] (eval i X.env)
  standAt pos
  holding [v,ov,iv] (setItem ov iv v)
  release [v,ov,iv] []):=by intro _;rfl):DG X (.Subscript o i pos) (E3 to ti):=
 rJ (B8 ho hi set_list ha) fun v σ H Q ⟨d,δ,M,R,r,hs,a,q,fin⟩=>
  ⟨δ,M,_,hs,a,q,fun o M1 vo H1 g1 r1 a1 q1=>⟨δ,M1,_,hs.mono g1,a1,q1,fun i M2 vi H2 g2 r2 a2 q2=>by
   unfold Au at q2
   split at q2
   ·obtain⟨ds,j,e1,e2,q2⟩:=q2
    obtain rfl:vo=.ref _:=r1
    obtain rfl:vi=.int _:=r2
    obtain⟨xs,h1,h2⟩:=a2 _ _ e1
    refine⟨_,xs,_,j,rfl,rfl,h1,by rw[<-h2.length];exact e2,?_⟩
    have g3:Grow X.K H2 (upd H2 _ (.lst (xs.set j v))):=.lst h1
    exact fin _ _ _ _ ((g1.trans g2).trans g3) (hs.mono ((g1.trans g2).trans g3)) (a2.vm h1 (h2.set (r.mono (g1.trans g2)) j)) q2
   ·exact q2.elim⟩⟩
end
section
variable{X:Cx}{pos:Pos}{st:Stmt}{rest:List Stmt}{t u:TSD}
def dO:TSD:=fun B δ M=>B.nx δ M
def gC(t u:TSD):TSD:=fun B δ M=>t { B with nx:=u B } δ M
theorem aP:DSs X [] dO:=sP y8 fun E σ H zz2_0=>by obtain⟨δ,M,hs,a,B,ok,q⟩:=zz2_0;exact(ok.nx _ _ _ _ .refl hs a q)
theorem ai(h1:DSt X st t)(h2:DSs X rest u):DSs X (st::rest) (gC t u):=sP (wj h1 h2) fun E σ H zz3_0=>by obtain⟨δ,M,hs,a,B,ok,q⟩:=zz3_0;exact(⟨δ,M,hs,a,{ B with nx:=u B },⟨fun δ' M' σ' H' g s' a' q'=>⟨δ',M',s',a',B,ok.go g,q'⟩,ok.rt,ok.bk,ok.ct⟩,q⟩)
theorem ao(h1:DSt X st t):DSs X [st] t:=Ah h1
def zN:TSD:=fun _ _ _=>False
theorem pg:DSt X st zN:=cD vP fun E σ H zz7_0=>by obtain⟨δ,M,hs,a,B,ok,q⟩:=zz7_0;exact(q.elim)
def ff(te:TD):TSD:=fun B δ M=>te δ M fun _ M1=>B.nx δ M1
theorem cR{e:Expr}{te:TD}(he:DE X e te)(hs:J5 e none pos.line X.env=pure false:=by rfl):DSt X (.Expr e pos) (ff te):=cD (yK he hs) fun E σ H zz9_0=>by obtain⟨δ,M,hs,a,B,ok,q⟩:=zz9_0;exact(⟨δ,M,_,hs,a,q,fun d M1 v H1 g1 r1 a1 q1=>ok.nx _ _ _ _ g1 (hs.mono g1) a1 q1⟩)
def h8(te:TD):TSD:=fun B δ M=>te δ M B.rt
theorem aB{e:Expr}{te:TD}(he:DE X e te):DSt X (.Return (some e) pos) (h8 te):=cD (CT he) fun E σ H zz10_0=>by obtain⟨δ,M,hs,a,B,ok,q⟩:=zz10_0;exact(⟨δ,M,_,hs,a,q,fun d M1 v H1 g1 r1 a1 q1=>ok.rt _ _ _ _ g1 r1 a1 q1⟩)
def gV(c:TTD)(t u:TSD):TSD:=fun B δ M=>c δ M fun b M1=>if b=true then t B δ M1 else u B δ M1
theorem bF{c:Expr}{a b:List Stmt}{tc:TTD}(hc:DT X c tc)(ha:DSs X a t)(hb:DSs X b u):DSt X (.If c a b pos) (gV tc t u):=
 cD (ER hc ha hb) fun E σ H zz12_0=>by obtain⟨δ,M,hs,a,B,ok,q⟩:=zz12_0;exact(⟨δ,M,_,hs,a,q,fun c M1 H1 g1 a1 q1=>by
  cases c with
  |true=>rw[if_pos rfl]at q1 ⊢;exact⟨δ,M1,hs.mono g1,a1,B,ok.go g1,q1⟩
  |false=>rw[if_neg GA]at q1 ⊢;exact⟨δ,M1,hs.mono g1,a1,B,ok.go g1,q1⟩⟩)
def dX(te:TD)(g:TGD):TSD:=fun B δ M=>te δ M fun d M1=>g d δ M1 B.nx
theorem cv{tg e:Expr}{te:TD}{g:TGD}(he:DE X e te)(hg:DG X tg g)(hs:swapsWithSole [tg] e pos.line X.env=pure false:=by rfl)(hw:swappedStores [tg] e X.env=pure none:=by rfl)
 (h1:(Ju [tg] X.env).map (·.2)=[Jw tg X.env]:=by rfl):DSt X (.Assign [tg] e pos) (dX te g):=
 cD (Cd he hg hs hw h1) fun E σ H zz13_0=>by obtain⟨δ,M,hs,a,B,ok,q⟩:=zz13_0;exact(⟨δ,M,_,hs,a,q,fun d M1 v H1 g1 r1 a1 q1=>
  ⟨d,δ,M1,B.nx,r1,hs.mono g1,a1,q1,fun δ' M' σ' H' g' s' a' q'=>ok.nx _ _ _ _ (g1.trans g') s' a' q'⟩⟩)
theorem az(i:Nat){x:Str}{e:Expr}{te:TD}{pos':Pos}(hN:X.N.Nodup)(he:DE X e te)(hi:X.N[i]?=some x:=by rfl)(hx:Loc X.env.scope x:=by first|exact Or.inl rfl|exact Or.inr rfl)(hs:J5 e (some (.Name x pos')) pos.line X.env=pure false:=by rfl) (hf:X.fn x=true\/X.env.scope.names.lookup x=some .local:=by first|exact .inl rfl|exact .inr rfl|assumption):DSt X (.Assign [.Name x pos'] e pos) (dX te (br i)):=cD (BD hN hi hx he hs hf) fun E σ H zz14_0=>by obtain⟨δ,M,hs,a,B,ok,q⟩:=zz14_0;exact(⟨δ,M,_,hs,a,q,fun d M1 v H1 g1 r1 a1 q1=>ok.nx _ _ _ _ g1 ((hs.mono g1).set r1 i) a1 q1⟩)
def Fh(i j:Nat)(ta:TAD):TSD:=fun B δ M=>ta δ M fun ds M1=>∃d e,ds=[d,e]/\B.nx ((δ.set i (some d)).set j (some e)) M1
theorem eV(i j:Nat){x y:Str}{a b:Expr}{ta:TAD}{px py pt:Pos}{kt k2 pt2}(hc:X.calm=true)(hN:X.N.Nodup)(ha:DA X [a,b] ta)(hij:i≠j:=by decide)(hi:X.N[i]?=some x:=by rfl)(hj:X.N[j]?=some y:=by rfl)
 (hx:X.env.scope.names.lookup x=some .local:=by rfl) (hy:X.env.scope.names.lookup y=some .local:=by rfl)
 (hw:swappedStores [.Tuple [.Name x px,.Name y py] kt pt] (.Tuple [a,b] k2 pt2) X.env=pure (some [x,y]):=by rfl)
 (hs:swapsWithSole [.Tuple [.Name x px,.Name y py] kt pt] (.Tuple [a,b] k2 pt2) pos.line X.env=pure false:=by rfl) :
 DSt X (.Assign [.Tuple [.Name x px,.Name y py] kt pt] (.Tuple [a,b] k2 pt2) pos) (Fh i j ta):=
 cD (Cn hc hN hi hj hij hx hy ha hw hs) fun E σ H zz15_0=>by obtain⟨δ,M,hs,a,B,ok,q⟩:=zz15_0;exact(⟨δ,M,_,hs,a,q,fun ds M1 vs H1 g1 r1 a1 z9=>by
  obtain⟨d,e,z,q1⟩:=z9
  subst z
  obtain⟨v,u,rfl,r2,r3⟩:=fM r1
  exact⟨v,u,rfl,ok.nx _ _ _ _ g1 (((hs.mono g1).set r2 i).set r3 j) a1 q1⟩⟩)
def yG(c:TTD)(tb:TSD):TSD:=fun B δ M=>∃W:Nat->DS->MH->Prop,(∃m,W m δ M)/\∀m δ M,W m δ M->
 c δ M fun b M1=>if b=true then tb { B with nx:=fun δ' M'=>∃m',m'<m/\W m' δ' M',ct:=fun δ' M'=>∃m',m'<m/\W m' δ' M',bk:=B.nx } δ M1 else B.nx δ M1
theorem iq{c:Expr}{body:List Stmt}{tc:TTD}{tb:TSD}(hp:PassesOwn (GG X.prog X.w) X.A X.env X.xe)(hc:DT X c tc)(hb:DSs X body tb):DSt X (.While c body [] pos) (yG tc tb):=
 cD (vD hp hc hb) fun E σ H z9=>by
  obtain⟨δ,M,hs,a,B,ok,W,⟨m,w0⟩,turn⟩:=z9
  refine⟨fun m σ H'=>Grow X.K H H'/\∃δ M,Slots X.K H' δ σ/\Abs X.K H' M/\W m δ M,⟨m,.refl,δ,M,hs,a,w0⟩,?_⟩
  rintro m σ H' ⟨g,δ,M,hs,a,w0⟩
  refine⟨δ,M,_,hs,a,turn m δ M w0,fun b M1 H1 g1 a1 q1=>?_⟩
  cases b with
  |true=>
   rw[if_pos rfl]at q1 ⊢
   refine⟨fun σ2 H2=>∃m',m'<m/\(Grow X.K H H2/\∃δ M,Slots X.K H2 δ σ2/\Abs X.K H2 M/\W m' δ M),fun σ' H' h=>h,δ,M1,hs.mono g1,a1,_,?_,q1⟩
   refine⟨fun δ' M' σ' H' g' s' a' zz16_0=>by obtain⟨m',l,w'⟩:=zz16_0;exact(⟨m',l,(g.trans g1).trans g',δ',M',s',a',w'⟩),fun d M v H' g'=>ok.rt d M v H' ((g.trans g1).trans g'),fun δ' M' σ' H' g' s' a' q'=>ok.nx _ _ _ _ ((g.trans g1).trans g') s' a' q',fun δ' M' σ' H' g' s' a' zz17_0=>by obtain⟨m',l,w'⟩:=zz17_0;exact(⟨m',l,(g.trans g1).trans g',δ',M',s',a',w'⟩)⟩
  |false=>
   rw[if_neg GA]at q1 ⊢
   exact ok.nx _ _ _ _ (g.trans g1) (hs.mono g1) a1 q1
inductive ForW(g:TGD)(tb:TSD)(B:EndsD)(n:Nat)(δ0:DS)(M0:MH):Prop
 |mk (W:Nat->DS->MH->Prop) (w0:W 0 δ0 M0) (turn:∀i δ M,i<n->W i δ M->g (.int (i:Int)) δ M fun δ2 M2=>tb { B with nx:=W (i+1),ct:=W (i+1),bk:=B.nx } δ2 M2) (done:∀δ M,W n δ M->B.nx δ M):ForW g tb B n δ0 M0
inductive ForR(g:TGD)(tb:TSD)(B:EndsD)(ds:List D)(δ0:DS)(M0:MH):Prop
 |mk (n:Nat) (e:ds=[.int (n:Int)]) (q:n<2^60/\ForW g tb B n δ0 M0):ForR g tb B ds δ0 M0
def Cu(ta:TAD)(g:TGD)(tb:TSD):TSD:=fun B δ M=>ta δ M fun ds M1=>ForR g tb B ds δ M1
theorem d8{tg e:Expr}{body:List Stmt}{ta:TAD}{g:TGD}{tb:TSD}{p p2:Pos}(hp:PassesOwn (GG X.prog X.w) X.A X.env X.xe)(hc:X.calm=true)(hg:Gl X "range")(hm:X.mg "range"=none)(ha:DA X [e] ta)(hG:DG X tg g)(hb:DSs X body tb)
 (hs:GH [e] X.env=[(false,eval e X.env)]:=by rfl) (hf:∀x,Hb (.Call (.Name "range" p) [e] [] p2) X.env x=pure x:=by intro _;rfl):DSt X (.For tg (.Call (.Name "range" p) [e] [] p2) body [] pos) (Cu ta g tb):=
 cD (vT hp hc (ug hg hm ha hs) hG hb hf) fun E σ H ⟨δ,M,hs,a,B,ok,q⟩=>⟨δ,M,_,hs,a,q,fun ds M1 vs H1 g1 r1 a1 z9=>by
  obtain⟨n,e,hn,W,w0,turn,done⟩:=z9
  subst e
  obtain⟨v,rfl,r⟩:=cJ r1
  rw[Rep]at r;subst r
  refine⟨(n:Int),rfl,by omega,by omega,?_⟩
  rw[show((n:Int)).toNat=n from by simp]
  refine uY (fun i σ H'=>Grow X.K H H'/\∃δ M,Slots X.K H' δ σ/\Abs X.K H' M/\W i δ M) ⟨g1,δ,M1,hs.mono g1,a1,w0⟩ ?_ ?_
  ·rintro i σ H2 hi ⟨g2,δ,M,s2,a2,w2⟩
   refine⟨.int (i:Int),δ,M,_,by rw[Rep];simp,s2,a2,turn i δ M hi w2,fun δ3 M3 σ3 H3 g3 s3 a3 q3=>?_⟩
   refine⟨δ3,M3,s3,a3,_,?_,q3⟩
   exact⟨fun δ' M' σ' H' g' s' a' w'=>⟨(g2.trans g3).trans g',δ',M',s',a',w'⟩,fun d M v H' g'=>ok.rt d M v H' ((g2.trans g3).trans g'),fun δ' M' σ' H' g' s' a' q'=>ok.nx _ _ _ _ ((g2.trans g3).trans g') s' a' q',fun δ' M' σ' H' g' s' a' w'=>⟨(g2.trans g3).trans g',δ',M',s',a',w'⟩⟩
  ·rintro σ H2 ⟨g2,δ,M,s2,a2,w2⟩
   exact ok.nx _ _ _ _ g2 s2 a2 (done δ M w2)⟩
end
theorem rm{b:Bool}{A B:Prop}(e:b=true)(h:A):if b=true then A else B:=by rw[if_pos e];exact h
theorem iA{b:Bool}{A B:Prop}(e:b=false)(h:B):if b=true then A else B:=by rw[if_neg (by rw[e];exact GA)];exact h
theorem orV{ta tb:TD}{δ:DS}{M:MH}{Q:DK}(c1 c2:Bool)(ha:∀K:DK,K (.bl c1) M->ta δ M K)(hb:c1=false->∀K:DK,K (.bl c2) M->tb δ M K)(hq:Q (.bl (c1||c2)) M):AO ta tb δ M Q:=
 ha _ ⟨c1,rfl,by
  cases c1 with
  |true=>rw[if_pos rfl];exact hq
  |false=>rw[if_neg GA];exact hb rfl _ hq⟩
theorem Aj{ta tb:TD}{δ:DS}{M:MH}{Q:DK}(c1 c2:Bool)(ha:∀K:DK,K (.bl c1) M->ta δ M K)(hb:c1=true->∀K:DK,K (.bl c2) M->tb δ M K)(hq:Q (.bl (c1&&c2)) M):xJ ta tb δ M Q:=
 ha _ ⟨c1,rfl,by
  cases c1 with
  |true=>rw[if_pos rfl];exact hb rfl _ hq
  |false=>rw[if_neg GA];exact hq⟩
theorem orT{ta tb:TTD}{δ:DS}{M:MH}{Q:Bool->MH->Prop}(c1 c2:Bool)(ha:∀K:Bool->MH->Prop,K c1 M->ta δ M K)(hb:c1=false->∀K:Bool->MH->Prop,K c2 M->tb δ M K)(hq:Q (c1||c2) M):EF ta tb δ M Q:=
 ha _ (by
  cases c1 with
  |true=>rw[if_pos rfl];exact hq
  |false=>rw[if_neg GA];exact hb rfl _ hq)
theorem wN{ta tb:TTD}{δ:DS}{M:MH}{Q:Bool->MH->Prop}(c1 c2:Bool)(ha:∀K:Bool->MH->Prop,K c1 M->ta δ M K)(hb:c1=true->∀K:Bool->MH->Prop,K c2 M->tb δ M K)(hq:Q (c1&&c2) M):Aq ta tb δ M Q:=
 ha _ (by
  cases c1 with
  |true=>rw[if_pos rfl];exact hb rfl _ hq
  |false=>rw[if_neg GA];exact hq)
def zX(r r':R2D)(ta tb tc:TD):TD:=fun δ M Q=>ta δ M fun x M1=>tb δ M1 fun y M2=>r x y M2 fun z M3=>∃k,z=.bl k/\if k=true then tc δ M3 fun u M4=>r' y u M4 Q else Q (.bl false) M3
theorem yq{X:Cx}{a b c:Expr}{ta tb tc:TD}{pos:Pos}{op op':CmpOp}{r r':R2D}(ho:OpD X (Hc op) r)(ho':OpD X (Hc op') r')(ha:DE X a ta)(hb:DE X b tb)(hc:DE X c tc)
 (hm:lastMarks [op,op'] [b,c]=false:=by with_unfolding_all rfl):DE X (.Compare a [op,op'] [b,c] pos) (zX r r' ta tb tc):=
 aZ (wt ho ho' ha hb hc hm) fun σ H Q z9=>by
  obtain⟨δ,M,R,hs,hM,q,fin⟩:=z9
  refine⟨δ,M,_,hs,hM,q,fun x M1 v H1 g1 r1 a1 q1=>?_⟩
  refine⟨δ,M1,_,hs.mono g1,a1,q1,fun y M2 u H2 g2 r2 a2 q2=>?_⟩
  refine⟨x,y,M2,_,r1.mono g2,r2,a2,q2,fun z M3 w H3 g3 r3 a3 zz18_0=>?_⟩
  obtain⟨k,e,q3⟩:=zz18_0
  subst e
  rw[Rep]at r3
  refine⟨k,r3,?_⟩
  cases k with
  |true=>
   rw[if_pos rfl]at q3 ⊢
   exact⟨δ,M3,_,hs.mono ((g1.trans g2).trans g3),a3,q3,fun u' M4 w' H4 g4 r4 a4 q4=>⟨y,u',M4,R,r2.mono (g3.trans g4),r4,a4,q4,fin.go (((g1.trans g2).trans g3).trans g4)⟩⟩
  |false=>
   rw[if_neg GA]at q3 ⊢
   exact fin _ _ _ _ ((g1.trans g2).trans g3) (by rw[Rep]) a3 q3
theorem cy{t u:TSD}{B:EndsD}{δ:DS}{M:MH}(W:DS->MH->Prop)(hu:∀δ' M',W δ' M'->u B δ' M')(ht:(∀δ' M',W δ' M'->u B δ' M')->t { B with nx:=u B } δ M):gC t u B δ M:=ht hu
def Sub(M' M:MH):Prop:=∀a o,M' a=some o->M a=some o
def F7(r:Addr)(M' M:MH):Prop:=∀a o,a≠r->M' a=some o->M a=some o
theorem Sub.refl{M:MH}:Sub M M:=fun _ _ h=>h
theorem Sub.trans{M M1 M2:MH}(a:Sub M M1)(b:Sub M1 M2):Sub M M2:=fun x o h=>b x o (a x o h)
theorem Sub.new{M M':MH}{p:Addr}{o:MO}(hp:M p=none)(s:Sub M' M):Sub M' (ax M p o):=fun a u h=>by rw[aj (fun e=>by subst e;rw[s _ _ h]at hp;cases hp)];exact s _ _ h
theorem Sub.Gk{M M':MH}{r:Addr}{o:MO}(s:F7 r M' M):Sub (ax M' r o) (ax M r o):=fun a u h=>by
 by_cases e:a=r
 ·subst e;rw[af]at h ⊢;exact h
 ·rw[aj e]at h ⊢;exact s _ _ e h
inductive Ret(Q:DK)(d:D)(M:MH):Prop
 |mk (M':MH) (s:Sub M' M) (q:Q d M'):Ret Q d M
theorem rtn{Q:DK}{d:D}{M:MH}(q:Q d M):Ret Q d M:=⟨M,.refl,q⟩
abbrev SpD:=List D->MH->DK->Prop
def gO(K:G5)(sp:SpD):Sp:=fun vs H Q _=>∃ds M R,aD K H ds vs/\Abs K H M/\sp ds M R/\Fin K H R Q
def Cal(P:GL)(w:Hk)(K:G5)(mg:Str->Option G0)(base:Heap)(k:Nat)(x:Str)(sp:SpD):Prop:=
 ∃f fd ps,FnOk P w K mg base CX0 k f fd ps (gO K sp)/\mg x=some (.ref f)/\PySem.W.keepIn K (.ref f)=true/\Binds K fd ps []
theorem Cal.mono{P:GL}{w:Hk}{K:G5}{mg:Str->Option G0}{base:Heap}{j k:Nat}{x:Str}{sp:SpD}(h:Cal P w K mg base j x sp)(l:j<=k):Cal P w K mg base k x sp:=let⟨f,fd,ps,F,r⟩:=h;⟨f,fd,ps,F.mono l,r⟩
section
variable{X:Cx}{k:Nat}{x:Str}{sp:SpD}{p pos:Pos}{e:Expr}{es:List Expr}{t:TAD}
def BM(sp:SpD)(t:TAD):TD:=fun δ M Q=>t δ M fun ds M1=>sp ds M1 Q
theorem ak(C:Cal X.prog X.w X.K X.mg X.base k x sp)(hr:Room k X.A)(ha:DA X (e::es) t)(hg:Gl X x:=by rfl)(hdb:(x==("__debug__":Str))=false:=by decide)
 (he:GH (e::es) X.env=(false,eval e X.env)::GH es X.env:=by rfl) (hpl:(Ij pos (GH es X.env)).any (·.1)=false:=by rfl):DE X (.Call (.Name x p) (e::es) [] pos) (BM sp t):=by
 obtain⟨f,fd,ps,F,hm,hk,hb⟩:=C
 refine aZ (yC F hr hg hm hk hb .nil EX ha hdb he hpl) fun σ H Q zz19_0=>?_
 obtain⟨δ,M,R,hs,hM,q,fin⟩:=zz19_0
 refine⟨δ,M,_,hs,hM,q,fun ds M1 vs H1 g1 r1 a1 q1=>?_⟩
 show gO X.K sp (vs++[]) H1 Q E0
 rw[Ib]
 exact⟨ds,M1,R,r1,a1,q1,fin.go g1⟩
end
def fK(N:List Str)(ds:List D):DS:=ds.map some++GZ (N.length-ds.length) none
section
variable{P:GL}{w:Hk}{K:G5}{mg:Str->Option G0}{base:Heap}
theorem fnD{x qual:Str}{st:Stmt}{f:Addr}{fd:JE}{N ps:List Str}{k:Nat}{sp:SpD}(F:Fun K x qual st f fd)(S:FnScope N ps (aq st))(len:∀ds M Q,sp ds M Q->ds.length=ps.length)
 (hbody:∀X:Cx,X.prog=P->True) (body:∀(cdv:G0) (A:Hr) (outer:List Env) (s:G6) (H:Hp) (E:XK),Room k (A.deeper (envOfC qual (aq st) s.heap.objs.size f cdv))->
  ∃t,DSs (i8 CX0 P w K mg base N qual (aq st) f cdv A outer s H E).nox (aY st) t/\∀ds M Q,sp ds M Q->t { nx:=fun _ M'=>Ret Q .non M',rt:=Ret Q } (fK N ds) M):FnOk P w K mg base CX0 (k+1) f fd ps (gO K sp):=by
 refine F.ok S (fun vs H Q E zz20_0=>by obtain⟨ds,M,R,rs,_,q,_⟩:=zz20_0;rw[<-rs.length];exact len _ _ _ q) fun cdv A outer s H vs Q E hr zz21_0=>?_
 obtain⟨ds,M,R,rs,a,q,fin⟩:=zz21_0
 obtain⟨t,h,hq⟩:=body cdv A outer s H E hr
 refine⟨_,h,fK N ds,M,qc rs,a,{ nx:=fun _ M'=>Ret R .non M',rt:=Ret R },⟨fun δ' M' σ' H' g s' a' q'=>?_,fun d M' v H' g r a' zz22_0=>by obtain⟨M2,s2,q'⟩:=zz22_0;exact(fin _ _ _ _ g r (a'.sub s2) q'),fun _ _ _ _ _ _ _ z=>z,fun _ _ _ _ _ _ _ z=>z⟩,hq ds M R q⟩
 obtain⟨M2,s2,q'⟩:=q'
 exact fin .non M2 .non H' g (by rw[Rep]) (a'.sub s2) q'
def Txt(K:G5)(mg:Str->Option G0)(x:Str)(st:Stmt):Prop:=∃f fd,Fun K x x st f fd/\mg x=some (.ref f)
theorem Txt.mk{h:Heap}{x:Str}{st:Stmt}{f:Addr}{oc:G0}{od an:Option Addr}{osl:Array (Option G0)}{kV doc pm cdv ct:G0}(X:K.In h)(G:h.Ns Jl mg)(a:PySem.W.nsIn K Jl x=some (some (.ref f))) (l:K.lookup f=some ⟨oc,od,.func (Il x x (ck st) (aY st) (aq st) .none kV doc pm an cdv ct),osl⟩) (c:PySem.W.codeIn K cdv x=true) (k:PySem.W.keepIn K (.ref f)=true):Txt K mg x st:=⟨f,_,A3 l c k,PySem.W.mg_of X G a⟩
theorem Ae{x:Str}{st:Stmt}{N ps:List Str}{k:Nat}{sp:SpD}(T:Txt K mg x st)(S:FnScope N ps (aq st))
 (hb:∀(kV doc pm:G0) (an:Option Addr) (cdv ct:G0) (us:List G0),us.length=ps.length->bindArgs (Il x x (ck st) (aY st) (aq st) .none kV doc pm an cdv ct) ⟨us,[]⟩=pure (ps.zip us))
 (len:∀ds M Q,sp ds M Q->ds.length=ps.length)
 (body:∀(f:Addr) (cdv:G0) (A:Hr) (outer:List Env) (s:G6) (H:Hp) (E:XK),Room k (A.deeper (envOfC x (aq st) s.heap.objs.size f cdv))->
  ∃t,DSs (i8 CX0 P w K mg base N x (aq st) f cdv A outer s H E).nox (aY st) t/\∀ds M Q,sp ds M Q->t { nx:=fun _ M'=>Ret Q .non M',rt:=Ret Q } (fK N ds) M):Cal P w K mg base (k+1) x sp:=by
 obtain⟨f,fd,F,hm⟩:=T
 exact⟨f,fd,ps,fnD F S len (fun _ _=>trivial) (body f),hm,F.kp,F.binds hb⟩
end
theorem nP:HL "abs"=some (.builtin "abs"):=by decide +kernel
theorem qu:HL "max"=some (.builtin "max"):=by decide +kernel
theorem nU:HL "min"=some (.builtin "min"):=by decide +kernel
theorem dA:HL "len"=some (.builtin "len"):=by decide +kernel
theorem Cs:HL "all"=some (.builtin "all"):=by decide +kernel
theorem xW:HL "tuple"=some (.type "tuple"):=by decide +kernel
theorem tq:HL "list"=some (.type "list"):=by decide +kernel
theorem rE:HL "int"=some (.type "int"):=by decide +kernel
section
variable{P:GL}{w:Hk}{K:G5}{mg:Str->Option G0}
theorem FN{x:Str}{st:Stmt}{N:List Str}{p:Str}{k:Nat}{sp:SpD}{fa:Addr}(T:Txt K mg x st)(hfa:mg x=some (.ref fa))(S:FnScope N [p] (aq st))
 (hb:∀(kV doc pm:G0) (an:Option Addr) (cdv ct:G0) (us:List G0),us.length=[p].length->bindArgs (Il x x (ck st) (aY st) (aq st) .none kV doc pm an cdv ct) ⟨us,[]⟩=pure ([p].zip us))
 (len:∀ds M Q,sp ds M Q->ds.length=[p].length)
 (body:∀(base:Heap) (f:Addr) (cdv:G0) (A:Hr) (outer:List Env) (s:G6) (H:Hp) (E:XK),Room k (A.deeper (envOfC x (aq st) s.heap.objs.size f cdv))->
  ∃t,DSs (i8 CX0 P w K mg base N x (aq st) f cdv A outer s H E).nox (aY st) t/\∀ds M Q,sp ds M Q->t { nx:=fun _ M'=>Ret Q .non M',rt:=Ret Q } (fK N ds) M) :
 ∃fd,(∀(s:G6) (u:G0),BindsTo s fd ⟨[u],[]⟩ [(p,u)])/\∀base:Heap,FnOk P w K mg base CX0 (k+1) fa fd [p] (gO K sp):=by
 obtain⟨f,fd,F,hm⟩:=T
 have e:=hfa.symm.trans hm
 cases e
 refine⟨fd,fun s u=>?_,fun base=>fnD F S len (fun _ _=>trivial) (body base _)⟩
 obtain⟨oc,od,kV,doc,pm,an,cdv,ct,osl,rfl,lk,hcd⟩:=F.ex
 exact .of_eq (hb kV doc pm an cdv ct [u] rfl)
end
theorem vt{l:PySem.W.OpenLaw}{k:Nat}{q:GL}{loose:List Str}{XP:(Str->Option G0)->Heap->Prop}{YP:Hk->Heap->Prop}{d:DefRec}{K:H0->G5}{sp:SpD}{x:Str}
 (hn:l.most=some 63) (hdf:d.params.defaults=[]) (hr:Room k callerA)
 (hY:∀(w:Hk) (h:Heap),YP w h->(K w.params).In h)
 (F:∀(w:Hk) (mg:Str->Option G0) (fa:Addr) (h:Heap),(K w.params).In h->h.Ns Jl mg->mg d.name=some (.ref fa)->
  ∃fd:JE,(∀(s:G6) (u:G0),BindsTo s fd ⟨[u],[]⟩ [(x,u)])/\
   ∀base:Heap,FnOk l.prog w (K w.params) mg base CX0 k fa fd [x] (gO (K w.params) sp))
 (hsp:∀(ns:List Int) (M:MH),ns.length<=63->sp [.rol (ns.map D.int)] M (fun d _=>d=.bl true)) :
 PySem.W.WalkO q loose XP YP l.row.toRowW d [] (fun f vs=>PySem.call f vs):=by
 refine Ab (x:=x) (n:=63) (CX:=fun _=>CX0) (sp:=fun w=>gO (K w.params) sp) hn (by decide) hdf hr hY (fun w mg fa h a b c=>?_) (fun w H a ns hl hO hS=>?_) fun _ _ _ _ _ z=>z
 ·obtain⟨fd,h1,h2⟩:=F w mg fa h a b c
  exact⟨fd,h1,fun base _ _=>h2 base⟩
 ·have hF:SqF (K w.params) H a (ns.map V.int):=by
   rcases hS with(z|z)|z
   ·rcases hO a with y|⟨o,xs,y⟩
    ·rw[z]at y;cases y
    ·rw[z]at y;cases y
   ·exact .inl z
   ·exact .inr z
  refine⟨[.rol (ns.map D.int)],fun _=>none,_,.cons (by rw[Rep];exact⟨a,_,rfl,hF,jj ns⟩) .nil,(fun _ _ e=>nomatch e:Abs (K w.params) H fun _=>none),hsp ns _ hl,fun d M' v H' g r a' e=>?_⟩
  subst e
  rw[Rep]at r
  exact r
end SD
namespace Ma
open PySem PySem.Spec PyProof.Rows L2 SD
abbrev fr(q:Rat):D:=.tup [.int q.num,.int (q.den:Int)]
theorem den_pos(q:Rat):(0:Int)<(q.den:Int):=by have:=q.den_pos;omega
def Bq(n:Nat)(q:Rat):Prop:=Bd n q.num/\Bd n (q.den:Int)
theorem Bq.mono{m n:Nat}{q:Rat}(h:Bq m q)(l:m<=n):Bq n q:=⟨h.1.mono l,h.2.mono l⟩
theorem pJ{t b:Int}(hb:0<b):t.fdiv b=t/b:=HD _ (by omega)
theorem fdiv_neg{t b:Int}(hd:b ∣ t)(hb:0<b):t.fdiv (-b)=-(t/b):=by
 obtain⟨c,rfl⟩:=hd;have hb':b≠0:=by omega
 rw[Int.mul_ediv_cancel_left _ hb'];have:b*c=-b * -c:=by rw[Int.neg_mul_neg]
 rw[this];exact Int.mul_fdiv_cancel_left _ (by omega)
theorem sQ(t b:Int):((Jg t.natAbs b.natAbs:Nat):Int) ∣ t:=Int.ofNat_dvd_left.mpr (Nat.gcd_dvd_left _ _)
theorem tU(t b:Int):((Jg t.natAbs b.natAbs:Nat):Int) ∣ b:=Int.ofNat_dvd_left.mpr (Nat.gcd_dvd_right _ _)
theorem mw(t b:Int):Int.gcd b t=Jg t.natAbs b.natAbs:=by unfold Int.gcd;exact Nat.gcd_comm _ _
theorem eJ{t b:Int}(hb:b≠0):0<Jg t.natAbs b.natAbs:=Nat.gcd_pos_of_pos_right _ (by omega)
theorem tY{t b:Int}(hb:0<b):t.fdiv (Jg t.natAbs b.natAbs:Nat)=(Rat.divInt t b).num/\b.fdiv (Jg t.natAbs b.natAbs:Nat)=((Rat.divInt t b).den:Int):=by
 have hg:=eJ (t:=t) (b:=b) (by omega);rw[pJ (by omega),pJ (by omega),Rat.num_divInt,Rat.den_divInt,if_neg (by omega),HH hb,Int.one_mul,mw];refine⟨rfl,?_⟩;rw[Int.natCast_ediv]
 congr 1
 omega
theorem tu{t b:Int}(hb:b<0):t.fdiv (-((Jg t.natAbs b.natAbs:Nat):Int))=(Rat.divInt t b).num/\b.fdiv (-((Jg t.natAbs b.natAbs:Nat):Int))=((Rat.divInt t b).den:Int):=by
 have hg:=eJ (t:=t) (b:=b) (by omega);rw[fdiv_neg (sQ t b) (by omega),fdiv_neg (tU t b) (by omega),Rat.num_divInt,Rat.den_divInt,if_neg (by omega),Hm hb,mw];constructor
 ·rw[show(-1:Int)*t=-t from by omega,Int.neg_ediv_of_dvd (sQ t b)]
 ·rw[Int.natCast_ediv,show((b.natAbs:Nat):Int)=-b from by omega,Int.neg_ediv_of_dvd (tU t b)]
theorem qO{t b:Int}(hb:b≠0):(Rat.divInt t b).num.natAbs<=t.natAbs/\(Rat.divInt t b).den<=b.natAbs:=by
 constructor
 ·rw[Rat.num_divInt];refine HF (Int.natAbs_ediv_le_natAbs _ _) ?_;rw[Int.natAbs_mul];rcases Gy b 0 with h|h|h
  ·rw[Hm h];simp
  ·exact absurd h hb
  ·rw[HH h];simp
 ·rw[Rat.den_divInt,if_neg hb];exact Nat.div_le_self _ _
theorem Bq.divInt{n:Nat}{t b:Int}(hb:b≠0)(h1:Bd n t)(h2:Bd n b):Bq n (Rat.divInt t b):=by obtain⟨a1,a2⟩:=qO (t:=t) hb;exact⟨Nat.lt_of_le_of_lt a1 h1,Nat.lt_of_le_of_lt (by simpa using a2) h2⟩
theorem sJ(x y:Nat):Int.fmod (x:Int) (y:Int)=((x%y:Nat):Int):=by rw[Int.fmod_eq_emod_of_nonneg _ (by omega)];rfl
theorem qy(q r:Rat):Hu (.tuple [.int q.num,.int (q.den:Int)]) (.tuple [.int r.num,.int (r.den:Int)])=decide (q=r):=by
 simp only[Hu,HX,Bool.and_true];by_cases h:q=r
 ·subst h;simp
 ·rw[decide_eq_false h];rw[Bool.eq_false_iff];intro z;rw[GN,beq_iff_eq,beq_iff_eq]at z;exact h (Rat.ext z.1 (by have:=z.2;omega))
theorem Fd(q r:Rat):decide (q.num*(r.den:Int)<r.num*(q.den:Int))=decide (q<r):=by rw[decide_eq_decide,Rat.lt_iff]
abbrev spt(a b:Rat):D:=.tup [fr a,fr b]
theorem iD(a b c d:Rat):Hu (.tuple [.tuple [.int a.num,.int (a.den:Int)],.tuple [.int b.num,.int (b.den:Int)]]) (.tuple [.tuple [.int c.num,.int (c.den:Int)],.tuple [.int d.num,.int (d.den:Int)]])=decide (a=c/\b=d):=by rw[Hu,HX,HX,HX,qy,qy,Bool.and_true,Jj]
theorem gS(q:Rat):(q.den:Int)≠0:=by have:=q.den_pos;omega
theorem sub_eq(q r:Rat):Rat.divInt (q.num*(r.den:Int)-r.num*(q.den:Int)) ((q.den:Int)*(r.den:Int))=q-r:=by rw[<-Rat.divInt_sub_divInt _ _ (gS q) (gS r),Rat.num_divInt_den,Rat.num_divInt_den]
theorem sT(q r:Rat):(q.den:Int)*(r.den:Int)≠0:=Int.mul_ne_zero (gS q) (gS r)
theorem Bq.so{n:Nat}{q r:Rat}(a:Bq n q)(b:Bq n r):Bd (2*n+1) (q.num*(r.den:Int)-r.num*(q.den:Int)):=((a.1.mul b.2).sub (b.1.mul a.2)).mono (by omega)
def sgn(z:Rat):Int:=if 0<z then 1 else if z<0 then -1 else 0
def cr(a b c d x y:Rat):Rat:=(c-a)*(y-b)-(d-b)*(x-a)
abbrev wll(a b c d:Rat):D:=.tup [spt a b,spt c d]
def ah(a b c d:Rat):Prop:=a<c\/a=c/\b<d
instance(a b c d:Rat):Decidable (ah a b c d):=inferInstanceAs (Decidable (_\/_))
theorem pP(z:Rat):sgn z=0↔z=0:=by
 unfold sgn;split
 ·grind
 ·split<;>grind
theorem pos_int{i:Int}(h:0<i):(0:Rat)<(i:Rat):=by rw[Rat.lt_iff];simpa using h
end Ma
namespace SD
open PySem PySem.Spec PyProof.Rows L2
def eD(names:List (Str×IW))(env:Env):List (Str×Addr):=(names.filter fun y=>y.2==.free).reverse.map fun y=>(y.1,(env.cells.lookup y.1).getD 0)
theorem qk{scope:Ja}{env:Env}(h:∀y∈scope.names,y.2=.free->∃c,env.cells.lookup y.1=some c):closureFor scope env=pure (eD scope.names env):=by
 have key:∀(names:List (Str×IW)) (acc:List (Str×Addr)),(∀y∈names,y.2=.free->∃c,env.cells.lookup y.1=some c)->
  (forIn names acc (fun(x:Str×IW) (r:List (Str×Addr))=>if(x.2==J3)=true then do let a <-cellOf env x.1;pure (IT ((x.1,a)::r))else pure (IT r)):Sem (List (Str×Addr)))=pure (eD names env++acc):=by
  intro names
  induction names with
  |nil=>intro acc _;rfl
  |cons y ys ih=>
   intro acc hy
   obtain⟨n,k⟩:=y
   rw[List.forIn_cons]
   by_cases hk:(k==J3)=true
   ·obtain⟨c,hc⟩:=hy (n,k) (HK ..) (by simpa using hk)
    have e1:cellOf env n=pure c:=by unfold cellOf;rw[hc]
    dsimp only
    rw[if_pos hk,e1]
    simp only[pure_bind]
    rw[ih _ fun y hm=>hy y (Ho _ hm)]
    unfold eD
    rw[List.filter_cons_of_pos (by simpa using hk),List.reverse_cons,GV,Jo]
    simp[hc]
   ·dsimp only
    rw[if_neg hk]
    simp only[pure_bind]
    rw[ih _ fun y hm=>hy y (Ho _ hm)]
    unfold eD
    rw[List.filter_cons_of_neg (by simpa using hk)]
 have:=key scope.names [] h;rw[Ib]at this;unfold closureFor;exact Eq.trans (congrArg (fun t:Sem (List (Str×Addr))=>t >>= fun cs=>pure cs) this) rfl
theorem p8{env:Env}{y:Str}{c:Addr}:∀{names:List (Str×IW)},(∀z∈names,z.2=.free->∃c,env.cells.lookup z.1=some c)->(eD names env).lookup y=some c->env.cells.lookup y=some c:=by intro names h e;have hm:=Hn e;unfold eD at hm;obtain⟨z,hz,e2⟩:=Hi.mp hm;rw[List.mem_reverse,GQ]at hz;obtain⟨c',hc⟩:=h z hz.1 (by simpa using hz.2);rw[hc]at e2;cases e2;exact hc
theorem qe{env:Env}{y:Str}{names:List (Str×IW)}(hm:(y,J3)∈names):∃c,(eD names env).lookup y=some c:=by
 cases e:(eD names env).lookup y with
 |some c=>exact⟨c,rfl⟩
 |none=>
  have:=List.lookup_eq_none_iff.mp e (y,(env.cells.lookup y).getD 0) (Hi.mpr ⟨(y,.free),List.mem_reverse.mpr (GQ.mpr ⟨hm,rfl⟩),rfl⟩)
  simp at this
theorem fG{env:Env}(hk:env.scope.kind=.function):∀{names:List (Str×IW)} {y:Str} {k:IW},
 (names.map fun(n,k)=>if(k==J3&&env.scope.kind==.function&&env.kindOf n==some .cell)then(n,NameKind.cell)else(n,k)).lookup y=some k->
  names.lookup y=some k\/(k=.cell/\names.lookup y=some .free)
 |[],_,_,h=>by simp at h
 |(n,q)::r,y,k,h=>by
  have ih:=@fG env hk r y k
  rw[Gs]at h
  dsimp only at h
  by_cases hy:(y==n)=true
  ·by_cases hc:(q==J3&&env.scope.kind==.function&&env.kindOf n==some .cell)=true
   ·rw[if_pos hc,HY,hy]at h
    have hf:q=.free:=by
     rw[GN,GN]at hc
     simpa using hc.1.1
    cases h
    right
    exact⟨rfl,by rw[HY,hy,hf]⟩
   ·rw[if_neg hc,HY,hy]at h
    left
    rw[HY,hy];exact h
  ·have hy':(y==n)=false:=by simpa using hy
   have h':(r.map fun(n,k)=>if(k==J3&&env.scope.kind==.function&&env.kindOf n==some .cell)then(n,NameKind.cell)else(n,k)).lookup y=some k:=by
    split at h
    ·rw[HY,hy']at h;exact h
    ·rw[HY,hy']at h;exact h
   rw[HY,hy']
   exact ih h'
theorem nO{X:Cx}{tg iter:Expr}{wi wi':TI}(h:PI X tg iter wi)(k:∀σ H R,wi' σ H R->wi σ H R):PI X tg iter wi':=fun pins s σ H R I q=>h pins s σ H R I (k _ _ _ q)
def FX(K:G5)(tl:TE):TI:=fun σ H R=>tl σ H fun x H1=>∃a,x=.ref a/\(((∃xs,SqL K H1 a xs)/\R (Itl K a) H1)\/((∃xs,SqT K H1 a xs)/\R (Itt K a) H1))
theorem CD{X:Cx}{tg l:Expr}{tl:TE}(hl:PE X l tl):PI X tg l (FX X.K tl):=by
 intro pins s σ H R I h;refine thn (hl pins s σ H _ I h) fun v s1 zz1_0=>?_;obtain⟨x,H1,I1,r1,q1⟩:=zz1_0;obtain⟨a,e,z⟩:=q1;subst e;cases r1
 have fp:∀b∈[s1.heap.objs.size],cC X pins H1 b:=fun b hb=>by
  obtain rfl:b=s1.heap.objs.size:=by simpa using hb
  exact I1.oY (Gq _) (I1.hok.fresh (Gq _))
 rcases z with⟨⟨xs,hq⟩,q⟩|⟨⟨xs,hq⟩,q⟩
 ·obtain⟨its,rv,p,hz⟩:=I1.list hq;exact wpAny_pyIter_list p.isList ⟨_,[s1.heap.objs.size],_,_,H1,rfl,I1.kept (t':=s1.toks) fun b o e=>G9 _ e,uE a _,⟨_,Gv _ rfl,rfl,rfl⟩,fp,q⟩
 ·obtain⟨its,rv,p,hz⟩:=I1.tuple hq;exact Jc (show s1.heap.IsTuple a its.toArray from p) ⟨_,[s1.heap.objs.size],_,_,H1,rfl,I1.kept (t':=s1.toks) fun b o e=>G9 _ e,rY a _,⟨_,Gv _ rfl,rfl,rfl⟩,fp,q⟩
structure ItD where
 n:Nat
 item:Nat->Option D
 C:MH->Prop
abbrev TID:=DS->MH->(ItD->MH->Prop)->Prop
structure ItOk(K:G5)(H1:Hp)(I:ItD)(J:It):Prop where
 stop:∀H2 M2,Grow K H1 H2->Abs K H2 M2->I.C M2->J.stop I.n H2
 go:∀i H2 M2,i<I.n->Grow K H1 H2->Abs K H2 M2->I.C M2->J.go i H2
 yld:∀i H2 M2 v H3,i<I.n->Grow K H1 H2->Abs K H2 M2->I.C M2->J.yld i H2 v H3->Grow K H2 H3/\Abs K H3 M2/\∃d,I.item i=some d/\Rep K H3 d v
def ku(K:G5)(t:TID):TI:=fun σ H R=>∃δ M RD,Slots K H δ σ/\Abs K H M/\t δ M RD/\∀I M' H' J,Grow K H H'->Abs K H' M'->RD I M'->ItOk K H' I J->R J H'
def DI(X:Cx)(tg iter:Expr)(t:TID):Prop:=PI X tg iter (ku X.K t)
def BW(M:MH):D->List D->Prop
 |.tup ds,es=>es=ds
 |.rol ds,es=>es=ds
 |.ref a,es=>M a=some (.lst es)
 |_,_=>False
inductive Sq1(d:D)(M:MH)(R:ItD->MH->Prop):Prop
 |mk (ds:List D) (h:BW M d ds) (q:R ⟨ds.length,fun i=>ds[i]?,fun M=>BW M d ds⟩ M):Sq1 d M R
def FW(tl:TD):TID:=fun δ M R=>tl δ M fun d M1=>Sq1 d M1 R
section
variable{X:Cx}{tg:Expr}
theorem aU{l:Expr}{tl:TD}(hl:DE X l tl):DI X tg l (FW tl):=
 nO (CD hl) fun σ H R ⟨δ,M,RD,hs,hM,q,fin⟩=>⟨δ,M,_,hs,hM,q,fun d M1 v H1 g1 r1 a1 z9=>by
  obtain⟨ds,sq,q1⟩:=z9
  cases d with
  |tup es=>
   obtain rfl:ds=es:=sq
   rw[Rep]at r1
   obtain⟨a,xs,rfl,hq,rs⟩:=r1
   refine⟨a,rfl,.inr ⟨⟨xs,hq⟩,fin _ M1 H1 _ g1 a1 q1 ⟨fun H2 _ g2 _ _=>⟨xs,g2.t _ _ hq,by rw[rs.length];exact Gq _⟩,fun i H2 _ hi g2 _ _=>?_,?_⟩⟩⟩
   ·have hi':i<xs.length:=by rw[<-rs.length];exact hi
    exact⟨xs,xs[i],g2.t _ _ hq,by simp[hi']⟩
   ·rintro i H2 M2 v H3 hi g2 a2 _ ⟨rfl,hy⟩
    have hi:i<ds.length:=hi
    obtain⟨x,e1,e2⟩:=(rs.mono g2).get (show ds[i]?=some ds[i] by simp[hi])
    have:=hy xs (g2.t _ _ hq)
    rw[e1]at this;cases this
    exact⟨.refl,a2,_,by simp[hi],e2⟩
  |rol es=>
   obtain rfl:ds=es:=sq
   rw[Rep]at r1
   obtain⟨a,xs,rfl,hq,rs⟩:=r1
   refine⟨a,rfl,.inl ⟨⟨xs,hq.sql⟩,fin _ M1 H1 _ g1 a1 q1 ⟨fun H2 _ g2 _ _=>⟨xs,(g2.f _ _ hq).sql,by rw[rs.length];exact Gq _⟩,fun i H2 _ hi g2 _ _=>?_,?_⟩⟩⟩
   ·have hi':i<xs.length:=by rw[<-rs.length];exact hi
    exact⟨xs,xs[i],(g2.f _ _ hq).sql,by simp[hi']⟩
   ·rintro i H2 M2 v H3 hi g2 a2 _ ⟨rfl,hy⟩
    have hi:i<ds.length:=hi
    obtain⟨x,e1,e2⟩:=(rs.mono g2).get (show ds[i]?=some ds[i] by simp[hi])
    have:=hy xs (g2.f _ _ hq).sql
    rw[e1]at this;cases this
    exact⟨.refl,a2,_,by simp[hi],e2⟩
  |ref a=>
   rw[Rep]at r1;subst r1
   obtain⟨xs,hx,rs⟩:=a1 _ _ (show M1 a=some (.lst ds)from sq)
   refine⟨a,rfl,.inl ⟨⟨xs,SqL.of hx⟩,fin _ M1 H1 _ g1 a1 q1 ⟨fun H2 M2 g2 a2 c2=>?_,fun i H2 M2 hi g2 a2 c2=>?_,?_⟩⟩⟩
   ·obtain⟨ys,hy,ry⟩:=a2 _ _ (show M2 a=some (.lst ds)from c2)
    exact⟨ys,SqL.of hy,by rw[ry.length];exact Gq _⟩
   ·obtain⟨ys,hy,ry⟩:=a2 _ _ (show M2 a=some (.lst ds)from c2)
    have hi':i<ys.length:=by rw[<-ry.length];exact hi
    exact⟨ys,ys[i],SqL.of hy,by simp[hi']⟩
   ·rintro i H2 M2 v H3 hi g2 a2 c2 ⟨rfl,hy⟩
    have hi:i<ds.length:=hi
    obtain⟨ys,hys,ry⟩:=a2 _ _ (show M2 a=some (.lst ds)from c2)
    obtain⟨x,e1,e2⟩:=ry.get (show ds[i]?=some ds[i] by simp[hi])
    have:=hy ys (SqL.of hys)
    rw[e1]at this;cases this
    exact⟨.refl,a2,_,by simp[hi],e2⟩
  |_=>exact sq.elim⟩
inductive ForD(g:TGD)(tb:TSD)(B:EndsD)(I:ItD)(δ0:DS)(M0:MH):Prop
 |mk (W:Nat->DS->MH->Prop) (w0:W 0 δ0 M0) (hC:∀i δ M,i<=I.n->W i δ M->I.C M) (turn:∀i d δ M,i<I.n->I.item i=some d->W i δ M->g d δ M fun δ2 M2=>tb { B with nx:=W (i+1),ct:=W (i+1),bk:=B.nx } δ2 M2) (done:∀δ M,W I.n δ M->B.nx δ M):ForD g tb B I δ0 M0
def Dy(wd:TID)(g:TGD)(tb:TSD):TSD:=fun B δ M=>wd δ M fun I M1=>ForD g tb B I δ M1
theorem bV{iter:Expr}{body:List Stmt}{wd:TID}{g:TGD}{tb:TSD}{pos:Pos}(hp:PassesOwn (GG X.prog X.w) X.A X.env X.xe)(hc:X.calm=true)(hi:DI X tg iter wd)(hG:DG X tg g)(hb:DSs X body tb)
 (hf:∀x,Hb iter X.env x=pure x:=by intro _;rfl):DSt X (.For tg iter body [] pos) (Dy wd g tb):=
 cD (vT hp hc hi hG hb hf) fun E σ H ⟨δ,M,hs,a,B,ok,q⟩=>⟨δ,M,_,hs,a,q,fun I M1 H1 J g1 a1 z9 io=>by
  obtain⟨W,w0,hC,turn,done⟩:=z9
  refine⟨fun i m σ H2=>m=I.n-i/\i<=I.n/\Grow X.K H1 H2/\∃δ M,Slots X.K H2 δ σ/\Abs X.K H2 M/\W i δ M,⟨I.n,by simp,HR _,.refl,δ,M1,hs.mono g1,a1,w0⟩,?_⟩
  rintro i m σ H2 ⟨rfl,hi,g2,δ2,M2,s2,a2,w2⟩
  by_cases hlt:i<I.n
  ·refine .inr ⟨io.go i H2 M2 hlt g2 a2 (hC _ _ _ hi w2),fun σ' H3=>Grow X.K H1 H3/\∃δ M,Slots X.K H3 δ σ'/\Abs X.K H3 M/\W (i+1) δ M,fun σ' H3 z=>⟨I.n-(i+1),by omega,rfl,hlt,z⟩,fun x H3 y=>?_⟩
   obtain⟨g3,a3,d,ed,rd⟩:=io.yld i H2 M2 x H3 hlt g2 a2 (hC _ _ _ hi w2) y
   refine⟨d,δ2,M2,_,rd,s2.mono g3,a3,turn i d δ2 M2 hlt ed w2,fun δ4 M4 σ4 H4 g4 s4 a4 q4=>⟨δ4,M4,s4,a4,_,?_,q4⟩⟩
   have G:Grow X.K H1 H4:=(g2.trans g3).trans g4
   exact⟨fun δ' M' σ' H' g' s' a' w'=>⟨G.trans g',δ',M',s',a',w'⟩,fun d M v H' g'=>ok.rt d M v H' ((g1.trans G).trans g'),fun δ' M' σ' H' g' s' a' q'=>ok.nx _ _ _ _ ((g1.trans G).trans g') s' a' q',fun δ' M' σ' H' g' s' a' w'=>⟨G.trans g',δ',M',s',a',w'⟩⟩
  ·obtain rfl:i=I.n:=by omega
   exact .inl ⟨io.stop H2 M2 g2 a2 (hC _ _ _ hi w2),ok.nx _ _ _ _ (g1.trans g2) s2 a2 (done δ2 M2 w2)⟩⟩
def DF(i:Nat)(te:TD)(f:Int->Int->Int):TSD:=fun B δ M=>∃k,δ[i]?=some (some (.int k))/\te δ M fun y M1=>∃j,y=.int j/\B.nx (δ.set i (some (.int (f k j)))) M1
theorem vB(i:Nat){x:Str}{e:Expr}{te:TD}{op:Operator}{f:Int->Int->Int}{pos pos':Pos}(hN:X.N.Nodup)(ho:PIp X op (ipI f))(he:DE X e te)(hi:X.N[i]?=some x:=by rfl)(hx:Loc X.env.scope x:=by first|exact Or.inl rfl|exact Or.inr rfl)
 (hf:X.fn x=true\/X.env.scope.names.lookup x=some .local:=by first|exact .inl rfl|exact .inr rfl|assumption):DSt X (.AugAssign (.Name x pos') op e pos) (DF i te f):=
 cD (Bh hN hi hx he ho hf) fun E σ H z9=>by
  obtain⟨δ,M,hs,a,B,ok,k,e1,q⟩:=z9
  obtain⟨v,e2,r⟩:=hs.at' i _ e1
  rw[Rep]at r;subst r
  refine⟨_,e2,δ,M,_,hs,a,q,fun y M1 u H1 g1 r1 a1 zz2_0=>?_⟩
  obtain⟨j,ej,q1⟩:=zz2_0
  subst ej
  rw[Rep]at r1;subst r1
  exact⟨k,j,rfl,rfl,ok.nx _ _ _ _ g1 ((hs.mono g1).set (by rw[Rep]) i) a1 q1⟩
end
end SD
namespace Ma
open SD
theorem kB{a b:Int}(h:0<b):0<Rat.divInt a b↔0<a:=by
 have h1:=Rat.divInt_nonneg_iff_of_pos_right (a:=-a) h;rw[<-Rat.neg_divInt]at h1;have:¬(0<=-Rat.divInt a b)↔0<Rat.divInt a b:=by constructor<;>intro z<;>grind
 rw[<-this,h1];omega
theorem rb{a b:Int}(h:0<b):Rat.divInt a b<0↔a<0:=by
 have h1:=Rat.divInt_nonneg_iff_of_pos_right (a:=a) h;have:¬(0<=Rat.divInt a b)↔Rat.divInt a b<0:=by constructor<;>intro z<;>grind
 rw[<-this,h1];omega
theorem Ag{t b:Int}(h:0<b):sgn (Rat.divInt t b)=if 0<t then 1 else if t<0 then -1 else 0:=by unfold sgn;simp only[kB h,rb h]
theorem zC(a b c d x y:Rat) :
 Rat.divInt ((c.num*(a.den:Int)-a.num*(c.den:Int))*(y.num*(b.den:Int)-b.num*(y.den:Int))*((d.den:Int)*(b.den:Int)*((x.den:Int)*(a.den:Int))) -
  (d.num*(b.den:Int)-b.num*(d.den:Int))*(x.num*(a.den:Int)-a.num*(x.den:Int))*((c.den:Int)*(a.den:Int)*((y.den:Int)*(b.den:Int))))
  ((c.den:Int)*(a.den:Int)*((y.den:Int)*(b.den:Int))*((d.den:Int)*(b.den:Int)*((x.den:Int)*(a.den:Int))))=cr a b c d x y:=by
 rw[<-Rat.divInt_sub_divInt _ _ (Int.mul_ne_zero (sT c a) (sT y b)) (Int.mul_ne_zero (sT d b) (sT x a)),<-Rat.divInt_mul_divInt,<-Rat.divInt_mul_divInt,sub_eq,sub_eq,sub_eq,sub_eq]
 rfl
end Ma
namespace SD
open PySem PySem.Spec PyProof.Rows L2
abbrev NoE:G0->G6->Prop:=fun _ _=>False
def cN(X:Cx)(xs:List Str)(js:List Nat):List Str:=xs++js.map fun j=>(X.N[j]?).getD ("":Str)
def cσ(os:L2.St)(js:List Nat)(σ:L2.St):L2.St:=os++js.map fun j=>(σ[j]?).join
theorem cI:∀(names:List (Str×IW)) (n:Nat) (acc:List (Str×Addr)),Iu n names acc=Iu n names []++acc
 |[],_,_=>rfl
 |(x,k)::r,n,acc=>by
  unfold Iu
  split
  ·rw[cI r (n+1) ((x,n)::acc),cI r (n+1) [(x,n)],Jo];rfl
  ·exact cI r n acc
theorem jh:∀(names:List (Str×IW)) (n:Nat) {y:Str} {c:Addr},(y,c)∈Iu n names []->(y,NameKind.cell)∈names
 |[],_,_,_,h=>by cases h
 |(x,k)::r,n,y,c,h=>by
  unfold Iu at h
  split at h
  ·rename_i hk
   rw[cI]at h
   rcases GY.mp h with h|h
   ·exact Ho _ (jh r _ h)
   ·have e:(y,c)=(x,n):=by simpa using h
    cases e
    obtain rfl:k=.cell:=by simpa using hk
    exact HK
  ·exact Ho _ (jh r _ h)
theorem oQ{l r:List (Str×Addr)}{y:Str}{c:Addr}(h:(l++r).lookup y=some c):l.lookup y=some c\/(l.lookup y=none/\r.lookup y=some c):=by
 rw[List.lookup_append]at h;cases e:l.lookup y with
 |some c'=>rw[e]at h;exact .inl h
 |none=>rw[e]at h;exact .inr ⟨rfl,h⟩
theorem vX{env:Env}{y:Str}{c:Addr}{names:List (Str×IW)}(h:(eD names env).lookup y=some c):(y,J3)∈names:=by
 have hm:=Hn h;unfold eD at hm;obtain⟨z,hz,e⟩:=Hi.mp hm;rw[List.mem_reverse,GQ]at hz;obtain⟨n,k⟩:=z;obtain rfl:k=.free:=by simpa using hz.2
 cases e;exact hz.1
theorem eW{env:Env}{k:IW}(hk:k≠.free):∀{names:List (Str×IW)} {x:Str},names.lookup x=some k->
 (names.map fun(n,k)=>if(k==J3&&env.scope.kind==.function&&env.kindOf n==some .cell)then(n,NameKind.cell)else(n,k)).lookup x=some k
 |[],_,h=>by simp at h
 |(n,q)::r,x,h=>by
  have ih:=@eW env k hk r x
  rw[Gs]
  dsimp only
  by_cases hx:(x==n)=true
  ·rw[HY,hx]at h
   cases h
   rw[if_neg (by intro z;rw[GN,GN]at z;exact hk (by simpa using z.1.1)),HY,hx]
  ·have hx':(x==n)=false:=by simpa using hx
   rw[HY,hx']at h
   split<;>(rw[HY,hx'];exact ih h)
theorem nV{M:Model}{A:Hr}{E:G0->G6->Prop}{s:G6}{scope:Ja}{globals:Addr}{cl:List (Str×Addr)}{qual:Str}{env:Env}{Q:Env->G6->Prop} (h:Q { scope:=scope,locals:=s.heap.objs.size,globals:=globals,cells:=Iu (s.heap.objs.size+1) scope.names cl,qual:=qual,func:=none,code:=env.code,frame:=env.frame,builtins:=env.builtins } { s with heap:=pushCells (s.heap.push { cls:=.type "dict",data:=.dict #[] }) scope.names }) : Gw M A (newFunctionEnv scope globals cl [] qual none .none (some env)) Q E s:=by simp only[newFunctionEnv,Option.isSome_some,if_true];refine cc (wpAny_alloc ?_);refine cc (wpAny_layCells _ (fun name kind cells=>by cases hkc:kind==NameKind.cell<;>simp[hkc]) _ _ _ _ ?_);rw[show({ s with heap:=s.heap.push { cls:=.type "dict",data:=.dict #[] } }:G6).heap.objs.size=s.heap.objs.size+1 from I0 ..];refine cc ?_;rw[List.forIn_nil];exact G7 (G7 h)
def jD(scope:Ja)(C:Addr)(env:Env):Env:=
 { scope:=relabel scope env,locals:=C,globals:=env.globals,cells:=Iu (C+1) scope.names (eD scope.names env),qual:=env.qual,func:=none,code:=env.code,frame:=env.frame,builtins:=env.builtins }
def cxC(X:Cx)(xs:List Str)(js:List Nat)(scope:Ja)(C:Addr)(s:G6)(H:Hp)(fp:List Addr):Cx where
 prog:=X.prog
 w:=X.w
 K:=X.K
 mg:=X.mg
 base:=X.base
 A:=X.A
 N:=cN X xs js
 s₀:=s
 H₀:=H
 env:=jD scope C X.env
 outer:=X.stack
 stack:=X.stack
 ex:=fp
 fn:=fun y=>xs.contains y
 calm:=X.calm
 pn:=[]
 xe:=fun _ _=>False
structure CScope(X:Cx)(xs:List Str)(js:List Nat)(scope:Ja):Prop where
 kind:scope.kind=.function
 cell:∀y∈scope.names,y.2=.cell->y.1∈xs
 free':∀y∈scope.names,y.2=.free->y.1∉xs
 names:∀y∈scope.names,y.2=.local->scope.names.lookup y.1=some .local
 own:∀x∈xs,scope.names.lookup x=some .local\/scope.names.lookup x=some .cell
 out:∀y∈scope.names,y.2=.free->X.env.kindOf y.1=some .cell\/X.env.kindOf y.1=some .free
 nd:(cN X xs js).Nodup
 js:∀j∈js,scope.names.lookup ((X.N[j]?).getD ("":Str))≠some .local
section
variable{X:Cx}{xs:List Str}{js:List Nat}{scope:Ja}{pins:List (Addr×Obj)}{σ:L2.St}{H:Hp}{s:G6}{fp:List Addr}
theorem CScope.cells(c:CScope X xs js scope)(ok:X.Ok):∀y∈scope.names,y.2=.free->∃a,X.env.cells.lookup y.1=some a:=fun y hy hf=>ok.has _ (c.out y hy hf)
theorem CScope.yV(c:CScope X xs js scope)(ok:X.Ok):closureFor scope X.env=pure (eD scope.names X.env):=qk (c.cells ok)
theorem CScope.kindOf(c:CScope X xs js scope)(ok:X.Ok){C:Addr}{y:Str}{k:IW}(e:(jD scope C X.env).kindOf y=some k):scope.names.lookup y=some k\/(k=.cell/\scope.names.lookup y=some .free):=fG ok.kind e
theorem kZ(c:CScope X xs js scope)(I:Inv X pins σ H s)(hf:∀b∈fp,cC X pins H b)(hfp:∀b∈fp,b<s.heap.objs.size){h':Heap}(eh:h'=pushCells (s.heap.push { cls:=.type "dict",data:=.dict #[] }) scope.names)(k:∀b o,s.heap.get? b=some o->h'.get? b=some o) :
 Inv (cxC X xs js scope s.heap.objs.size s H fp) [] (cσ (GZ xs.length none) js σ) H { s with heap:=h' }:=by
 have ok:=I.ok
 have hn:h'.Ns s.heap.objs.size fun _=>none:=by rw[eh];exact(Heap.Ns.new s.heap (.type "dict")).keeps (pushCells_keeps _ _)
 have cok:CellsOk h' (s.heap.objs.size+1) (Iu (s.heap.objs.size+1) scope.names []):=by
  have:=cellsFrom_ok scope.names (s.heap.push { cls:=.type "dict",data:=.dict #[] }) (s.heap.objs.size+1) [] ⟨fun _ _ hm=>(nomatch hm),List.Pairwise.nil⟩ (by rw[I0];exact Gq _)
  rw[I0]at this
  rw[eh];exact this
 have cl:∀{y:Str} {a:Addr},(eD scope.names X.env).lookup y=some a->X.env.cells.lookup y=some a:=fun e=>p8 (c.cells ok) e
 have olt:∀{y:Str} {a:Addr},X.env.cells.lookup y=some a->a<s.heap.objs.size:=fun e=>by obtain⟨v,z⟩:=I.cell _ _ e;exact z.lt
 have both:∀{y:Str} {a:Addr},(jD scope s.heap.objs.size X.env).cells.lookup y=some a->((y,a)∈Iu (s.heap.objs.size+1) scope.names []/\s.heap.objs.size<a)\/X.env.cells.lookup y=some a:=fun{y a} e=>by
  have e:(Iu (s.heap.objs.size+1) scope.names (eD scope.names X.env)).lookup y=some a:=e
  rw[cI]at e
  rcases oQ e with z|⟨_,z⟩
  ·exact .inl ⟨Hn z,(cok.empty _ _ (Hn z)).2⟩
  ·exact .inr (cl z)
 have free:∀{y:Str},(jD scope s.heap.objs.size X.env).kindOf y=some .cell\/(jD scope s.heap.objs.size X.env).kindOf y=some .free->scope.names.lookup y=some .cell\/scope.names.lookup y=some .free:=fun{y} e=>by
  rcases e with e|e
  ·rcases c.kindOf ok e with z|⟨_,z⟩
   ·exact .inl z
   ·exact .inr z
  ·rcases c.kindOf ok e with z|⟨z,_⟩
   ·exact .inr z
   ·cases z
 refine⟨⟨ok.mod,c.kind,ok.glob,ok.blt,Gq _,fun y z a h1 h2=>?_,fun y hy=>?_,fun y a h e=>?_,ok.hd,ok.frames,.inl rfl,fun b hb=>⟨Hh (hfp b hb),fun y a e=>?_⟩,
  I.bs,HF ok.bsz I.sz,fun b o e hb=>?_,fun b hb=>?_,I.stack,I.se⟩,rfl,I.bare,Un.kept k,?_,fun y a e=>?_,I.hok.fresh (Gq _),fun y a e=>?_,fun p hp=>absurd (show p∈([]:List (Addr×Obj))from hp) (by simp),I.hok.kept k,?_⟩
 ·rcases both h1 with⟨m1,l1⟩|o1<;>rcases both h2 with⟨m2,l2⟩|o2
  ·exact name_of_addr cok.apart m1 m2
  ·exact absurd (olt o2) (Nat.not_lt.mpr (Nat.le_of_lt l1))
  ·exact absurd (olt o1) (Nat.not_lt.mpr (Nat.le_of_lt l2))
  ·exact ok.inj y z a o1 o2
 ·show ∃c,(Iu (s.heap.objs.size+1) scope.names (eD scope.names X.env)).lookup y=some c
  rw[cI,List.lookup_append]
  rcases free hy with z|z
  ·obtain⟨a,e⟩:=j4 (n:=s.heap.objs.size+1) z
   exact⟨a,by rw[e];rfl⟩
  ·obtain⟨a,e⟩:=qe (env:=X.env) (Hn z)
   cases q:(Iu (s.heap.objs.size+1) scope.names []).lookup y with
   |none=>exact⟨a,by rw[e];rfl⟩
   |some a'=>exact⟨a',rfl⟩
 ·have hx:y∈xs:=by simpa[cxC]using h
  have e:(Iu (s.heap.objs.size+1) scope.names (eD scope.names X.env)).lookup y=some a:=e
  rw[cI]at e
  rcases oQ e with z|⟨_,z⟩
  ·exact Nat.le_of_lt (cok.empty _ _ (Hn z)).2
  ·exact absurd hx (c.free' _ (vX z) rfl)
 ·rcases both e with⟨_,l⟩|o
  ·exact Nat.ne_of_gt (Nat.lt_trans (hfp b hb) l)
  ·exact(hf b hb).2.2.2.2.1 y a o
 ·rcases(hf b hb).2.2.2.1 with z|z
  ·exact ok.noex b o e z
  ·exact absurd (GP (GP (GC e) ok.bsz) z) (Nat.lt_irrefl _)
 ·intro z
  rcases Hf.mp (I.qV b z)with y|y
  ·exact(hf b hb).2.1 y
  ·exact(hf b hb).2.2.1 y
 ·refine⟨_,hn,fun i y v h1 h2 h3=>?_⟩
  have h1:(xs++js.map fun j=>(X.N[j]?).getD ("":Str))[i]?=some y:=h1
  have h2:(GZ xs.length (none:Option V)++js.map fun j=>(σ[j]?).join)[i]?=some (some v):=h2
  by_cases hi:i<xs.length
  ·rw[Hy (by simpa using hi),List.getElem?_replicate,if_pos hi]at h2
   cases h2
  ·have hout:y∉xs:=fun hy=>by
    rw[Ht (by omega)]at h1
    have nd:=c.nd
    unfold cN at nd
    exact(List.nodup_append.mp nd).2.2 y hy y (Gu h1) rfl
   rw[Ht (by omega)]at h1
   rw[Ht (by simp;omega)]at h2
   rw[List.length_replicate]at h2
   rw[Gr]at h1 h2
   cases ej:js[i-xs.length]? with
   |none=>rw[ej]at h1;cases h1
   |some j=>
    rw[ej]at h1 h2
    have e1:(X.N[j]?).getD ("":Str)=y:=Option.some.inj h1
    have e2:(σ[j]?).join=some v:=Option.some.inj h2
    have e3:σ[j]?=some (some v):=by
     cases q:σ[j]? with
     |none=>rw[q]at e2;cases e2
     |some o=>rw[q]at e2;exact congrArg some e2
    have hj:j<X.N.length:=by rw[<-I.len];exact(Gz.mp e3).1
    have e4:X.N[j]?=some y:=by
     rw[G8 hj]at e1 ⊢
     exact congrArg some e1
    have nl:scope.names.lookup y≠some .local:=by
     have:=c.js j (Gu ej)
     rw[e1]at this
     exact this
    have kc:(jD scope s.heap.objs.size X.env).kindOf y=some .cell\/(jD scope s.heap.objs.size X.env).kindOf y=some .free:=by
     rcases h3 with z|z|z
     ·rcases c.kindOf (C:=s.heap.objs.size) ok z with q|⟨q,_⟩
      ·exact absurd q nl
      ·cases q
     ·exact .inl z
     ·exact .inr z
    have hm:(y,J3)∈scope.names:=by
     rcases free kc with z|z
     ·exact absurd (c.cell _ (Hn z) rfl) hout
     ·exact Hn z
    obtain⟨a,ha⟩:=qe (env:=X.env) hm
    have ha2:(jD scope s.heap.objs.size X.env).cells.lookup y=some a:=by
     show(Iu (s.heap.objs.size+1) scope.names (eD scope.names X.env)).lookup y=some a
     rw[cI,List.lookup_append]
     cases q:(Iu (s.heap.objs.size+1) scope.names []).lookup y with
     |none=>rw[ha];rfl
     |some a'=>exact absurd (c.cell _ (jh _ _ (Hn q)) rfl) hout
    have hvis:Vis X.env.scope y:=by
     rcases c.out _ hm rfl with z|z
     ·exact .inr (.inl z)
     ·exact .inr (.inr z)
    obtain⟨m,_,hl⟩:=I.loc
    obtain⟨u,r,l⟩:=hl j y v e4 e3 hvis
    refine⟨u,r,?_⟩
    rcases l with⟨z,_⟩|⟨_,a',ha',o,ho,hd⟩
    ·rcases c.out _ hm rfl with q|q
     ·have z':X.env.kindOf y=some .local:=z
      rw[q]at z';cases z'
     ·have z':X.env.kindOf y=some .local:=z
      rw[q]at z';cases z'
    ·refine .inr ⟨kc,a',?_,o,k _ _ ho,hd⟩
     have:=cl ha
     rw[ha']at this
     cases this
     exact ha2
 ·rcases both e with⟨m,_⟩|o
  ·exact⟨_,(cok.empty _ _ m).1⟩
  ·obtain⟨v,o,ho,hd⟩:=I.cell y a o
   exact⟨v,o,k _ _ ho,hd⟩
 ·rcases both e with⟨_,l⟩|o
  ·exact I.hok.fresh (Nat.le_of_lt l)
  ·exact I.freeC y a o
 ·show(cσ (GZ xs.length none) js σ).length=(cN X xs js).length
  unfold cσ cN
  simp
end
def PTs(X:Cx)(ifs:List Expr)(t:TT):Prop:=∀(pins:List (Addr×Obj)) (s:G6) (σ:L2.St) (H:Hp) (Q:Bool->Hp->Prop),Inv X pins σ H s->t σ H Q->
 Gw (GG X.prog X.w) X.A (forIn ifs true fun c r=>if r=true then do let ok <-isTrue c X.env (eval c X.env);pure (IT ok)else pure (IT r)) (TP X pins σ Q) X.xe s
theorem zF{X:Cx}:PTs X [] (fun _ H Q=>Q true H):=fun pins s σ H Q I q=>wpAny_tests_nil ⟨H,I,q⟩
theorem Af{X:Cx}{c:Expr}{t:TT}(h:PT X c t):PTs X [c] t:=fun pins s σ H Q I q=>wpAny_tests_one (h pins s σ H Q I q)
theorem uV{prog:GL}{w:Hk}{A:Hr}{R:Result->G6->Prop}{s:G6}{elt target iter:Expr}{ifs:List Expr}{scope:Ja}{pos:Pos}{it acc:G0}{env:Env}(J:Nat->G6->Prop)
 (step:∀n s,J n s->Gw (GG prog w) A (pyNext it) (fun r s1=>match r with
  |none=>R (.ok .next) s1
  |some v=>Gw (GG prog w) A (IB target it v) (fun _ s2=>Gw (GG prog w) A (Jw target env v) (fun _ s3=>
   Gw (GG prog w) A (forIn ifs true fun c r=>if r=true then do let ok <-isTrue c env (eval c env);pure (IT ok)else pure (IT r)) (fun ok s4=>
    if ok=true then Gw (GG prog w) A (eval elt env) (fun x s5=>Gw (GG prog w) A (call (.builtin "list.append") [acc,x]) (fun _ s6=>∃m,m<n/\J m s6) NoE s5) NoE s4
    else ∃m,m<n/\J m s4) NoE s3) NoE s2) NoE s1) NoE s)
 (n:Nat) (h:J n s):IQ (GG prog w) A (.compLoop (.ListComp elt [⟨target,iter,ifs,0⟩] scope pos) 0 it acc env) R s:=by
 have no:∀{E:G0->G6->Prop} e s',NoE e s'->E e s':=fun _ _ z=>z.elim
 refine codeAny_loop rfl J (fun n s hJ=>?_) n h
 show Gw _ _ (Sem.onRaise (compTurn (.ListComp elt [⟨target,iter,ifs,0⟩] scope pos) 0 it acc env) (fun x=>do noteFrame x env;theTreesLotGoes x)) _ _ s
 refine wpAny_noted ?_
 rw[compTurn_list]
 refine cc (Ik (cc (GB (step n s hJ) (fun r s1 h1=>?_) no)))
 cases r with
 |none=>exact G7 h1
 |some v=>
  refine cc (GB h1 (fun _ s2 h2=>cc (GB h2 (fun _ s3 h3=>cc (GB h3 (fun ok s4 h4=>?_) no)) no)) no)
  cases ok with
  |false=>exact G7 ⟨rfl,h4⟩
  |true=>exact cc (cc (GB h4 (fun x s5 h5=>cc (GB h5 (fun _ s6 h6=>G7 (G7 ⟨rfl,h6⟩)) no)) no))
abbrev Own:=V->Hp->L2.St->Prop
structure TgOk(n:Nat)(g:TG)(own:Own):Prop where
 len:∀y H os,own y H os->os.length=n
 run:∀y H os0 tail os (Q:L2.St->Hp->Prop),os0.length=n->own y H os->Q (os++tail) H->g y (os0++tail) H Q
def As(js:List Nat)(own:Own)(tc:TT)(te:TE)(σ:L2.St)(J:It)(H1:Hp)(Q:VK):Prop:=∀D,H1 D=none->∃W:Nat->Nat->Hp->Prop,(∃m,W 0 m (upd H1 D (.lst [])))/\∀i m H,W i m H->
 (J.stop i H/\Q (.ref D) H)\/(J.go i H/\∀y H',J.yld i H y H'->∃os,own y H' os/\tc (cσ os js σ) H' fun b H2=>if b=true then
  te (cσ os js σ) H2 fun v H3=>∃xs,H3 D=some (.lst xs)/\xs.length<GD/\∃m',m'<m/\W (i+1) m' (upd H3 D (.lst (xs++[v])))else ∃m',m'<m/\W (i+1) m' H2)
def rC(js:List Nat)(own:Own)(wi:TI)(tc:TT)(te:TE):TE:=fun σ H Q=>wi σ H fun J H1=>As js own tc te σ J H1 Q
section
variable{X:Cx}{xs:List Str}{tg:Expr}{pos:Pos}{js:List Nat}{scope:Ja}{elt iter:Expr}{ifs:List Expr}{te:TE}{tc:TT}{g:TG}{own:Own}{wi:TI}{pins:List (Addr×Obj)}{σ:L2.St}{H:Hp}{s:G6}{fp:List Addr}{it:Addr}{tn:Nat->Heap->Prop}{J:It}
theorem pB(c:CScope X xs js scope)(hc:X.calm=true)(hG:TgOk xs.length g own)(hg:∀C s H fp,PG (cxC X xs js scope C s H fp) tg g)(ht:∀C s H fp,PTs (cxC X xs js scope C s H fp) ifs tc)(he:∀C s H fp,PE (cxC X xs js scope C s H fp) elt te)
 {R:G0->Addr->Result->G6->Prop} {E:G0->G6->Prop} {Q:VK}
 (I:Inv X pins σ H s) (T:Turn X.prog X.w X.K tg J fp it tn) (st:tn 0 s.heap) (hf:∀b∈fp,cC X pins H b) (wc:As js own tc te σ J H Q)
 (hR:∀D C H' s',Inv X pins σ H' s'->cC X pins H' C->(∃m,s'.heap.Ns C m)->Q (.ref D) H'->R (.ref D) C (.ok .next) s') :
 Gw (GG X.prog X.w) X.A (newList []) (fun acc s₃=>Gw (GG X.prog X.w) X.A (newFunctionEnv scope X.env.globals (eD scope.names X.env) [] X.env.qual none .none (some X.env)) (fun cenv s₄=>
  IQ (GG X.prog X.w) X.A (.compStart (.ListComp elt [⟨tg,iter,ifs,0⟩] scope pos) 0 (.ref it) acc { cenv with scope:=relabel scope X.env }) (R acc cenv.locals) s₄) E s₃) E s:=by
 have hfp:∀b∈fp,b<s.heap.objs.size:=fun b hb=>let⟨o,e,_⟩:=T.obj 0 _ st b hb;GC e
 have hD:H s.heap.objs.size=none:=I.hok.fresh (Gq _)
 refine Hg (nV ?_)
 generalize hh:s.heap.push { cls:=.type "list",dict:=none,data:=.seq ([]:List G0).toArray }=h3
 generalize hh1:pushCells (({ s with heap:=h3 }:G6).heap.push { cls:=.type "dict",data:=.dict #[] }) scope.names=h₁
 have k3:∀b o,s.heap.get? b=some o->h3.get? b=some o:=fun b o e=>by rw[<-hh];exact G9 _ e
 have I3:Inv X pins σ (upd H s.heap.objs.size (.lst [])) { s with heap:=h3 }:=by
  refine I.laid (t':=s.toks) k3 (Gq _) ?_
  refine⟨HR _,[],0,.nil,?_⟩
  rw[<-hh]
  exact Gv _ rfl
 have hf3:∀b∈fp,cC X pins (upd H s.heap.objs.size (.lst [])) b:=fun b hb=>⟨by rw[aS (Hh (hfp b hb))];exact(hf b hb).1,(hf b hb).2⟩
 have hsz:h3.objs.size=s.heap.objs.size+1:=by rw[<-hh,I0]
 have hfp3:∀b∈fp,b<h3.objs.size:=fun b hb=>by rw[hsz];exact Nat.lt_succ_of_lt (hfp b hb)
 have k4:∀b o,h3.get? b=some o->h₁.get? b=some o:=fun b o e=>by rw[<-hh1];exact pushCells_keeps _ _ b o (G9 _ e)
 have I4:=kZ c I3 hf3 hfp3 (h':=h₁) hh1.symm k4
 obtain⟨W,⟨m0,w0⟩,turn⟩:=wc _ hD
 have st4:tn 0 h₁:=T.keep 0 _ _ st fun b hb o e=>k4 b o (k3 b o e)
 generalize hX:cxC X xs js scope h3.objs.size { s with heap:=h3 } (upd H s.heap.objs.size (.lst [])) fp=X' at I4
 have fok:∀{pins':List (Addr×Obj)} {H':Hp} {σ':L2.St} {s':G6},Inv X' [] σ' H' s'->(∀b∈fp,H' b=none)->∀b∈fp,cC X' [] H' b:=fun{pins' H' σ' s'} J' hn b hb=>by
  subst hX
  obtain⟨a1,a2⟩:=J'.ok.exf b hb
  exact⟨hn b hb,a1,J'.ok.exfs b hb,.inl hb,a2,fun p hp=>absurd (show p∈([]:List (Addr×Obj))from hp) (by simp)⟩
 have loop:IQ (GG X.prog X.w) X.A (.compLoop (.ListComp elt [⟨tg,iter,ifs,0⟩] scope pos) 0 (.ref it) (.ref s.heap.objs.size) (jD scope h3.objs.size X.env)) (R (.ref s.heap.objs.size) h3.objs.size)
  { s with heap:=h₁ }:=by
  refine uV (fun n s'=>∃i os H',os.length=xs.length/\Inv X' [] (cσ os js σ) H' s'/\tn i s'.heap/\(∀b∈fp,H' b=none)/\W i n H') ?_ m0 ⟨0,_,_,by simp,I4,st4,fun b hb=>(hf3 b hb).1,w0⟩
  rintro n s5 ⟨i,os,H5,hl5,I5,st5,fr5,w5⟩
  rcases turn i n H5 w5 with⟨stop,q⟩|⟨go,step⟩
  ·subst hX
   refine GB (T.done (cxC X xs js scope h3.objs.size { s with heap:=h3 } (upd H s.heap.objs.size (.lst [])) fp) rfl rfl rfl hc i [] s5 _ H5 NoE I5 (fok (pins':=[]) I5 fr5) st5 stop) (fun r s6 zz1_0=>?_) fun _ _ z=>z
   obtain⟨hr,I6⟩:=zz1_0
   subst hr
   refine hR _ _ H5 s6 (I3.vF I6.os I6.base I6.hok I6.bare fun b hb=>⟨(hf3 b hb).2.2.2.1,(hf3 b hb).2.1,(hf3 b hb).2.2.2.2.1,(hf3 b hb).2.2.2.2.2⟩) (I3.oY (Gq _) I6.free) (let⟨m,hm,_⟩:=I6.loc;⟨m,hm⟩) q
  ·subst hX
   refine GB (T.item (cxC X xs js scope h3.objs.size { s with heap:=h3 } (upd H s.heap.objs.size (.lst [])) fp) rfl rfl rfl hc i [] s5 _ H5 NoE I5 (fok (pins':=[]) I5 fr5) st5 go) (fun r s6 zz2_0=>?_) fun _ _ z=>z
   obtain⟨u,hr,h6⟩:=zz2_0
   subst hr
   refine GB h6 (fun _ s7 zz3_0=>?_) fun _ _ z=>z
   obtain⟨y,H7,I7,r7,y7,st7,fr7⟩:=zz3_0
   have I7':=I7.pinned (fok (pins':=[]) I7 fr7) (T.obj _ _ st7)
   obtain⟨os8,ow8,q8⟩:=step y H7 y7
   have l8:=hG.len _ _ _ ow8
   refine GB (hg _ _ _ _ _ s7 _ H7 y u (fun σ' H'=>σ'=cσ os8 js σ/\H'=H7) I7' r7 (hG.run y H7 os _ os8 _ hl5 ow8 ⟨rfl,rfl⟩)) (fun _ s8 zz4_0=>?_) fun _ _ z=>z
   obtain⟨σ8,H8,I8,e8,e8'⟩:=zz4_0
   subst e8 e8'
   refine GB (ht _ _ _ _ _ s8 _ _ _ I8 q8) (fun ok s9 zz5_0=>?_) fun _ _ z=>z
   obtain⟨H9,I9,q9⟩:=zz5_0
   have back:∀{m':Nat} {H10:Hp} {s10:G6},Inv (cxC X xs js scope h3.objs.size { s with heap:=h3 } (upd H s.heap.objs.size (.lst [])) fp) ([]++fQ fp s7.heap) (cσ os8 js σ) H10 s10->m'<n->W (i+1) m' H10->
    ∃m,m<n/\∃i os H',os.length=xs.length/\Inv (cxC X xs js scope h3.objs.size { s with heap:=h3 } (upd H s.heap.objs.size (.lst [])) fp) [] (cσ os js σ) H' s10/\tn i s10.heap/\(∀b∈fp,H' b=none)/\W i m H':=fun{m' H10 s10} I10 hm' w10=>by
    refine⟨m',hm',i+1,os8,H10,l8,I10.dN,T.keep _ _ _ st7 fun b hb o e=>(I10.pin (b,o) (GI _ (GI _ (bD hb e)))).1,fun b hb=>?_,w10⟩
    obtain⟨o',e,d⟩:=T.obj _ _ st7 b hb
    exact(I10.pin (b,o') (GI _ (GI _ (bD hb e)))).2.1
   cases ok with
   |false=>
    rw[if_neg GA]at q9 ⊢
    obtain⟨m',hm',w9⟩:=q9
    exact back I9 hm' w9
   |true=>
    rw[if_pos rfl]at q9 ⊢
    refine GB (he _ _ _ _ _ s9 _ _ _ I9 q9) (fun v s10 zz6_0=>?_) fun _ _ z=>z
    obtain⟨vv,H10,I10,r10,ys,hd10,hl10,q10⟩:=zz6_0
    refine GB (jb (X:=(cxC X xs js scope h3.objs.size { s with heap:=h3 } (upd H s.heap.objs.size (.lst [])) fp)) _ s10 _ H10 (.ref s.heap.objs.size) [vv] (.ref s.heap.objs.size) [v] (fun _ H'=>∃m',m'<n/\W (i+1) m' H') I10 rfl (.cons r10 .nil) ⟨_,ys,vv,rfl,rfl,hd10,hl10,q10⟩) (fun _ s11 zz7_0=>?_) fun _ _ z=>z
    obtain⟨_,H11,I11,_,m',hm',w11⟩:=zz7_0
    exact back I11 hm' w11
 exact codeAny_compStart_list loop (T.self X.A 0 _ _ _ st4 loop)
theorem y6(c:CScope X xs js scope)(hc:X.calm=true)(hi:PI X tg iter wi)(hG:TgOk xs.length g own)(hg:∀C s H fp,PG (cxC X xs js scope C s H fp) tg g)(ht:∀C s H fp,PTs (cxC X xs js scope C s H fp) ifs tc)(he:∀C s H fp,PE (cxC X xs js scope C s H fp) elt te)(hs:∀x,Hb iter X.env x=pure x:=by intro _;rfl) : PE X (.ListComp elt [⟨tg,iter,ifs,0⟩] scope pos) (rC js own wi tc te):=by intro pins s σ H Q I h;rw[eval_ListComp];refine wpAny_comprehension_free (use:=none) rfl hs (c.yV I.ok) c.kind c.names (thn (hi pins s σ H _ I h) fun v s1 h1=>thn h1 fun itv s2 zz8_0=>?_);obtain⟨it,fp,tn,J,H2,e,I2,T,st,f2,w⟩:=zz8_0;subst e;refine pB (R:=fun acc C=>compPost (GG X.prog X.w) X.A X.xe none (EP X pins σ Q) acc C) c hc hG hg ht he I2 T st f2 w fun D C H' s' I' fC zz9_0 q=>?_;obtain⟨m,hm⟩:=zz9_0;exact⟨m,hm,fun h' hsb=>⟨.ref D,H',I'.turned (t':=s'.toks) (fun b o ne e=>hsb.extBut b o ne e) fC.1 fC.2.1 fC.2.2.2.1 fC.2.2.2.2.1 fC.2.2.2.2.2,rfl,q⟩⟩
theorem yN{i:Nat}{y:Str}{py spos:Pos}(c:CScope X xs js scope)(hc:X.calm=true)(hN:X.N.Nodup)(hi:PI X tg iter wi)(hG:TgOk xs.length g own)(hg:∀C s H fp,PG (cxC X xs js scope C s H fp) tg g)(ht:∀C s H fp,PTs (cxC X xs js scope C s H fp) ifs tc)(he:∀C s H fp,PE (cxC X xs js scope C s H fp) elt te)(hy:X.N[i]?=some y)(hl:X.env.scope.names.lookup y=some .local)
 (hsw:J5 (.ListComp elt [⟨tg,iter,ifs,0⟩] scope pos) (some (.Name y py)) spos.line X.env=pure true) (hs:∀x,Hb iter X.env x=pure x:=by intro _;rfl) :
 PS X (.Assign [.Name y py] (.ListComp elt [⟨tg,iter,ifs,0⟩] scope pos) spos) (zA (rC js own wi tc te) (fo i)):=by
 intro pins s σ H B I h
 rw[exec_Assign_Name_used _ _ _ _ hsw]
 refine cc (Ik (cc ?_))
 show Gw _ X.A (do let _ <-comprehension (.ListComp elt [⟨tg,iter,ifs,0⟩] scope pos) scope X.env _ (newList []) false (eval iter X.env) (some (Jw (.Name y py) X.env))) _ _ s
 refine cc (GB (wpAny_comprehension_free (use:=some (Jw (.Name y py) X.env)) (Q:=fun _ s'=>SP X pins B .next s') rfl hs (c.yV I.ok) c.kind c.names
  (thn (hi pins s σ H _ I h) fun v s1 h1=>thn h1 fun itv s2 z=>?_)) (fun _ s' hq=>G7 (G7 hq)) fun _ _ e=>e)
 obtain⟨it,fp,tn,J,H2,e,I2,T,st,f2,w⟩:=z
 subst e
 refine pB (R:=fun acc C=>compPost (GG X.prog X.w) X.A X.xe (some (Jw (.Name y py) X.env)) (fun _ s'=>SP X pins B .next s') acc C) c hc hG hg ht he I2 T st f2 w fun D C H' s' I' fC zz10_0 q=>?_
 obtain⟨m,hm⟩:=zz10_0
 show Gw _ X.A (Jw (.Name y py) X.env (.ref D)) _ _ _
 refine wpAny_assign_Name (jd I' hN hy (.inl hl) (v:=.ref D) rfl (fun s9 I9 zz11_0=>?_) (.inr hl))
 obtain⟨a,sb,ha⟩:=zz11_0
 have hne:C≠a:=by
  rcases ha with z|z
  ·rw[z];exact fC.2.1
  ·exact fun e=>fC.2.2.2.2.1 y a z e.symm
 refine⟨m,hm.sameBut sb hne,fun h' hsb=>?_⟩
 exact⟨_,H',I9.turned (t':=s9.toks) (fun b o ne e=>hsb.extBut b o ne e) fC.1 fC.2.1 fC.2.2.2.1 fC.2.2.2.2.1 fC.2.2.2.2.2,q⟩
end
inductive Tgt where
 |one|many (n:Nat)
def pX(K:G5):Tgt->Own
 |.one=>fun y _ os=>os=[some y]
 |.many n=>fun y H os=>∃a xs,y=.ref a/\SqT K H a xs/\xs.length=n/\os=xs.map some
theorem rp{K:G5}:TgOk 1 (fo 0) (pX K .one):=⟨fun _ _ os h=>by rw[h];rfl,fun y H os0 tail os Q hl ho q=>by
 obtain⟨o,rfl⟩:=CW hl
 rw[show os=[some y]from ho]at q;exact q⟩
theorem Cz{K:G5}:TgOk 2 (De K 2 (pT (fo 0) (pT (fo 1) BK))) (pX K (.many 2)):=⟨fun _ _ os z=>by
 obtain⟨a,xs,_,_,hl,e⟩:=z
 rw[e];simpa using hl,fun y H os0 tail os Q hl z q=>by
 obtain⟨a,xs,e,hq,hx,ho⟩:=z
 obtain⟨o,o',rfl⟩:=B9 hl
 obtain⟨u,v,rfl⟩:=B9 hx
 rw[ho]at q;exact⟨a,_,e,hq,hx,u,_,rfl,v,_,rfl,rfl,q⟩⟩
def xp:Tgt->D->DS->Prop
 |.one,d,os=>os=[some d]
 |.many n,d,os=>∃ds,d=.tup ds/\ds.length=n/\os=ds.map some
def cδ(os:DS)(js:List Nat)(δ:DS):DS:=os++js.map fun j=>(δ[j]?).join
theorem jI{K:G5}{H:Hp}{δ os:DS}{σ us:L2.St}{js:List Nat}(hs:Slots K H δ σ)(r:Slots K H os us):Slots K H (cδ os js δ) (cσ us js σ):=by
 refine⟨by simp[cδ,cσ,r.len],fun i e q=>?_⟩;unfold cδ at q;unfold cσ;by_cases hi:i<os.length
 ·rw[Hy hi]at q;rw[Hy (by rw[<-r.len];exact hi)];exact r.at' i e q
 ·rw[Ht (by omega)]at q;rw[Ht (by rw[<-r.len];omega),<-r.len];rw[Gr]at q ⊢;cases ej:js[i-os.length]? with
  |none=>rw[ej]at q;cases q
  |some j=>
   rw[ej]at q
   have e2:(δ[j]?).join=some e:=Option.some.inj q
   have e3:δ[j]?=some (some e):=by
    cases z:δ[j]? with
    |none=>rw[z]at e2;cases e2
    |some o=>rw[z]at e2;exact congrArg some e2
   obtain⟨v',e4,e5⟩:=hs.at' j e e3
   exact⟨v',by rw[show(some j).map (fun j=>(σ[j]?).join)=some ((σ[j]?).join)from rfl,e4];rfl,e5⟩
theorem i9{K:G5}{H:Hp}{ds:List D}{xs:List V}(r:aD K H ds xs):Slots K H (ds.map some) (xs.map some):=by
 refine⟨by simp[r.length],fun i d e=>?_⟩;rw[Gr]at e ⊢;cases q:ds[i]? with
 |none=>rw[q]at e;cases e
 |some d'=>
  rw[q]at e;cases e
  obtain⟨x,e1,e2⟩:=r.get q
  exact⟨x,by rw[e1];rfl,e2⟩
theorem oI{K:G5}{H:Hp}{tk:Tgt}{d:D}{v:V}{os:DS}(r:Rep K H d v)(h:xp tk d os):∃us,pX K tk v H us/\Slots K H os us:=by
 cases tk with
 |one=>
  rw[show os=[some d]from h]
  exact⟨[some v],rfl,i9 (.cons r .nil)⟩
 |many n=>
  obtain⟨ds,rfl,hl,rfl⟩:=h
  rw[Rep]at r
  obtain⟨a,xs,rfl,hq,rs⟩:=r
  exact⟨_,⟨a,xs,rfl,hq,by rw[<-rs.length];exact hl,rfl⟩,i9 rs⟩
def lT:TTD:=fun _ M Q=>Q true M
def vO(I:ItD)(tk:Tgt)(js:List Nat)(tc:TTD)(te:TD)(δ:DS)(M1:MH)(Q:DK):Prop:=I.n<=1000000/\∀p,M1 p=none->∃W:Nat->List D->MH->Prop,W 0 [] (ax M1 p (.lst []))/\(∀i ys M,i<=I.n->W i ys M->I.C M)/\
 (∀i ys d M,i<I.n->I.item i=some d->W i ys M->∃os,xp tk d os/\tc (cδ os js δ) M fun b M2=>if b=true then te (cδ os js δ) M2 fun e M'=>∃M3,Sub M3 M'/\M3 p=some (.lst ys)/\W (i+1) (ys++[e]) (ax M3 p (.lst (ys++[e])))else ∃M3,Sub M3 M2/\W (i+1) ys M3)/\∀ys M,W I.n ys M->Q (.ref p) M
def iS(wd:TID)(tk:Tgt)(js:List Nat)(tc:TTD)(te:TD):TD:=fun δ M Q=>wd δ M fun I M1=>vO I tk js tc te δ M1 Q
section
variable{X:Cx}{K:G5}
theorem mm{wd:TID}{tk:Tgt}{js:List Nat}{tc:TTD}{te:TD}{σ:L2.St}{H:Hp}{Q:VK}(h:lift K (iS wd tk js tc te) σ H Q):rC js (pX K tk) (ku K wd) (liftT K tc) (lift K te) σ H Q:=by
 obtain⟨δ,M,R,hs,hM,q,fin⟩:=h;refine⟨δ,M,_,hs,hM,q,fun I M1 H1 J g1 a1 kc io p hp=>?_⟩;obtain⟨hn,kc⟩:=kc;obtain⟨W,w0,hC,turn,done⟩:=kc p (a1.fresh hp);refine⟨fun i m H2=>m=I.n-i/\i<=I.n/\Grow K H1 H2/\∃ys M,ys.length<=i/\Abs K H2 M/\W i ys M,⟨I.n,by simp,HR _,.new hp,[],_,Gq _,a1.l9 hp .nil,w0⟩,?_⟩;rintro i m H2 ⟨rfl,hi,g2,ys,M2,hl,a2,w2⟩;by_cases hin:i<I.n
 ·refine .inr ⟨io.go i H2 M2 hin g2 a2 (hC _ _ _ hi w2),fun v H3 hy=>?_⟩;obtain⟨g3,a3,d,ed,rd⟩:=io.yld i H2 M2 v H3 hin g2 a2 (hC _ _ _ hi w2) hy;obtain⟨os,ow,q3⟩:=turn i ys d M2 hin ed w2;obtain⟨us,uv,su⟩:=oI rd ow;have s3:=jI (js:=js) (hs.mono ((g1.trans g2).trans g3)) su;refine⟨us,uv,cδ os js δ,M2,_,s3,a3,q3,fun b M4 H4 g4 a4 q4=>?_⟩;cases b with
  |false=>
   rw[if_neg GA]at q4 ⊢
   obtain⟨M5,s5,w5⟩:=q4
   exact⟨I.n-(i+1),by omega,rfl,hin,(g2.trans g3).trans g4,ys,M5,by omega,a4.sub s5,w5⟩
  |true=>
   rw[if_pos rfl]at q4 ⊢
   refine⟨cδ os js δ,M4,_,s3.mono g4,a4,q4,fun e M' u H5 g5 r5 a5 zz2_0=>?_⟩
   obtain⟨M6,s6,e6,w6⟩:=zz2_0
   obtain⟨zs,hx,rs⟩:=(a5.sub s6) _ _ e6
   refine⟨zs,hx,?_,I.n-(i+1),by omega,rfl,hin,(((g2.trans g3).trans g4).trans g5).trans (.lst hx),ys++[e],_,by simp;omega,(a5.sub s6).vm hx (rs.append (.cons r5 .nil)),w6⟩
   rw[<-rs.length]
   exact Nat.lt_of_le_of_lt hl (GP hin (HF hn (by decide)))
 ·obtain rfl:i=I.n:=by omega
  exact .inl ⟨io.stop H2 M2 g2 a2 (hC _ _ _ hi w2),fin _ _ _ _ (g1.trans g2) (by rw[Rep]) a2 (done ys M2 w2)⟩
variable{xs:List Str}{tg:Expr}{pos:Pos}{js:List Nat}{scope:Ja}{elt iter:Expr}{ifs:List Expr}{te:TD}{tc:TTD}{g:TG}{tk:Tgt}{wd:TID}
def DTs(X:Cx)(ifs:List Expr)(t:TTD):Prop:=PTs X ifs (liftT X.K t)
theorem dh:DTs X [] lT:=fun pins s σ H Q I zz3_0=>by obtain⟨δ,M,R,hs,hM,q,fin⟩:=zz3_0;exact(zF pins s σ H Q I (fin _ _ _ .refl hM q))
theorem zR{c:Expr}{t:TTD}(h:DT X c t):DTs X [c] t:=Af h
theorem tR(c:CScope X xs js scope)(hc:X.calm=true)(hi:DI X tg iter wd)(hG:TgOk xs.length g (pX X.K tk))(hg:∀C s H fp,PG (cxC X xs js scope C s H fp) tg g)(ht:∀C s H fp,DTs (cxC X xs js scope C s H fp) ifs tc)(he:∀C s H fp,DE (cxC X xs js scope C s H fp) elt te) (hs:∀x,Hb iter X.env x=pure x:=by intro _;rfl):DE X (.ListComp elt [⟨tg,iter,ifs,0⟩] scope pos) (iS wd tk js tc te):=aZ (y6 (te:=lift X.K te) (tc:=liftT X.K tc) c hc hi hG hg ht he hs) fun _ _ _ h=>mm h
theorem zB(i:Nat){y:Str}{py spos:Pos}(hN:X.N.Nodup)(c:CScope X xs js scope)(hc:X.calm=true)(hi:DI X tg iter wd)(hG:TgOk xs.length g (pX X.K tk))(hg:∀C s H fp,PG (cxC X xs js scope C s H fp) tg g)(ht:∀C s H fp,DTs (cxC X xs js scope C s H fp) ifs tc)(he:∀C s H fp,DE (cxC X xs js scope C s H fp) elt te) (hy:X.N[i]?=some y:=by rfl) (hl:X.env.scope.names.lookup y=some .local:=by rfl) (hsw:J5 (.ListComp elt [⟨tg,iter,ifs,0⟩] scope pos) (some (.Name y py)) spos.line X.env=pure true:=by rfl) (hs:∀x,Hb iter X.env x=pure x:=by intro _;rfl) : DSt X (.Assign [.Name y py] (.ListComp elt [⟨tg,iter,ifs,0⟩] scope pos) spos) (dX (iS wd tk js tc te) (br i)):=cD (yN (te:=lift X.K te) (tc:=liftT X.K tc) c hc hN hi hG hg ht he hy hl hsw hs) fun E σ H zz4_0=>by obtain⟨δ,M,hs,a,B,ok,q⟩:=zz4_0;exact(mm ⟨δ,M,_,hs,a,q,fun d M1 v H1 g1 r1 a1 q1=>ok.nx _ _ _ _ g1 ((hs.mono g1).set r1 i) a1 q1⟩)
theorem comp_map{I:ItD}{tk:Tgt}{js:List Nat}{te:TD}{δ:DS}{M1:MH}{Q:DK}(f:Nat->D)(hn:I.n<=1000000)(hC:∀p ys,M1 p=none->I.C (ax M1 p (.lst ys))) (h:∀i d M,i<I.n->I.item i=some d->Sub M1 M->∃os,xp tk d os/\∀K:DK,(∀M',Sub M M'->K (f i) M')->te (cδ os js δ) M K) (hq:∀p,M1 p=none->Q (.ref p) (ax M1 p (.lst ((GR I.n).map f)))):vO I tk js lT te δ M1 Q:=by
 refine⟨hn,fun p hp=>⟨fun i ys M=>ys=(GR i).map f/\M=ax M1 p (.lst ys),⟨rfl,rfl⟩,?_,?_,?_⟩⟩
 ·rintro i ys M _ ⟨_,rfl⟩;exact hC p ys hp
 ·rintro i ys d M hi hd ⟨rfl,rfl⟩;obtain⟨os,ow,k⟩:=h i d _ hi hd (.new hp .refl);refine⟨os,ow,?_⟩;unfold lT;refine CU (k _ ?_);exact fun M' s'=>⟨_,s',af,by rw[IU,GV];rfl,by rw[bJ]⟩
 ·rintro ys M ⟨rfl,rfl⟩;exact hq p hp
end
def Ec(X:Cx)(xs:List Str)(js:List Nat)(scope:Ja):Bool:=
 scope.kind==.function&&scope.names.all (fun y=>(y.2 != .cell||xs.contains y.1)&&(y.2 != .free||!xs.contains y.1))&&scope.names.all (fun y=>y.2 != .local||scope.names.lookup y.1==some .local)&&xs.all (fun x=>scope.names.lookup x==some .local||scope.names.lookup x==some .cell) &&
  scope.names.all (fun y=>y.2 != .free||(X.env.kindOf y.1==some .cell||X.env.kindOf y.1==some .free))&&decide (cN X xs js).Nodup&&js.all (fun j=>scope.names.lookup ((X.N[j]?).getD ("":Str)) != some .local)
theorem CScope.of{X:Cx}{xs:List Str}{js:List Nat}{scope:Ja}(h:Ec X xs js scope=true):CScope X xs js scope:=by
 unfold Ec at h;simp only[GN]at h;obtain⟨⟨⟨⟨⟨⟨h1,h2⟩,h3⟩,h4⟩,h5⟩,h6⟩,h7⟩:=h;refine⟨by simpa using h1,fun y hy hc=>?_,fun y hy hf=>?_,fun y hy hl=>?_,fun x hx=>?_,fun y hy hf=>?_,of_decide_eq_true h6,fun j hj=>?_⟩
 ·have:=Hs.mp h2 y hy;rw[hc]at this;simpa using this
 ·have:=Hs.mp h2 y hy;rw[hf]at this;simpa using this
 ·have:=Hs.mp h3 y hy;rw[hl]at this;simpa using this
 ·have:=Hs.mp h4 x hx;simpa using this
 ·have:=Hs.mp h5 y hy;rw[hf]at this;simpa using this
 ·have:=Hs.mp h7 j hj;simpa using this
abbrev TOD:=DS->MH->(Option Int->MH->Prop)->Prop
def t7(K:G5)(t:TOD):TO:=fun σ H Q=>∃δ M R,Slots K H δ σ/\Abs K H M/\t δ M R/\∀o M' H',Grow K H H'->Abs K H' M'->R o M'->Q o H'
def vp:TOD:=fun _ M Q=>Q none M
def Dn(t:TD):TOD:=fun δ M Q=>t δ M fun x M1=>∃i,x=.int i/\Q (some i) M1
def cutD(xs:List D)(lo hi:Option Int):List D:=(xs.drop (HT.sIx xs.length 0 lo)).take (HT.sIx xs.length xs.length hi-HT.sIx xs.length 0 lo)
def EU:D->Option Int->Option Int->MH->DK->Prop:=fun x lo hi M Q=>match x with
 |.ref a=>∃ds,M a=some (.lst ds)/\∀p,M p=none->Q (.ref p) (ax M p (.lst (cutD ds lo hi)))
 |.rol ds=>∀p,M p=none->Q (.ref p) (ax M p (.lst (cutD ds lo hi)))
 |.tup ds=>¬(HT.sIx ds.length 0 lo=0/\HT.sIx ds.length ds.length hi=ds.length)/\Q (.tup (cutD ds lo hi)) M
 |_=>False
def F0(te:TD)(tl th:TOD):TD:=fun δ M Q=>te δ M fun x M1=>tl δ M1 fun l M2=>th δ M2 fun u M3=>EU x l u M3 Q
theorem aD.cut{K:G5}{H:Hp}{ds:List D}{xs:List V}(h:aD K H ds xs)(lo hi:Option Int):aD K H (cutD ds lo hi) (pW xs lo hi):=by unfold cutD pW;rw[h.length];exact(h.drop _).take _
section
variable{X:Cx}{e a:Expr}{te:TD}{tl th:TOD}{lo hi:Option Expr}{pos p2:Pos}
theorem vL{e:Option Expr}{t t':TO}(h:PO X e t)(k:∀σ H Q,t' σ H Q->t σ H Q):PO X e t':=fun pins s σ H Q I q=>h pins s σ H Q I (k _ _ _ q)
theorem tZ:PO X none (t7 X.K vp):=vL yJ fun σ H Q zz5_0=>by obtain⟨δ,M,R,hs,a,q,fin⟩:=zz5_0;exact(fin _ _ _ .refl a q)
theorem tH(h:DE X e te):PO X (some e) (t7 X.K (Dn te)):=vL (Aa h) fun σ H Q zz6_0=>by obtain⟨δ,M,R,hs,a,q,fin⟩:=zz6_0;exact(⟨δ,M,_,hs,a,q,fun d M1 v H1 g1 r1 a1 z9=>by
 obtain⟨i,ei,q1⟩:=z9
 subst ei
 rw[Rep]at r1
 exact⟨i,r1,fin _ _ _ g1 a1 q1⟩⟩)
theorem oS(he:DE X a te)(hl:PO X lo (t7 X.K tl))(hu:PO X hi (t7 X.K th)):DE X (.Subscript a (.Slice lo hi none p2) pos) (F0 te tl th):=
 aZ (vJ (Ai.or Dj) he hl hu) fun σ H Q zz7_0=>by obtain⟨δ,M,R,hs,a,q,fin⟩:=zz7_0;exact(⟨δ,M,_,hs,a,q,fun x M1 v H1 g1 r1 a1 q1=>⟨δ,M1,_,hs.mono g1,a1,q1,fun l M2 H2 g2 a2 q2=>⟨δ,M2,_,hs.mono (g1.trans g2),a2,q2,fun u M3 H3 g3 a3 q3=>by
  have G:=(g1.trans g2).trans g3
  have r3:=r1.mono (g2.trans g3)
  unfold EU at q3
  split at q3
  ·obtain⟨ds,e3,q3⟩:=q3
   obtain rfl:v=.ref _:=r3
   obtain⟨xs,hx,rs⟩:=a3 _ _ e3
   exact .inl ⟨_,xs,rfl,SqL.of hx,fun z hz=>fin _ _ _ _ (G.trans (.new hz)) (by rw[Rep]) (a3.l9 hz (rs.cut _ _)) (q3 z (a3.fresh hz))⟩
  ·rw[Rep]at r3
   obtain⟨b,xs,rfl,hx,rs⟩:=r3
   exact .inl ⟨_,xs,rfl,hx.sql,fun z hz=>fin _ _ _ _ (G.trans (.new hz)) (by rw[Rep]) (a3.l9 hz (rs.cut _ _)) (q3 z (a3.fresh hz))⟩
  ·obtain⟨hw,q3⟩:=q3
   rw[Rep]at r3
   obtain⟨b,xs,rfl,hx,rs⟩:=r3
   exact .inr ⟨_,xs,rfl,hx,by rw[<-rs.length];exact hw,fun z hz=>fin _ _ _ _ (G.trans (.new hz)) (by rw[Rep];exact⟨z,_,rfl,SqT.of aW,(rs.cut _ _).mono (.new hz)⟩) (a3.new hz) q3⟩
  ·exact q3.elim⟩⟩⟩)
end
section
variable{X:Cx}{x y z:Str}{px py pz pt pos:Pos}{kt:Nat}{js:List Nat}{scope:Ja}{elt iter:Expr}{ifs:List Expr}{te:TD}{tc:TTD}{wd:TID}{xs:List Str}
theorem gT(c:CScope X xs js scope)(i:Nat)(hx:xs[i]?=some x){C:Addr}{s:G6}{H:Hp}{fp:List Addr}:PG (cxC X xs js scope C s H fp) (.Name x px) (fo i):=by
 have hi:i<xs.length:=(Gz.mp hx).1;have hm:=Gu hx
 have hl:Loc (cxC X xs js scope C s H fp).env.scope x:=by
  rcases c.own x hm with z|z
  ·exact .inl (eW (by decide) z)
  ·exact .inr (eW (by decide) z)
 refine sF (i:=i) c.nd ?_ hl (.inl (by show xs.contains x=true;simpa using hm));show(xs++js.map fun j=>(X.N[j]?).getD ("":Str))[i]?=some x;rw[Hy hi];exact hx
theorem yF(c:CScope X [x,y] js scope)(hc:X.calm=true){C:Addr}{s:G6}{H:Hp}{fp:List Addr}:PG (cxC X [x,y] js scope C s H fp) (.Tuple [.Name x px,.Name y py] kt pt) (De X.K 2 (pT (fo 0) (pT (fo 1) BK))):=vU (X:=cxC X [x,y] js scope C s H fp) hc (lH (gT c 0 rfl) (lH (gT c 1 rfl) t5)) rfl rfl
theorem lp(c:CScope X [x] js scope)(hc:X.calm=true)(hi:DI X (.Name x px) iter wd)(ht:∀C s H fp,DTs (cxC X [x] js scope C s H fp) ifs tc)(he:∀C s H fp,DE (cxC X [x] js scope C s H fp) elt te) (hs:∀x,Hb iter X.env x=pure x:=by intro _;rfl):DE X (.ListComp elt [⟨.Name x px,iter,ifs,0⟩] scope pos) (iS wd .one js tc te):=tR c hc hi rp (fun _ _ _ _=>gT c 0 rfl) ht he hs
theorem pL(c:CScope X [x,y] js scope)(hc:X.calm=true)(hi:DI X (.Tuple [.Name x px,.Name y py] kt pt) iter wd)(ht:∀C s H fp,DTs (cxC X [x,y] js scope C s H fp) ifs tc)(he:∀C s H fp,DE (cxC X [x,y] js scope C s H fp) elt te) (hs:∀x,Hb iter X.env x=pure x:=by intro _;rfl):DE X (.ListComp elt [⟨.Tuple [.Name x px,.Name y py] kt pt,iter,ifs,0⟩] scope pos) (iS wd (.many 2) js tc te):=tR c hc hi Cz (fun _ _ _ _=>yF c hc) ht he hs
theorem ic(i:Nat){v:Str}{pv spos:Pos}(hN:X.N.Nodup)(c:CScope X [x] js scope)(hc:X.calm=true)(hi:DI X (.Name x px) iter wd)(ht:∀C s H fp,DTs (cxC X [x] js scope C s H fp) ifs tc)(he:∀C s H fp,DE (cxC X [x] js scope C s H fp) elt te) (hy:X.N[i]?=some v:=by rfl) (hl:X.env.scope.names.lookup v=some .local:=by rfl) (hsw:J5 (.ListComp elt [⟨.Name x px,iter,ifs,0⟩] scope pos) (some (.Name v pv)) spos.line X.env=pure true:=by rfl) (hs:∀x,Hb iter X.env x=pure x:=by intro _;rfl) : DSt X (.Assign [.Name v pv] (.ListComp elt [⟨.Name x px,iter,ifs,0⟩] scope pos) spos) (dX (iS wd .one js tc te) (br i)):=zB i hN c hc hi rp (fun _ _ _ _=>gT c 0 rfl) ht he hy hl hsw hs
end
section
variable{prog:GL}{w:Hk}{A:Hr}{E:G0->G6->Prop}{s:G6}
theorem max_two{a b:G0}{c:Bool}{Q:G0->G6->Prop}(hh:A.handled=none)
 (cmp:∀(t:G6) (Q':G0->G6->Prop) (E':G0->G6->Prop),(∀x o,s.heap.get? x=some o->t.heap.get? x=some o)->Q' (.bool c) t->Gw (GG prog w) A.in1 (richCompare .Gt b a) Q' E' t)
 (h:∀h' tk,(∀x o,s.heap.get? x=some o->h'.get? x=some o)->Q (if c=true then b else a) { s with heap:=h',toks:=tk }) :
 Gw (GG prog w) A (call (.builtin "max") [a,b]) Q E s:=by
 have nm:(toString "max"++toString ".loop":String)="max.loop":=by decide
 refine call_function_tree F.kind_max F.plain_max F.entry_max (F.args_max2 _ _) ?_
 show Gw _ A.in1 (Builtin.Builtins.bindParams "max" ["key","default"] 0 ⟨[],[]⟩ >>= fun _=>_) _ _ s
 refine cc (wpAny_of_eq (a:=[none,none]) rfl ?_)
 show Gw _ A.in1 (newTuple [a,b] >>= fun _=>_) _ _ s
 refine cc (Hg ?_)
 generalize e1:s.heap.push { cls:=.type "tuple",dict:=none,data:=.seq ([a,b]:List G0).toArray }=h1
 have k1:∀x o,s.heap.get? x=some o->h1.get? x=some o:=fun x o q=>by rw[<-e1];exact G9 _ q
 have hT:h1.IsTuple s.heap.objs.size #[a,b]:=by rw[<-e1];exact⟨_,Gv _ rfl,rfl,0,rfl⟩
 have z1:h1.objs.size=s.heap.objs.size+1:=by rw[<-e1,I0]
 refine cc (Jc (s:={ s with heap:=h1 }) hT ?_)
 refine cc (Hg ?_)
 dsimp only
 generalize eI:h1.objs.size=I
 generalize e2:h1.push _=h2
 have k2:∀x o,h1.get? x=some o->h2.get? x=some o:=fun x o q=>by rw[<-e2];exact G9 _ q
 have hI:h2.IsTupleIter I s.heap.objs.size 0:=by rw[<-e2,<-eI];exact⟨_,Gv _ rfl,rfl,rfl⟩
 have z2:h2.objs.size=I+1:=by rw[<-e2,I0,eI]
 generalize eS:h2.objs.size=S
 generalize e3:h2.push _=h3
 have k3:∀x o,h2.get? x=some o->h3.get? x=some o:=fun x o q=>by rw[<-e3];exact G9 _ q
 have hS:h3.get? S=some { cls:=.type "list",dict:=none,data:=.seq #[] 0,slots:=#[] }:=by rw[<-e3,<-eS];exact Gv _ rfl
 have SI:S≠I:=by omega
 have old:∀x o,s.heap.get? x=some o->x≠I/\x≠S:=fun x o q=>⟨Hh (GP (GC q) (by omega)),Hh (GP (GC q) (by omega))⟩
 have hT3:h3.IsTuple s.heap.objs.size #[a,b]:=by
  obtain⟨o,q,r⟩:=hT
  exact⟨o,k3 _ _ (k2 _ _ q),r⟩
 have hI3:h3.IsTupleIter I s.heap.objs.size 0:=hI.at fun o q=>k3 _ _ q
 have TI:s.heap.objs.size≠I:=by omega
 have TS:s.heap.objs.size≠S:=by omega
 have keep3:∀x o,s.heap.get? x=some o->h3.get? x=some o:=fun x o q=>k3 _ _ (k2 _ _ (k1 _ _ q))
 rw[nm]
 refine G7 ⟨Jv J8 _,?_⟩
 have last:∀(t:G6) (v:G0) (n:Nat),t.heap.IsTupleIter I s.heap.objs.size 2->t.heap.IsTuple s.heap.objs.size #[a,b]->t.heap.get? S=some { cls:=.type "list",dict:=none,data:=.seq #[v,v] n,slots:=#[] }->
  (∃h' tk,t={ s with heap:=h',toks:=tk }/\∀x o,s.heap.get? x=some o->h'.get? x=some o)->v=(if c=true then b else a)->IQ (GG prog w) A (.builtin "max.loop" ⟨[.ref I,.none,.ref S],[]⟩) (fun r s'=>match r with|.ok (.ret v)=>Q v s'|.ok _=>False|.error e=>E e s') t:=by
  rintro t v n i2 tT lS ⟨h',tk,rfl,kt⟩ ev
  refine Jk F.entry_max_loop ?_
  rw[IK J8 _]
  show Gw _ A.in1 (seqItems? (.ref S) >>= fun _=>_) _ _ _
  refine cc (Iw lS rfl ?_)
  show Gw _ A.in1 (tryCatch (pyNext (.ref I)) _ >>= fun _=>_) _ _ _
  refine cc (Jd (wpAny_pyNext_tuple_end (A:=A.in1) hh i2 tT (by simp) fun h4 q4=>?_))
  have lS4:h4.get? S=some _:=q4 _ _ SI lS
  show Gw _ A.in1 (updateSeq S (fun _=>#[]) >>= fun _=>_) _ _ _
  refine cc (wpAny_updateSeq lS4 rfl (cc (wpAny_letGo (G7 ?_))))
  show Q v _
  rw[ev]
  exact h _ _ fun x o q=>(Hl _ _ (old x o q).2.symm).trans (q4 x o (old x o q).1 (kt x o q))
 refine Jk F.entry_max_loop ?_
 rw[IK J8 _]
 show Gw _ A.in1 (seqItems? (.ref S) >>= fun _=>_) _ _ _
 refine cc (Iw (s:={ s with heap:=h3 }) hS rfl ?_)
 show Gw _ A.in1 (tryCatch (pyNext (.ref I)) _ >>= fun _=>_) _ _ _
 refine cc (Jd (IP (s:={ s with heap:=h3 }) hI3 hT3 (x:=a) (by simp) fun h4 i4 q4=>?_))
 have hS4:h4.get? S=some _:=(q4.2 _ SI).trans hS
 have hT4:h4.IsTuple s.heap.objs.size #[a,b]:=by
  obtain⟨o,q,r⟩:=hT3
  exact⟨o,(q4.2 _ TI).trans q,r⟩
 show Gw _ A.in1 (updateSeq S (fun _=>#[a,a]) >>= fun _=>_) _ _ _
 refine cc (wpAny_updateSeq hS4 rfl ?_)
 rw[nm]
 refine G7 ⟨Jv J8 _,?_⟩
 generalize e5:h4.update S _=h5
 have o5:∀x,x≠S->h5.get? x=h4.get? x:=fun x q=>by rw[<-e5];exact Hl _ _ q.symm
 have hS5:∃n,h5.get? S=some { cls:=.type "list",dict:=none,data:=.seq #[a,a] n,slots:=#[] }:=⟨_,by rw[<-e5];exact HZ _ hS4 rfl⟩
 obtain⟨n5,hS5⟩:=hS5
 have i5:h5.IsTupleIter I s.heap.objs.size 1:=i4.at fun o q=>(o5 _ SI.symm).trans q
 have hT5:h5.IsTuple s.heap.objs.size #[a,b]:=by
  obtain⟨o,q,r⟩:=hT4
  exact⟨o,(o5 _ TS).trans q,r⟩
 have keep5:∀x o,s.heap.get? x=some o->h5.get? x=some o:=fun x o q=>(o5 _ (old x o q).2).trans ((q4.2 _ (old x o q).1).trans (keep3 x o q))
 refine Jk F.entry_max_loop ?_
 rw[IK J8 _]
 show Gw _ A.in1 (seqItems? (.ref S) >>= fun _=>_) _ _ _
 refine cc (Iw (s:={ s with heap:=h5 }) hS5 rfl ?_)
 show Gw _ A.in1 (tryCatch (pyNext (.ref I)) _ >>= fun _=>_) _ _ _
 refine cc (Jd (IP (s:={ s with heap:=h5 }) i5 hT5 (x:=b) (by simp) fun h6 i6 q6=>?_))
 have hS6:h6.get? S=some _:=(q6.2 _ SI).trans hS5
 have hT6:h6.IsTuple s.heap.objs.size #[a,b]:=by
  obtain⟨o,q,r⟩:=hT5
  exact⟨o,(q6.2 _ TI).trans q,r⟩
 have keep6:∀x o,s.heap.get? x=some o->h6.get? x=some o:=fun x o q=>(q6.2 _ (old x o q).1).trans (keep5 x o q)
 show Gw _ A.in1 (tryCatch (holding [b,b] (richCompare .Gt b a >>= fun _=>_)) _ >>= fun _=>_) _ _ _
 refine cc (Jd (HP (cc (cmp _ _ _ keep6 ?_))))
 refine cc (HP (HN ?_))
 refine cc (wpAny_letGo (G7 ?_))
 cases c with
 |true=>
  simp only[if_true]at last ⊢
  refine cc (wpAny_updateSeq hS6 rfl (cc (wpAny_letGo ?_)))
  rw[nm]
  refine G7 ⟨Jv J8 _,last _ b _ (i6.at fun o q=>(Hl _ _ SI).trans q) ?_ (HZ _ hS6 rfl) ⟨_,_,rfl,fun x o q=>(Hl _ _ (old x o q).2.symm).trans (keep6 x o q)⟩ rfl⟩
  obtain⟨o,q,r⟩:=hT6
  exact⟨o,(Hl _ _ TS.symm).trans q,r⟩
 |false=>
  simp only[Ia,if_false]at last ⊢
  refine cc (wpAny_letGo ?_)
  rw[nm]
  exact G7 ⟨Jv J8 _,last _ a _ i6 hT6 hS6 ⟨_,_,rfl,keep6⟩ rfl⟩
theorem min_two{a b:G0}{c:Bool}{Q:G0->G6->Prop}(hh:A.handled=none)
 (cmp:∀(t:G6) (Q':G0->G6->Prop) (E':G0->G6->Prop),(∀x o,s.heap.get? x=some o->t.heap.get? x=some o)->Q' (.bool c) t->Gw (GG prog w) A.in1 (richCompare .Lt b a) Q' E' t)
 (h:∀h' tk,(∀x o,s.heap.get? x=some o->h'.get? x=some o)->Q (if c=true then b else a) { s with heap:=h',toks:=tk }) :
 Gw (GG prog w) A (call (.builtin "min") [a,b]) Q E s:=by
 have nm:(toString "min"++toString ".loop":String)="min.loop":=by decide
 refine call_function_tree F.kind_min F.plain_min F.entry_min (F.args_min2 _ _) ?_
 show Gw _ A.in1 (Builtin.Builtins.bindParams "min" ["key","default"] 0 ⟨[],[]⟩ >>= fun _=>_) _ _ s
 refine cc (wpAny_of_eq (a:=[none,none]) rfl ?_)
 show Gw _ A.in1 (newTuple [a,b] >>= fun _=>_) _ _ s
 refine cc (Hg ?_)
 generalize e1:s.heap.push { cls:=.type "tuple",dict:=none,data:=.seq ([a,b]:List G0).toArray }=h1
 have k1:∀x o,s.heap.get? x=some o->h1.get? x=some o:=fun x o q=>by rw[<-e1];exact G9 _ q
 have hT:h1.IsTuple s.heap.objs.size #[a,b]:=by rw[<-e1];exact⟨_,Gv _ rfl,rfl,0,rfl⟩
 have z1:h1.objs.size=s.heap.objs.size+1:=by rw[<-e1,I0]
 refine cc (Jc (s:={ s with heap:=h1 }) hT ?_)
 refine cc (Hg ?_)
 dsimp only
 generalize eI:h1.objs.size=I
 generalize e2:h1.push _=h2
 have k2:∀x o,h1.get? x=some o->h2.get? x=some o:=fun x o q=>by rw[<-e2];exact G9 _ q
 have hI:h2.IsTupleIter I s.heap.objs.size 0:=by rw[<-e2,<-eI];exact⟨_,Gv _ rfl,rfl,rfl⟩
 have z2:h2.objs.size=I+1:=by rw[<-e2,I0,eI]
 generalize eS:h2.objs.size=S
 generalize e3:h2.push _=h3
 have k3:∀x o,h2.get? x=some o->h3.get? x=some o:=fun x o q=>by rw[<-e3];exact G9 _ q
 have hS:h3.get? S=some { cls:=.type "list",dict:=none,data:=.seq #[] 0,slots:=#[] }:=by rw[<-e3,<-eS];exact Gv _ rfl
 have SI:S≠I:=by omega
 have old:∀x o,s.heap.get? x=some o->x≠I/\x≠S:=fun x o q=>⟨Hh (GP (GC q) (by omega)),Hh (GP (GC q) (by omega))⟩
 have hT3:h3.IsTuple s.heap.objs.size #[a,b]:=by
  obtain⟨o,q,r⟩:=hT
  exact⟨o,k3 _ _ (k2 _ _ q),r⟩
 have hI3:h3.IsTupleIter I s.heap.objs.size 0:=hI.at fun o q=>k3 _ _ q
 have TI:s.heap.objs.size≠I:=by omega
 have TS:s.heap.objs.size≠S:=by omega
 have keep3:∀x o,s.heap.get? x=some o->h3.get? x=some o:=fun x o q=>k3 _ _ (k2 _ _ (k1 _ _ q))
 rw[nm]
 refine G7 ⟨Jv J9 _,?_⟩
 have last:∀(t:G6) (v:G0) (n:Nat),t.heap.IsTupleIter I s.heap.objs.size 2->t.heap.IsTuple s.heap.objs.size #[a,b]->t.heap.get? S=some { cls:=.type "list",dict:=none,data:=.seq #[v,v] n,slots:=#[] }->
  (∃h' tk,t={ s with heap:=h',toks:=tk }/\∀x o,s.heap.get? x=some o->h'.get? x=some o)->v=(if c=true then b else a)->IQ (GG prog w) A (.builtin "min.loop" ⟨[.ref I,.none,.ref S],[]⟩) (fun r s'=>match r with|.ok (.ret v)=>Q v s'|.ok _=>False|.error e=>E e s') t:=by
  rintro t v n i2 tT lS ⟨h',tk,rfl,kt⟩ ev
  refine Jk F.entry_min_loop ?_
  rw[IK J9 _]
  show Gw _ A.in1 (seqItems? (.ref S) >>= fun _=>_) _ _ _
  refine cc (Iw lS rfl ?_)
  show Gw _ A.in1 (tryCatch (pyNext (.ref I)) _ >>= fun _=>_) _ _ _
  refine cc (Jd (wpAny_pyNext_tuple_end (A:=A.in1) hh i2 tT (by simp) fun h4 q4=>?_))
  have lS4:h4.get? S=some _:=q4 _ _ SI lS
  show Gw _ A.in1 (updateSeq S (fun _=>#[]) >>= fun _=>_) _ _ _
  refine cc (wpAny_updateSeq lS4 rfl (cc (wpAny_letGo (G7 ?_))))
  show Q v _
  rw[ev]
  exact h _ _ fun x o q=>(Hl _ _ (old x o q).2.symm).trans (q4 x o (old x o q).1 (kt x o q))
 refine Jk F.entry_min_loop ?_
 rw[IK J9 _]
 show Gw _ A.in1 (seqItems? (.ref S) >>= fun _=>_) _ _ _
 refine cc (Iw (s:={ s with heap:=h3 }) hS rfl ?_)
 show Gw _ A.in1 (tryCatch (pyNext (.ref I)) _ >>= fun _=>_) _ _ _
 refine cc (Jd (IP (s:={ s with heap:=h3 }) hI3 hT3 (x:=a) (by simp) fun h4 i4 q4=>?_))
 have hS4:h4.get? S=some _:=(q4.2 _ SI).trans hS
 have hT4:h4.IsTuple s.heap.objs.size #[a,b]:=by
  obtain⟨o,q,r⟩:=hT3
  exact⟨o,(q4.2 _ TI).trans q,r⟩
 show Gw _ A.in1 (updateSeq S (fun _=>#[a,a]) >>= fun _=>_) _ _ _
 refine cc (wpAny_updateSeq hS4 rfl ?_)
 rw[nm]
 refine G7 ⟨Jv J9 _,?_⟩
 generalize e5:h4.update S _=h5
 have o5:∀x,x≠S->h5.get? x=h4.get? x:=fun x q=>by rw[<-e5];exact Hl _ _ q.symm
 have hS5:∃n,h5.get? S=some { cls:=.type "list",dict:=none,data:=.seq #[a,a] n,slots:=#[] }:=⟨_,by rw[<-e5];exact HZ _ hS4 rfl⟩
 obtain⟨n5,hS5⟩:=hS5
 have i5:h5.IsTupleIter I s.heap.objs.size 1:=i4.at fun o q=>(o5 _ SI.symm).trans q
 have hT5:h5.IsTuple s.heap.objs.size #[a,b]:=by
  obtain⟨o,q,r⟩:=hT4
  exact⟨o,(o5 _ TS).trans q,r⟩
 have keep5:∀x o,s.heap.get? x=some o->h5.get? x=some o:=fun x o q=>(o5 _ (old x o q).2).trans ((q4.2 _ (old x o q).1).trans (keep3 x o q))
 refine Jk F.entry_min_loop ?_
 rw[IK J9 _]
 show Gw _ A.in1 (seqItems? (.ref S) >>= fun _=>_) _ _ _
 refine cc (Iw (s:={ s with heap:=h5 }) hS5 rfl ?_)
 show Gw _ A.in1 (tryCatch (pyNext (.ref I)) _ >>= fun _=>_) _ _ _
 refine cc (Jd (IP (s:={ s with heap:=h5 }) i5 hT5 (x:=b) (by simp) fun h6 i6 q6=>?_))
 have hS6:h6.get? S=some _:=(q6.2 _ SI).trans hS5
 have hT6:h6.IsTuple s.heap.objs.size #[a,b]:=by
  obtain⟨o,q,r⟩:=hT5
  exact⟨o,(q6.2 _ TI).trans q,r⟩
 have keep6:∀x o,s.heap.get? x=some o->h6.get? x=some o:=fun x o q=>(q6.2 _ (old x o q).1).trans (keep5 x o q)
 show Gw _ A.in1 (tryCatch (holding [b,b] (richCompare .Lt b a >>= fun _=>_)) _ >>= fun _=>_) _ _ _
 refine cc (Jd (HP (cc (cmp _ _ _ keep6 ?_))))
 refine cc (HP (HN ?_))
 refine cc (wpAny_letGo (G7 ?_))
 cases c with
 |true=>
  simp only[if_true]at last ⊢
  refine cc (wpAny_updateSeq hS6 rfl (cc (wpAny_letGo ?_)))
  rw[nm]
  refine G7 ⟨Jv J9 _,last _ b _ (i6.at fun o q=>(Hl _ _ SI).trans q) ?_ (HZ _ hS6 rfl) ⟨_,_,rfl,fun x o q=>(Hl _ _ (old x o q).2.symm).trans (keep6 x o q)⟩ rfl⟩
  obtain⟨o,q,r⟩:=hT6
  exact⟨o,(Hl _ _ TS.symm).trans q,r⟩
 |false=>
  simp only[Ia,if_false]at last ⊢
  refine cc (wpAny_letGo ?_)
  rw[nm]
  exact G7 ⟨Jv J9 _,last _ a _ i6 hT6 hS6 ⟨_,_,rfl,keep6⟩ rfl⟩
end
end SD
namespace HT
open PySem PyProof.Rows
def lexLe:List Int->List Int->Bool
 |[],[]=>true
 |[],_::_=>true
 |_::_,[]=>false
 |x::xs,y::ys=>if x=y then lexLe xs ys else decide (x<=y)
theorem rz(x y:Int)(xs ys:List Int):lexLe (x::xs) (y::ys)=if x=y then lexLe xs ys else decide (x<=y):=rfl
theorem lY:lexLe [] []=true:=rfl
theorem k7(y:Int)(ys:List Int):lexLe [] (y::ys)=true:=rfl
theorem jW(x:Int)(xs:List Int):lexLe (x::xs) []=false:=rfl
theorem wz(A:Hr)(s:G6)(a:Int)(t:Tok)(c:Int)(u:Tok)(prog:GL)(w:Hk)(E:G0->G6->Prop)(Q:G0->G6->Prop)(h:Q (.bool (decide (a<=c))) s) : Gw (GG prog w) A (richCompare .LtE (.int a t) (.int c u)) Q E s:=(PyProof.Rows.le_int h:Gw (GG prog w) A (Hc .LtE (.int a t) (.int c u)) Q E s)
section
open PySem.SeqAt
open PySem.AutoSeq1 (wpAny_loadPart')
open PySem.MeetsSeq PySem.MeetsSeq2 PySem.MeetsSeq3
theorem mj(l b:Addr)(items items2:Array G0)(n n2:Nat)(dd dd2:Option Addr)(sl sl2:Array (Option G0))(ns ms:List Int)(hi:Im items.toList ns)(hj:Im items2.toList ms) :
 Meets (JG.«tuple.__le__» ⟨[.ref l,.ref b],[]⟩)
  (fun _ R s=>s.heap.get? l=some { cls:=.type "tuple",dict:=dd,data:=.seq items n,slots:=sl }/\s.heap.get? b=some { cls:=.type "tuple",dict:=dd2,data:=.seq items2 n2,slots:=sl2 }/\
   R (.ok (.ret (.bool (lexLe ns ms)))) s):=
 .of_wp fun prog w A R s h=>by
  obtain⟨hp,g,d,tk,os⟩:=s;obtain⟨hl,hb,h⟩:=h
  have f2:=AutoSeq1.sub_tuple_tuple
  have z1:items.size=ns.length:=by rw[<-hi.length];simp
  have z2:items2.size=ms.length:=by rw[<-hj.length];simp
  wp_walk using Hx hl,Hx hb,wpAny_forIn_list _ (fun rest b s'=>b.1=none/\s'=⟨hp,g,d,tk,os⟩/\∃(vs ws:List G0) (ns' ms':List Int),rest=vs.zip ws/\
   Im vs ns'/\Im ws ms'/\ns'.length+items2.size=ms'.length+items.size/\R (.ok (.ret (.bool (lexLe ns' ms')))) ⟨hp,g,d,tk,os⟩) _
  case turn=>
   rintro⟨y,x⟩ rest b s' ⟨hb',rfl,vs,ws,ns',ms',hz,hvi,hwi,hlen,hR⟩
   cases hvi with
   |nil=>rw[List.zip_nil_left]at hz;cases hz
   |cons a t hvi'=>
    cases hwi with
    |nil=>rw[List.zip_nil_right]at hz;cases hz
    |cons c u hwi'=>
     rw[Jb]at hz
     injection hz with hyx hrest
     injection hyx with hy hx
     subst hy hx
     rw[rz]at hR
     simp only[Hv]at hlen
     obtain⟨e,he,hiff⟩:=kh A.in1 ⟨hp,g,d,tk,os⟩ a t c u
     refine cc (he prog w _ _ ?_)
     cases e with
     |true=>
      rw[if_pos (hiff.mp rfl)]at hR
      wp_walk
      exact⟨rfl,rfl,_,_,_,_,hrest,hvi',hwi',by omega,hR⟩
     |false=>
      rw[if_neg (fun q=>absurd (hiff.mpr q) GA)]at hR
      have hri:=wz A.in1 ⟨hp,g,d,tk,os⟩ a t c u prog w
      wp_walk using hri
      exact⟨_,rfl,by simpa using hR⟩
  case fin=>
   rintro⟨b1,b2⟩ s' ⟨hb',rfl,vs,ws,ns',ms',hz,hvi,hwi,hlen,hR⟩
   simp only at hb'
   subst hb'
   have hv:lexLe ns' ms'=decide (items.size<=items2.size):=by
    cases hvi with
    |nil=>
     cases hwi with
     |nil=>
      simp only[Io]at hlen
      rw[lY]
      exact(decide_eq_true (by omega)).symm
     |cons c u hw=>
      simp only[Io,Hv]at hlen
      rw[k7]
      exact(decide_eq_true (by omega)).symm
    |cons a t hv=>
     cases hwi with
     |nil=>
      simp only[Io,Hv]at hlen
      rw[jW]
      exact(decide_eq_false (by omega)).symm
     |cons c u hw=>
      rw[Jb]at hz
      cases hz
   rw[hv]at hR
   wp_walk
   exact⟨_,rfl,by simpa[Builtin.Tuple.tupleCompareSizes]using hR⟩
  case h=>
   exact⟨rfl,rfl,items.toList,items2.toList,ns,ms,rfl,hi,hj,by omega,h⟩
end
section
variable{prog:GL}{w:Hk}{A:Hr}{E:G0->G6->Prop}{s:G6}
theorem r0{l b:Addr}{items items2:Array G0}{ns ms:List Int}{Q:G0->G6->Prop}(hl:IsTup s.heap l items)(hb:IsTup s.heap b items2)(hi:Im items.toList ns)(hj:Im items2.toList ms) (hu:A.units<HG) (h:Q (.bool (lexLe ns ms)) s):Gw (GG prog w) A (Hc .LtE (.ref l) (.ref b)) Q E s:=by obtain⟨⟨cls,dd,data,sl⟩,ho,hc,n,hd⟩:=id hl;obtain⟨⟨cls2,dd2,data2,sl2⟩,ho2,hc2,n2,hd2⟩:=id hb;simp only at hc hd hc2 hd2;subst hc hd hc2 hd2;exact richCompare_meets_room (op:=.LtE) ⟨_,ho,rfl⟩ ⟨_,ho2,rfl⟩ PySem.F.slot_tuple_le PySem.F.entry_tuple_le (PySem.F.args_tuple_le_2 _ _) (mj l b items items2 n n2 dd dd2 sl sl2 ns ms hi hj) ⟨ho,ho2,show JB (lexLe ns ms)≠Value.notImplemented/\Q (.bool (lexLe ns ms)) s from⟨(fun x=>nomatch x),h⟩⟩ hu
end
def bN:List Int->List Int->Bool
 |[],[]=>false
 |[],_::_=>false
 |_::_,[]=>true
 |x::xs,y::ys=>if x=y then bN xs ys else decide (y<x)
theorem rM(x y:Int)(xs ys:List Int):bN (x::xs) (y::ys)=if x=y then bN xs ys else decide (y<x):=rfl
theorem l4:bN [] []=false:=rfl
theorem j3(y:Int)(ys:List Int):bN [] (y::ys)=false:=rfl
theorem lP(x:Int)(xs:List Int):bN (x::xs) []=true:=rfl
theorem yh(A:Hr)(s:G6)(a:Int)(t:Tok)(c:Int)(u:Tok)(prog:GL)(w:Hk)(E:G0->G6->Prop)(Q:G0->G6->Prop)(h:Q (.bool (decide (c<a))) s) : Gw (GG prog w) A (richCompare .Gt (.int a t) (.int c u)) Q E s:=(PyProof.Rows.gt_int h:Gw (GG prog w) A (Hc .Gt (.int a t) (.int c u)) Q E s)
section
open PySem.SeqAt
open PySem.AutoSeq1 (wpAny_loadPart')
open PySem.MeetsSeq PySem.MeetsSeq2 PySem.MeetsSeq3
theorem l5(l b:Addr)(items items2:Array G0)(n n2:Nat)(dd dd2:Option Addr)(sl sl2:Array (Option G0))(ns ms:List Int)(hi:Im items.toList ns)(hj:Im items2.toList ms) :
 Meets (JG.«tuple.__gt__» ⟨[.ref l,.ref b],[]⟩)
  (fun _ R s=>s.heap.get? l=some { cls:=.type "tuple",dict:=dd,data:=.seq items n,slots:=sl }/\s.heap.get? b=some { cls:=.type "tuple",dict:=dd2,data:=.seq items2 n2,slots:=sl2 }/\
   R (.ok (.ret (.bool (bN ns ms)))) s):=
 .of_wp fun prog w A R s h=>by
  obtain⟨hp,g,d,tk,os⟩:=s;obtain⟨hl,hb,h⟩:=h
  have f2:=AutoSeq1.sub_tuple_tuple
  have z1:items.size=ns.length:=by rw[<-hi.length];simp
  have z2:items2.size=ms.length:=by rw[<-hj.length];simp
  wp_walk using Hx hl,Hx hb,wpAny_forIn_list _ (fun rest b s'=>b.1=none/\s'=⟨hp,g,d,tk,os⟩/\∃(vs ws:List G0) (ns' ms':List Int),rest=vs.zip ws/\
   Im vs ns'/\Im ws ms'/\ns'.length+items2.size=ms'.length+items.size/\R (.ok (.ret (.bool (bN ns' ms')))) ⟨hp,g,d,tk,os⟩) _
  case turn=>
   rintro⟨y,x⟩ rest b s' ⟨hb',rfl,vs,ws,ns',ms',hz,hvi,hwi,hlen,hR⟩
   cases hvi with
   |nil=>rw[List.zip_nil_left]at hz;cases hz
   |cons a t hvi'=>
    cases hwi with
    |nil=>rw[List.zip_nil_right]at hz;cases hz
    |cons c u hwi'=>
     rw[Jb]at hz
     injection hz with hyx hrest
     injection hyx with hy hx
     subst hy hx
     rw[rM]at hR
     simp only[Hv]at hlen
     obtain⟨e,he,hiff⟩:=kh A.in1 ⟨hp,g,d,tk,os⟩ a t c u
     refine cc (he prog w _ _ ?_)
     cases e with
     |true=>
      rw[if_pos (hiff.mp rfl)]at hR
      wp_walk
      exact⟨rfl,rfl,_,_,_,_,hrest,hvi',hwi',by omega,hR⟩
     |false=>
      rw[if_neg (fun q=>absurd (hiff.mpr q) GA)]at hR
      have hri:=yh A.in1 ⟨hp,g,d,tk,os⟩ a t c u prog w
      wp_walk using hri
      exact⟨_,rfl,by simpa using hR⟩
  case fin=>
   rintro⟨b1,b2⟩ s' ⟨hb',rfl,vs,ws,ns',ms',hz,hvi,hwi,hlen,hR⟩
   simp only at hb'
   subst hb'
   have hv:bN ns' ms'=decide (items.size>items2.size):=by
    cases hvi with
    |nil=>
     cases hwi with
     |nil=>
      simp only[Io]at hlen
      rw[l4]
      exact(decide_eq_false (by omega)).symm
     |cons c u hw=>
      simp only[Io,Hv]at hlen
      rw[j3]
      exact(decide_eq_false (by omega)).symm
    |cons a t hv=>
     cases hwi with
     |nil=>
      simp only[Io,Hv]at hlen
      rw[lP]
      exact(decide_eq_true (by omega)).symm
     |cons c u hw=>
      rw[Jb]at hz
      cases hz
   rw[hv]at hR
   wp_walk
   exact⟨_,rfl,by simpa[Builtin.Tuple.tupleCompareSizes]using hR⟩
  case h=>
   exact⟨rfl,rfl,items.toList,items2.toList,ns,ms,rfl,hi,hj,by omega,h⟩
end
section
variable{prog:GL}{w:Hk}{A:Hr}{E:G0->G6->Prop}{s:G6}
theorem kL{l b:Addr}{items items2:Array G0}{ns ms:List Int}{Q:G0->G6->Prop}(hl:IsTup s.heap l items)(hb:IsTup s.heap b items2)(hi:Im items.toList ns)(hj:Im items2.toList ms) (hu:A.units<HG) (h:Q (.bool (bN ns ms)) s):Gw (GG prog w) A (Hc .Gt (.ref l) (.ref b)) Q E s:=by obtain⟨⟨cls,dd,data,sl⟩,ho,hc,n,hd⟩:=id hl;obtain⟨⟨cls2,dd2,data2,sl2⟩,ho2,hc2,n2,hd2⟩:=id hb;simp only at hc hd hc2 hd2;subst hc hd hc2 hd2;exact richCompare_meets_room (op:=.Gt) ⟨_,ho,rfl⟩ ⟨_,ho2,rfl⟩ PySem.F.slot_tuple_gt PySem.F.entry_tuple_gt (PySem.F.args_tuple_gt_2 _ _) (l5 l b items items2 n n2 dd dd2 sl sl2 ns ms hi hj) ⟨ho,ho2,show JB (bN ns ms)≠Value.notImplemented/\Q (.bool (bN ns ms)) s from⟨(fun x=>nomatch x),h⟩⟩ hu
end
end HT
namespace SD
open PySem PySem.Spec PyProof.Rows L2
section
variable{X:Cx}
theorem eZ{K:G5}{H:Hp}:∀{ns:List Int} {xs:List V},aD K H (ns.map D.int) xs->xs=ns.map V.int
 |[],xs,h=>by rw[Ig,aD]at h;exact h
 |n::ns,xs,h=>by
  rw[Gs,aD]at h
  obtain⟨x,r,rfl,h1,h2⟩:=h
  rw[Rep]at h1
  rw[h1,eZ h2];rfl
theorem BV(hu:X.A.units<HG):OpR X (Hc .LtE) (fun x y H Q=>∃a b ns ms,x=.ref a/\y=.ref b/\SqT X.K H a (ns.map V.int)/\SqT X.K H b (ms.map V.int)/\Q (.bl (HT.lexLe ns ms)) H):=by intro pins s σ H x y v u Q I rx ry h;obtain⟨a,b,ns,ms,rfl,rfl,ha,hb,q⟩:=h;cases rx;cases ry;obtain⟨its,r1,p1,_⟩:=I.tuple ha;obtain⟨its2,r2,p2,_⟩:=I.tuple hb;exact HT.r0 p1 p2 (intsAre_of r1) (intsAre_of r2) hu ⟨.bl (HT.lexLe ns ms),H,I,rfl,q⟩
theorem A5(hu:X.A.units<HG):OpR X (Hc .Gt) (fun x y H Q=>∃a b ns ms,x=.ref a/\y=.ref b/\SqT X.K H a (ns.map V.int)/\SqT X.K H b (ms.map V.int)/\Q (.bl (HT.bN ns ms)) H):=by intro pins s σ H x y v u Q I rx ry h;obtain⟨a,b,ns,ms,rfl,rfl,ha,hb,q⟩:=h;cases rx;cases ry;obtain⟨its,r1,p1,_⟩:=I.tuple ha;obtain⟨its2,r2,p2,_⟩:=I.tuple hb;exact HT.kL p1 p2 (intsAre_of r1) (intsAre_of r2) hu ⟨.bl (HT.bN ns ms),H,I,rfl,q⟩
def oF(f:Int->Int->Bool)(g:List Int->List Int->Bool):R2D:=fun x y M Q=>match x,y with
 |.int i,.int j=>True/\Q (.bl (f i j)) M
 |.tup a,.tup b=>∃ns ms,a=IG D.int ns/\b=IG D.int ms/\Q (.bl (g ns ms)) M
 |_,_=>False
theorem yw{op:CmpOp}{f:Int->Int->Bool}{g:List Int->List Int->Bool}(h1:OpD X (Hc op) (rI2 (fun _ _=>True) fun i j=>.bl (f i j))) (h2:OpR X (Hc op) (fun x y H Q=>∃a b ns ms,x=.ref a/\y=.ref b/\SqT X.K H a (ns.map V.int)/\SqT X.K H b (ms.map V.int)/\Q (.bl (g ns ms)) H)):OpD X (Hc op) (oF f g):=by
 refine gQ (h1.or h2) fun v u H Q zz1_0=>?_;obtain⟨x,y,M,R,r1,r2,a,q,fin⟩:=zz1_0;unfold oF at q;split at q
 ·exact .inl ⟨_,_,M,R,r1,r2,a,q,fin⟩
 ·obtain⟨ns,ms,rfl,rfl,q⟩:=q;rw[Rep]at r1;obtain⟨p,xs,rfl,hx,rx⟩:=r1;obtain⟨p',ys,rfl,hy,ry⟩:∃a xs,u=V.ref a/\SqT X.K H a xs/\aD X.K H (IG D.int ms) xs:=by rw[Rep]at r2;exact r2
  rw[eZ rx]at hx;rw[eZ ry]at hy;exact .inr ⟨p,p',ns,ms,rfl,rfl,hx,hy,fin _ _ _ _ .refl (by rw[Rep]) a q⟩
 ·exact q.elim
theorem fE(hu:X.A.units+64<HG):OpD X (Hc .Lt) (oF (fun i j=>decide (i<j)) HT.lexLt):=yw D7 (CJ (by omega))
theorem wM(hu:X.A.units+64<HG):OpD X (Hc .LtE) (oF (fun i j=>decide (i<=j)) HT.lexLe):=yw Et (BV (by omega))
theorem nN(hu:X.A.units+64<HG):OpD X (Hc .Gt) (oF (fun i j=>decide (j<i)) HT.bN):=yw Ee (A5 (by omega))
theorem uj(hc:X.calm=true)(hu:X.A.units+64<HG):cu X (.builtin "max") (fun xs H Q=>∃p q ns ms,xs=[.ref p,.ref q]/\SqT X.K H p (ns.map V.int)/\SqT X.K H q (ms.map V.int)/\Q (if HT.bN ms ns=true then .ref q else .ref p) H):=by
 intro pins s σ H xs us Q I r z0;obtain⟨p,q,ns,ms,e,hp,hq,k⟩:=z0;subst e;obtain⟨u,v,rfl,ru,rv⟩:=vals2 r;cases ru;cases rv;obtain⟨its,r1,p1,_⟩:=I.tuple hp;obtain⟨its2,r2,p2,_⟩:=I.tuple hq;refine max_two (c:=HT.bN ms ns) (I.ok.hd hc) (fun t Q' E' kt q'=>?_) fun h' tk kt=>⟨_,H,I.kept kt,?_,k⟩
 ·obtain⟨o1,a1,b1⟩:=p1;obtain⟨o2,a2,b2⟩:=p2;exact HT.kL (A:=X.A.in1) (s:=t) ⟨o2,kt _ _ a2,b2⟩ ⟨o1,kt _ _ a1,b1⟩ (intsAre_of r2) (intsAre_of r1) (by show X.A.units+1<HG;omega) q'
 ·cases HT.bN ms ns<;>rfl
theorem uk(hc:X.calm=true)(hu:X.A.units+64<HG):cu X (.builtin "min") (fun xs H Q=>∃p q ns ms,xs=[.ref p,.ref q]/\SqT X.K H p (ns.map V.int)/\SqT X.K H q (ms.map V.int)/\Q (if HT.lexLt ms ns=true then .ref q else .ref p) H):=by
 intro pins s σ H xs us Q I r z0;obtain⟨p,q,ns,ms,e,hp,hq,k⟩:=z0;subst e;obtain⟨u,v,rfl,ru,rv⟩:=vals2 r;cases ru;cases rv;obtain⟨its,r1,p1,_⟩:=I.tuple hp;obtain⟨its2,r2,p2,_⟩:=I.tuple hq;refine min_two (c:=HT.lexLt ms ns) (I.ok.hd hc) (fun t Q' E' kt q'=>?_) fun h' tk kt=>⟨_,H,I.kept kt,?_,k⟩
 ·obtain⟨o1,a1,b1⟩:=p1;obtain⟨o2,a2,b2⟩:=p2;exact HT.k8 (A:=X.A.in1) (s:=t) ⟨o2,kt _ _ a2,b2⟩ ⟨o1,kt _ _ a1,b1⟩ (intsAre_of r2) (intsAre_of r1) (by show X.A.units+1<HG;omega) q'
 ·cases HT.lexLt ms ns<;>rfl
def AH:RC:=fun ds M Q=>match ds with
 |[.int i,.int j]=>Q (.int (max i j)) M
 |[.tup a,.tup b]=>∃ns ms,a=IG D.int ns/\b=IG D.int ms/\Q (.tup (IG D.int (if HT.bN ms ns=true then ms else ns))) M
 |_=>False
def AL:RC:=fun ds M Q=>match ds with
 |[.int i,.int j]=>Q (.int (min i j)) M
 |[.tup a,.tup b]=>∃ns ms,a=IG D.int ns/\b=IG D.int ms/\Q (.tup (IG D.int (if HT.lexLt ms ns=true then ms else ns))) M
 |_=>False
theorem nW(hc:X.calm=true)(hu:X.A.units+64<HG):eK X (.builtin "max") AH:=cw (cu.or (B4 hc) (uj hc hu)) fun vs H Q z9=>by
 obtain⟨ds,M,R,rs,a,q,fin⟩:=z9;unfold AH at q;split at q
 ·exact .inl ⟨_,M,R,rs,a,q,fin⟩
 ·obtain⟨ns,ms,rfl,rfl,q⟩:=q;obtain⟨v,u,rfl,r1,r2⟩:=fM rs;rw[Rep]at r1;obtain⟨p,xs,rfl,hx,rx⟩:=r1;obtain⟨p',ys,rfl,hy,ry⟩:∃a xs,u=V.ref a/\SqT X.K H a xs/\aD X.K H (IG D.int ms) xs:=by rw[Rep]at r2;exact r2
  have hx':=hx;have hy':=hy;rw[eZ rx]at hx';rw[eZ ry]at hy';refine .inr ⟨p,p',ns,ms,rfl,hx',hy',fin _ _ _ _ .refl ?_ a q⟩;by_cases z:HT.bN ms ns=true
  ·rw[if_pos z,if_pos z,Rep];exact⟨_,_,rfl,hy,ry⟩
  ·rw[if_neg z,if_neg z,Rep];exact⟨_,_,rfl,hx,rx⟩
 ·exact q.elim
theorem jT(hc:X.calm=true)(hu:X.A.units+64<HG):eK X (.builtin "min") AL:=cw (cu.or (Dl hc) (uk hc hu)) fun vs H Q z9=>by
 obtain⟨ds,M,R,rs,a,q,fin⟩:=z9;unfold AL at q;split at q
 ·exact .inl ⟨_,M,R,rs,a,q,fin⟩
 ·obtain⟨ns,ms,rfl,rfl,q⟩:=q;obtain⟨v,u,rfl,r1,r2⟩:=fM rs;rw[Rep]at r1;obtain⟨p,xs,rfl,hx,rx⟩:=r1;obtain⟨p',ys,rfl,hy,ry⟩:∃a xs,u=V.ref a/\SqT X.K H a xs/\aD X.K H (IG D.int ms) xs:=by rw[Rep]at r2;exact r2
  have hx':=hx;have hy':=hy;rw[eZ rx]at hx';rw[eZ ry]at hy';refine .inr ⟨p,p',ns,ms,rfl,hx',hy',fin _ _ _ _ .refl ?_ a q⟩;by_cases z:HT.lexLt ms ns=true
  ·rw[if_pos z,if_pos z,Rep];exact⟨_,_,rfl,hy,ry⟩
  ·rw[if_neg z,if_neg z,Rep];exact⟨_,_,rfl,hx,rx⟩
 ·exact q.elim
end
end SD
namespace Ma
open SD
theorem sY{p z:Int}(h:0<p):0<p*z↔0<z:=by
 constructor
 ·intro q;by_cases hz:0<z
  ·exact hz
  ·have:p*z<=0:=Int.mul_nonpos_of_nonneg_of_nonpos (by omega) (by omega);omega
 ·exact fun q=>GF h q
theorem mF{a b c d:Int}(hb:0<b)(hd:0<d):Rat.divInt a b<Rat.divInt c d↔a*d<c*b:=by
 have e:=Rat.divInt_sub_divInt c a (d₁:=d) (d₂:=b) (by omega) (by omega);have h1:Rat.divInt a b<Rat.divInt c d↔0<Rat.divInt c d-Rat.divInt a b:=by constructor<;>intro z<;>grind
 rw[h1,e,kB (GF hd hb)];omega
def ut(t b X m x:Int):Rat:=Rat.divInt (x*t+X*m) (b*m)
theorem tN{t b X m n x y:Int}(ht:0<t)(hb:0<b)(hm:0<m)(hn:0<n):ut t b X m x<ut t b X n y↔n*x<m*y:=by
 unfold ut;rw[mF (GF hb hm) (GF hb hn)];have e:(y*t+X*n)*(b*m)-(x*t+X*m)*(b*n)=(b*t)*(m*y-n*x):=by grind
 have:=sY (z:=m*y-n*x) (GF hb ht);omega
theorem dz{t b X m n x y:Int}(ht:0<t)(hb:0<b)(hm:0<m)(hn:0<n):ut t b X m x=ut t b X n y↔n*x=m*y:=by
 have h1:=tN (X:=X) (x:=x) (y:=y) ht hb hm hn;have h2:=tN (X:=X) (x:=y) (y:=x) ht hb hn hm;constructor
 ·intro e;have a:¬ut t b X m x<ut t b X n y:=by rw[e];exact Rat.lt_irrefl
  have c:¬ut t b X n y<ut t b X m x:=by rw[e];exact Rat.lt_irrefl
  rw[h1]at a;rw[h2]at c;omega
 ·intro e;have a:¬ut t b X m x<ut t b X n y:=by rw[h1];omega
  have c:¬ut t b X n y<ut t b X m x:=by rw[h2];omega
  grind
theorem xO{t b X x:Int}:Rat.divInt (x*t+X) b=ut t b X 1 x:=by unfold ut;rw[Int.mul_one,Int.mul_one]
theorem mX{t b X Y m n x y u v:Int}(ht:0<t)(hb:0<b)(hm:0<m)(hn:0<n) : ah (ut t b X m x) (ut t b Y m y) (ut t b X n u) (ut t b Y n v)↔HT.lexLt [n*x,n*y] [m*u,m*v]=true:=by
 unfold ah;rw[tN ht hb hm hn,dz ht hb hm hn,tN ht hb hm hn];simp only[HT.lexLt];by_cases h:n*x=m*u
 ·rw[if_pos h];by_cases h2:n*y=m*v
  ·rw[if_pos h2];simp;omega
  ·rw[if_neg h2];simp;omega
 ·rw[if_neg h];simp;omega
theorem ue(a b c d:Int):HT.lexLe [a,b] [c,d]=!HT.lexLt [c,d] [a,b]:=by
 simp only[HT.lexLe,HT.lexLt];by_cases h:a=c
 ·subst h;rw[if_pos rfl,if_pos rfl];by_cases h2:b=d
  ·subst h2;rw[if_pos rfl,if_pos rfl];rfl
  ·rw[if_neg h2,if_neg (fun e=>h2 e.symm)];rw[<-decide_not,decide_eq_decide];omega
 ·rw[if_neg h,if_neg (fun e=>h e.symm),<-decide_not,decide_eq_decide];omega
theorem mT(a b c d:Int):HT.bN [a,b] [c,d]=HT.lexLt [c,d] [a,b]:=by
 simp only[HT.bN,HT.lexLt];by_cases h:a=c
 ·subst h;rw[if_pos rfl,if_pos rfl];by_cases h2:b=d
  ·subst h2;simp
  ·rw[if_neg h2,if_neg (fun e=>h2 e.symm)]
 ·rw[if_neg h,if_neg (fun e=>h e.symm)]
theorem cF{a b c d:Int}:HT.lexLt [a,b] [c,d]=true↔a<c\/(a=c/\b<d):=by
 simp only[HT.lexLt];by_cases h:a=c
 ·subst h;rw[if_pos rfl];by_cases h2:b=d
  ·subst h2;rw[if_pos rfl];simp
  ·rw[if_neg h2];simp
 ·rw[if_neg h];simp;omega
end Ma
namespace SD
open PySem PySem.Spec PyProof.Rows L2
theorem av{M:MH}{a p:PySem.Addr}{o:MO}(h:M a=some o)(hp:M p=none):a≠p:=fun e=>by subst e;rw[h]at hp;cases hp
def scl(t b x y:Int):D:=.tup [.int t,.int b,.int x,.int y]
structure Scl(t b x y:Int):Prop where
 t0:0<t
 t1:t<=10^24
 b0:0<b
 b1:b<=10^26
 x0:-(10^30)<=x
 x1:x<=10^30
 y0:-(10^30)<=y
 y1:y<=10^30
def uw(w:Int×Int×Int×Int):D:=.tup [.tup [.int w.1,.int w.2.1],.tup [.int w.2.2.1,.int w.2.2.2]]
def rwl(t b x y:Int)(w:Int×Int×Int×Int):D:=Ma.wll (Ma.ut t b x 1 w.1) (Ma.ut t b y 1 w.2.1) (Ma.ut t b x 1 w.2.2.1) (Ma.ut t b y 1 w.2.2.2)
def Uok(n:Int)(w:Int×Int×Int×Int):Prop:=(-n<=w.1/\w.1<=n)/\(-n<=w.2.1/\w.2.1<=n)/\(-n<=w.2.2.1/\w.2.2.1<=n)/\(-n<=w.2.2.2/\w.2.2.2<=n)
def uby(m:Int)(w:Int×Int×Int×Int):Int×Int×Int×Int:=(m*w.1,m*w.2.1,m*w.2.2.1,m*w.2.2.2)
theorem range_getD(l:List D):(GR l.length).map (fun i=>(l[i]?).getD .non)=l:=by refine List.ext_getElem (by simp) fun i h1 h2=>?_;simp[h2]
theorem getD_map{α:Type}{f:α->D}{l:List α}{i:Nat}{a:α}(h:l[i]?=some a):((l.map f)[i]?).getD .non=f a:=by rw[Gr,h];rfl
theorem tQ{a k n m:Int}(h0:0<=a)(h1:a<=n)(k0:0<=k)(k1:k<=m):0<=a*k/\a*k<=n*m:=⟨Je h0 k0,Int.mul_le_mul h1 k1 k0 (by omega)⟩
theorem AA{t b x m p:Int}(ht:0<t/\t<=10^24)(hb:0<b/\b<=10^26)(hx:-(10^30)<=x/\x<=10^30)(hm:0<m/\m<=10^6)(hp:-(10^6)<=p/\p<=10^6):Ma.Bq 200 (Ma.ut t b x m p):=by
 have bt:Bd 80 t:=by show t.natAbs<2^80;omega
 have bm:Bd 64 m:=by show m.natAbs<2^64;omega
 have bp:Bd 64 p:=by show p.natAbs<2^64;omega
 have bb:Bd 90 b:=by show b.natAbs<2^90;omega
 have bx:Bd 100 x:=by show x.natAbs<2^100;omega
 refine Ma.Bq.divInt (by have:=GF hb.1 hm.1;omega) ?_ ((bb.mul bm).mono (by decide));exact(((bp.mul bt).mono (by decide:64+80<=164)).add (bx.mul bm)).mono (by decide)
theorem Scl.bx{t b x y m p:Int}(S:Scl t b x y)(hm:0<m/\m<=10^6)(hp:-(10^6)<=p/\p<=10^6):Ma.Bq 200 (Ma.ut t b x m p):=AA ⟨S.t0,S.t1⟩ ⟨S.b0,S.b1⟩ ⟨S.x0,S.x1⟩ hm hp
theorem Scl.by'{t b x y m p:Int}(S:Scl t b x y)(hm:0<m/\m<=10^6)(hp:-(10^6)<=p/\p<=10^6):Ma.Bq 200 (Ma.ut t b y m p):=AA ⟨S.t0,S.t1⟩ ⟨S.b0,S.b1⟩ ⟨S.y0,S.y1⟩ hm hp
theorem n8(a b c d:Int):Hu (.tuple [.int a,.int b]) (.tuple [.int c,.int d])=decide (a=c/\b=d):=by simp only[Hu,HX,jN,Bool.and_true,Jj]
open PySem PySem.Spec PyProof.Rows L2 Ma
instance(a b c d:Rat):Decidable (Ma.ah a b c d):=inferInstanceAs (Decidable (_\/_))
def crs(a b c d:Int):Int:=a*d-b*c
theorem xP{t b X m x:Int}(hb:0<b)(hm:0<m):Ma.ut t b X m x=((t:Rat)/b)*((x:Rat)/m)+(X:Rat)/b:=by
 unfold Ma.ut;rw[Rat.divInt_eq_div];have h1:(b:Rat)≠0:=by have:=Ma.pos_int hb;grind
 have h2:(m:Rat)≠0:=by have:=Ma.pos_int hm;grind
 rw[IV,Hj,Hj,Hj];grind
theorem cS{t b X x:Int}(hb:0<b):Ma.ut t b X 1 x=((t:Rat)/b)*(x:Rat)+(X:Rat)/b:=by rw[xP hb (by decide)];have:((1:Int):Rat)=1:=rfl;rw[this];grind
theorem yu(k x y p q r s e f:Rat):Ma.cr (k*p+x) (k*q+y) (k*r+x) (k*s+y) (k*e+x) (k*f+y)=k*k*((r-p)*(f-q)-(s-q)*(e-p)):=by unfold Ma.cr;grind
theorem DB{t b X Y p q r s e f:Int}(hb:0<b):Ma.cr (Ma.ut t b X 1 p) (Ma.ut t b Y 1 q) (Ma.ut t b X 1 r) (Ma.ut t b Y 1 s) (Ma.ut t b X 1 e) (Ma.ut t b Y 1 f)=((t:Rat)/b)*((t:Rat)/b)*((crs (r-p) (s-q) (e-p) (f-q):Int):Rat):=by rw[cS hb,cS hb,cS hb,cS hb,cS hb,cS hb,yu];unfold crs;rw[IC,Hj,Hj,IC,IC,IC,IC]
theorem sgn_mul{k:Rat}(hk:0<k)(z:Int):Ma.sgn (k*(z:Rat))=GS z:=by
 unfold Ma.sgn;by_cases h1:0<z
 ·rw[if_pos (J4 hk (Ma.pos_int h1)),HH h1]
 ·by_cases h2:z<0
  ·have h3:0<k*((-z:Int):Rat):=J4 hk (Ma.pos_int (by omega));rw[Rat.intCast_neg]at h3;rw[if_neg (by grind),if_pos (by grind),Hm h2]
  ·obtain rfl:z=0:=by omega
   have:((0:Int):Rat)=0:=rfl;rw[this];simp
theorem nD{k:Rat}(hk:0<k)(z:Int):k*(z:Rat)=0↔z=0:=by have h:=sgn_mul hk z;rw[<-Ma.pP,h];exact Int.sign_eq_zero_iff_zero
theorem E7{t b X Y p q e f:Int}(ht:0<t)(hb:0<b):Ma.ah (Ma.ut t b X 1 p) (Ma.ut t b Y 1 q) (Ma.ut t b X 1 e) (Ma.ut t b Y 1 f)↔(p<e\/(p=e/\q<f)):=by rw[Ma.mX ht hb (by decide) (by decide),Ma.cF];omega
end SD
namespace HT
open PySem PyProof.Rows
end HT
namespace SD
open PySem PySem.Spec PyProof.Rows L2
section
variable{X:Cx}
def zS(g:Bool->Bool):R2D:=fun x y M Q=>∃p ps,Pd M x p/\(Pd M y (.list ps)\/Pd M y (.tuple ps))/\IZ p=true/\Jp ps=true/\Q (.bl (g (ps.any fun q=>Hu q p))) M
theorem kI{p:Jx}{n:Nat}(h:IZ p=true):min n p.depth<=63+1:=HF (Nat.min_le_right _ _) (SeqAt.depth_of_shaped h)
theorem D3(hu:X.A.units+66<HG):OpD X (Hc .In) (zS fun b=>b):=by
 intro pins s σ H v u v' u' Q I rv ru h;obtain⟨x,y,M,R,r1,r2,a,⟨p,ps,p1,p2,s1,s2,hq⟩,fin⟩:=h;obtain⟨as,q1⟩:=bI I a p1 r1 rv;have hm:=kI (n:=PyData.depthAll ps) s1;rcases p2 with p2|p2
 ·obtain⟨bs,q2⟩:=bI I a p2 r2 ru;exact SeqAt.in_list_reads q2 q1 s2 (J0 s1) (by omega) ⟨.bl _,H,I,rfl,fin _ _ _ _ .refl (by rw[Rep]) a hq⟩
 ·obtain⟨bs,q2⟩:=bI I a p2 r2 ru;exact SeqAt.in_tuple_reads q2 q1 s2 (J0 s1) (by omega) ⟨.bl _,H,I,rfl,fin _ _ _ _ .refl (by rw[Rep]) a hq⟩
theorem xH(hu:X.A.units+66<HG):OpD X (Hc .NotIn) (zS fun b=>!b):=by
 intro pins s σ H v u v' u' Q I rv ru h;obtain⟨x,y,M,R,r1,r2,a,⟨p,ps,p1,p2,s1,s2,hq⟩,fin⟩:=h;obtain⟨as,q1⟩:=bI I a p1 r1 rv;have hm:=kI (n:=PyData.depthAll ps) s1;rcases p2 with p2|p2
 ·obtain⟨bs,q2⟩:=bI I a p2 r2 ru;exact SeqAt.notIn_list_reads q2 q1 s2 (J0 s1) (by omega) ⟨.bl _,H,I,rfl,fin _ _ _ _ .refl (by rw[Rep]) a hq⟩
 ·obtain⟨bs,q2⟩:=bI I a p2 r2 ru;exact SeqAt.notIn_tuple_reads q2 q1 s2 (J0 s1) (by omega) ⟨.bl _,H,I,rfl,fin _ _ _ _ .refl (by rw[Rep]) a hq⟩
theorem oG{K:G5}{H:Hp}:∀{bs:List Bool} {xs:List V},aD K H (bs.map D.bl) xs->xs=bs.map V.bl
 |[],xs,h=>by rw[Ig,aD]at h;exact h
 |n::ns,xs,h=>by
  rw[Gs,aD]at h
  obtain⟨x,r,rfl,h1,h2⟩:=h
  rw[Rep]at h1
  rw[h1,oG h2];rfl
theorem lI:∀{bs:List Bool} {us:List G0},Vals (bs.map V.bl) us->us=bs.map JB
 |[],_,.nil=>rfl
 |b::bs,_,.cons r t=>by
  cases (show _=JB b from r)
  rw[lI t];rfl
def DL:RC:=fun ds M Q=>match ds with
 |[.ref l]=>∃bs:List Bool,M l=some (.lst (IG D.bl bs))/\Q (.bl (bs.all id)) M
 |_=>False
theorem va(hc:X.calm=true):cu X (.builtin "all") (fun xs H Q=>∃(p:Addr) (bs:List Bool),xs=[.ref p]/\SqL X.K H p (bs.map V.bl)/\Q (.bl (bs.all id)) H):=by
 intro pins s σ H xs us Q I r z0;obtain⟨l,bs,e,hp,k⟩:=z0;subst e;obtain⟨u,rfl,ru⟩:=vals1 r;cases ru;obtain⟨its,r1,p1,_⟩:=I.list hp;have hv:=lI r1;have hl:=p1.isList;have lt:l≠s.heap.objs.size:=Hh (let⟨_,e,_⟩:=hl;GC e);refine call_all_walk (x:=.ref l) (wpAny_pyIter_list hl ⟨s.heap.objs.size,[s.heap.objs.size,l],[s.heap.objs.size],its.toArray.size,_,_,fun i=>(bs[i]?).getD true,rfl,Walks.list (A:=X.A.in1) (I.ok.hd hc) _ l lt its.toArray,⟨⟨_,Gv _ rfl,rfl,rfl⟩,hl.push _⟩,fun i v s' Q' E' hP hQ=>?_,fun h' tk hk=>?_⟩)
 ·have hP':its[i]?=some v:=by simpa using hP
  rw[hv,Gr]at hP';cases eb:bs[i]? with
  |none=>rw[eb]at hP';cases hP'
  |some b=>
   rw[eb]at hP'
   cases hP'
   have hQ':Q' b s':=by simpa[eb]using hQ
   exact HN hQ'
 ·rw[show((GR its.toArray.size).all fun i=>(bs[i]?).getD true)=bs.all id by rw[GJ,hv,Gx];exact LSm.range_all bs];exact⟨.bl (bs.all id),H,I.kept (LSm.kept_iter hk),rfl,k⟩
theorem Bs(hc:X.calm=true):eK X (.builtin "all") DL:=cw (va hc) fun vs H Q z9=>by
 obtain⟨ds,M,R,rs,a,q,fin⟩:=z9;unfold DL at q;split at q
 ·obtain⟨bs,e,q⟩:=q;obtain⟨v,rfl,r⟩:=cJ rs;rw[Rep]at r;subst r;obtain⟨xs,hx,rx⟩:=a _ _ e;rw[oG rx]at hx;exact⟨_,bs,rfl,SqL.of hx,fin _ _ _ _ .refl (by rw[Rep]) a q⟩
 ·exact q.elim
def Fo(to:TD)(t:TAD):TD:=fun δ M Q=>to δ M fun x M1=>∃l ys,x=.ref l/\M1 l=some (.lst ys)/\t δ M1 fun ds M2=>∃xs d,ds=[d]/\M2 l=some (.lst xs)/\xs.length<1000000/\Q .non (ax M2 l (.lst (xs++[d])))
variable{o e:Expr}{to:TD}{t:TAD}{apos a9:Pos}
theorem bL(ho:DE X o to)(ha:DA X [e] t)
 (hbase:attributeBase o "append" X.env (eval o X.env)=eval o X.env:=by rfl)
 (hfew:((Ij a9 (GH [e] X.env)).all (fun x=>!x.1)&&(backToKw a9 (Jm [] X.env)).all (fun x=>x.1.isSome)
  && decide ([e].length+([]:List Keyword).length+(if([]:List Keyword).isEmpty then 0 else 1)<30))=true:=by rfl)
 (hline:(apos.endLine==a9.line)=true:=by rfl) (hs:GH [e] X.env=(false,eval e X.env)::GH [] X.env:=by rfl) (hplain:(Ij a9 (GH [] X.env)).any (·.1)=false:=by rfl) :
 DE X (.Call (.Attribute o "append" apos) [e] [] a9) (Fo to t):=
 aZ (AN PySem.F.plainAttrs_list PySem.F.slot_list_append PySem.F.type_list_append jb ho ha hbase hfew hline hs hplain) fun σ H Q z9=>by
  obtain⟨δ,M,R,hsl,hM,q,fin⟩:=z9
  refine⟨δ,M,_,hsl,hM,q,fun x M1 v H1 g1 r1 a1 zz1_0=>?_⟩
  obtain⟨l,ys,ex,hl,q1⟩:=zz1_0
  subst ex
  rw[Rep]at r1
  subst r1
  obtain⟨vs,hvs,_⟩:=a1 _ _ hl
  refine⟨.inl ⟨rfl,vs,SqL.of hvs⟩,δ,M1,_,hsl.mono g1,a1,q1,fun ds M2 us H2 g2 r2 a2 zz2_0=>?_⟩
  obtain⟨xs,d,ed,hx,hn,q2⟩:=zz2_0
  subst ed
  obtain⟨u,rfl,ru⟩:=cJ r2
  obtain⟨ws,hws,rws⟩:=a2 _ _ hx
  have hlen:=rws.length
  refine⟨l,ws,u,rfl,rfl,hws,GP (by omega) (show 1000000<=GD from nbL rfl),?_⟩
  exact fin _ _ _ _ (g1.trans (g2.trans (.lst hws))) (by rw[Rep]) (a2.vm hws (rws.append (.cons ru .nil))) q2
end
theorem kY{k:Nat}{A:Hr}(r:Room k A):A.units+66<HG:=by have:=r.un;omega
abbrev Wl:=Int×Int×Int×Int
def la(x y:Int):Int:=100*x+y
def l1(w:Wl):Int:=la w.1 w.2.1
def l2(w:Wl):Int:=la w.2.2.1 w.2.2.2
def sd(w:Wl)(x y:Int):Int:=crs (w.2.2.1-w.1) (w.2.2.2-w.2.1) (x-w.1) (y-w.2.1)
def sd1(w v:Wl):Int:=sd w v.1 v.2.1
def sd2(w v:Wl):Int:=sd w v.2.2.1 v.2.2.2
structure Un5(w:Wl):Prop where
 a:0<=w.1/\w.1<=20
 b:0<=w.2.1/\w.2.1<=20
 c:0<=w.2.2.1/\w.2.2.1<=20
 d:0<=w.2.2.2/\w.2.2.2<=20
 lt:l1 w<l2 w
def bg(w:Wl)(l s:Int):Prop:=l=l1 w\/l=l2 w\/l<l1 w\/l2 w<l\/s≠0
structure Fair(U V:Wl):Prop where
 ne:¬(l1 U=l1 V/\l2 U=l2 V)
 e1:bg U (l1 V) (sd1 U V)
 e2:bg U (l2 V) (sd2 U V)
 e3:bg V (l1 U) (sd1 V U)
 e4:bg V (l2 U) (sd2 V U)
 pr:0<=GS (sd1 U V)*GS (sd2 U V)\/0<=GS (sd1 V U)*GS (sd2 V U)
theorem Fair.swap{U V:Wl}(h:Fair U V):Fair V U:=⟨fun z=>h.ne ⟨z.1.symm,z.2.symm⟩,h.e3,h.e4,h.e1,h.e2,h.pr.symm⟩
def abv(U V:Wl):Bool:=
 if max (l1 U) (l1 V)<min (l2 U) (l2 V)then
  if l1 U=l1 V then(if l2 U<l2 V then decide (0<sd2 V U)else decide (sd2 U V<0))
  else if l1 V<l1 U then decide (0<sd1 V U)else decide (sd1 U V<0)
 else false
theorem sg1(z:Int):GS z=1↔0<z:=Int.sign_eq_one_iff_pos
theorem sgm(z:Int):-GS z=1↔z<0:=by
 rcases Gy z 0 with h|h|h
 ·rw[Hm h];omega
 ·subst h;simp
 ·rw[HH h];omega
theorem sgp{x y:Int}(h:0<=GS x*GS y):¬(0<x/\y<0)/\¬(x<0/\0<y):=by
 constructor
 ·rintro⟨a,b⟩;rw[HH a,Hm b]at h;omega
 ·rintro⟨a,b⟩;rw[Hm a,HH b]at h;omega
theorem dM{z k:Int}(hk:0<k)(h:0<z*k):0<z:=by
 rcases Gy z 0 with q|q|q
 ·have:=GU q hk;omega
 ·subst q;simp at h
 ·exact q
theorem gL{z k:Int}(hk:0<k)(h:z*k<0):z<0:=by
 rcases Gy z 0 with q|q|q
 ·exact q
 ·subst q;simp at h
 ·have:=GF q hk;omega
theorem within{a b c d u1 u2 v1 v2:Int}(I1:a*(v2-v1)=d*(u1-v1)-c*(u2-v1))(I2:b*(v2-v1)=d*(u1-v2)-c*(u2-v2))
 (h1:v1<u1) (h2:v1<u2) (h3:u1<v2) (h4:u2<v2) (F:(¬(0<c/\d<0)/\¬(c<0/\0<d))\/(¬(0<a/\b<0)/\¬(a<0/\0<b))) (c0:c≠0) (d0:d≠0):0<c↔0<d:=by
 have k:0<v2-v1:=by omega
 have A1:¬(0<c/\d<0):=fun z9=>by
  obtain⟨x,y⟩:=z9
  have p1:=GU y (show 0<u1-v1 by omega)
  have p2:=GF x (show 0<u2-v1 by omega)
  have p3:=He y (show u1-v2<0 by omega)
  have p4:=GK x (show u2-v2<0 by omega)
  have a1:=gL (z:=a) k (by omega)
  have b1:=dM (z:=b) k (by omega)
  omega
 have A2:¬(c<0/\0<d):=fun z9=>by
  obtain⟨x,y⟩:=z9
  have p1:=GF y (show 0<u1-v1 by omega)
  have p2:=GU x (show 0<u2-v1 by omega)
  have p3:=GK y (show u1-v2<0 by omega)
  have p4:=He x (show u2-v2<0 by omega)
  have a1:=dM (z:=a) k (by omega)
  have b1:=gL (z:=b) k (by omega)
  omega
 omega
theorem nA{a b c d u1 u2 v1 v2:Int}(I2:b*(v2-v1)=d*(u1-v2)-c*(u2-v2))(I3:c*(u2-u1)=b*(v1-u1)-a*(v2-u1))
 (h1:v1<u1) (h2:u1<v2) (h3:v2<u2) (F:(¬(0<c/\d<0)/\¬(c<0/\0<d))\/(¬(0<a/\b<0)/\¬(a<0/\0<b))) (c0:c≠0) (b0:b≠0):0<c↔b<0:=by
 have e:d*(u1-v2)=-(d*(v2-u1)):=by rw[<-Int.mul_neg];congr 1;omega
 have A1:¬(0<c/\0<b):=fun z9=>by
  obtain⟨x,y⟩:=z9
  have p1:=GF y (show 0<v2-v1 by omega)
  have p2:=GF x (show 0<u2-v2 by omega)
  have p3:=GF x (show 0<u2-u1 by omega)
  have p4:=GK y (show v1-u1<0 by omega)
  have a1:=gL (z:=a) (show 0<v2-u1 by omega) (by omega)
  have d1:=gL (z:=d) (show 0<v2-u1 by omega) (by omega)
  omega
 have A2:¬(c<0/\b<0):=fun z9=>by
  obtain⟨x,y⟩:=z9
  have p1:=GU y (show 0<v2-v1 by omega)
  have p2:=GU x (show 0<u2-v2 by omega)
  have p3:=GU x (show 0<u2-u1 by omega)
  have p4:=He y (show v1-u1<0 by omega)
  have a1:=dM (z:=a) (show 0<v2-u1 by omega) (by omega)
  have d1:=dM (z:=d) (show 0<v2-u1 by omega) (by omega)
  omega
 omega
theorem qa(U V:Wl):sd1 U V*(l2 V-l1 V)=sd2 V U*(l1 U-l1 V)-sd1 V U*(l2 U-l1 V):=by unfold sd1 sd2 sd l1 l2 la crs;grind
theorem pA(U V:Wl):sd2 U V*(l2 V-l1 V)=sd2 V U*(l1 U-l2 V)-sd1 V U*(l2 U-l2 V):=by unfold sd1 sd2 sd l1 l2 la crs;grind
theorem eR{x y u v:Int}(h1:0<=y/\y<=20)(h2:0<=v/\v<=20)(h:la x y=la u v):x=u/\y=v:=by unfold la at h;omega
theorem sG{U V:Wl}(hU:Un5 U)(hV:Un5 V)(h:l1 U=l1 V):sd1 U V=0:=by obtain⟨e1,e2⟩:=eR hU.b hV.b h;unfold sd1 sd crs;rw[e1,e2];simp
theorem lU{U V:Wl}(hU:Un5 U)(hV:Un5 V)(h:l2 U=l2 V):sd2 U V=0:=by obtain⟨e1,e2⟩:=eR hU.d hV.d h;unfold sd2 sd crs;rw[e1,e2];grind
theorem bg.nz{w:Wl}{l s:Int}(h:bg w l s)(h1:l1 w<l)(h2:l<l2 w):s≠0:=by
 unfold bg at h;rcases h with h|h|h|h|h
 ·omega
 ·omega
 ·omega
 ·omega
 ·exact h
theorem bE{u1 u2 v1 v2:Int}:max u1 v1<min u2 v2↔u1<u2/\u1<v2/\v1<u2/\v1<v2:=by rw[Int.max_lt,Int.lt_min,Int.lt_min,and_assoc]
section
variable{U V:Wl}(ap:max (l1 U) (l1 V)<min (l2 U) (l2 V))
include ap
theorem lG(z:l1 U<l1 V):abv U V=decide (sd1 U V<0):=by unfold abv;rw[if_pos ap,if_neg (Int.ne_of_lt z),if_neg (Int.not_lt.mpr (HI z))]
theorem kO(z:l1 V<l1 U):abv U V=decide (0<sd1 V U):=by unfold abv;rw[if_pos ap,if_neg (fun e=>Int.ne_of_lt z e.symm),if_pos z]
theorem sa(z:l1 U=l1 V)(y:l2 U<l2 V):abv U V=decide (0<sd2 V U):=by unfold abv;rw[if_pos ap,if_pos z,if_pos y]
theorem oK(z:l1 U=l1 V)(y:¬l2 U<l2 V):abv U V=decide (sd2 U V<0):=by unfold abv;rw[if_pos ap,if_pos z,if_neg y]
end
theorem xt{a:Int}(h:a≠0):decide (0<a)=!decide (a<0):=by rw[<-decide_not,decide_eq_decide];omega
theorem rG{a:Int}(h:a≠0):decide (a<0)=!decide (0<a):=by rw[<-decide_not,decide_eq_decide];omega
theorem cX{U V:Wl}(hU:Un5 U)(hV:Un5 V)(F:Fair U V)(ap:max (l1 U) (l1 V)<min (l2 U) (l2 V)):abv V U=!abv U V:=by
 have pa:=ap;rw[Int.max_comm,Int.min_comm]at pa;have o:=bE.mp ap;rcases Gy (l1 U) (l1 V)with h|h|h
 ·rw[kO pa h,lG ap h,xt (F.e1.nz h o.2.2.1)]
 ·rcases Gy (l2 U) (l2 V)with h'|h'|h'
  ·rw[oK pa h.symm (Int.not_lt.mpr (HI h')),sa ap h h',rG (F.e4.nz o.2.2.1 h')]
  ·exact absurd ⟨h,h'⟩ F.ne
  ·rw[sa pa h.symm h',oK ap h (Int.not_lt.mpr (HI h')),xt (F.e2.nz o.2.1 h')]
 ·rw[lG pa h,kO ap h,rG (F.e3.nz h o.2.1)]
theorem xo{a b c d:Int}(hb:0<=b/\b<=20)(hd:0<=d/\d<=20):HT.lexLt [a,b] [c,d]=decide (la a b<la c d):=by have h:=Ma.cF (a:=a) (b:=b) (c:=c) (d:=d);rw[ID,h,decide_eq_true_eq];unfold la;omega
theorem Av{a b c d:Int}(hb:0<=b/\b<=20)(hd:0<=d/\d<=20):HT.lexLe [a,b] [c,d]=decide (la a b<=la c d):=by rw[Ma.ue,xo hd hb,<-decide_not,decide_eq_decide];omega
theorem E5{a b c d:Int}(hb:0<=b/\b<=20)(hd:0<=d/\d<=20):HT.bN [a,b] [c,d]=decide (la c d<la a b):=by rw[Ma.mT,xo hd hb]
theorem eG{z:Int}(h:0<=z/\z<=20):Bd 6 z:=by show z.natAbs<2^6;omega
theorem wA{x y u v:Int}(h1:0<=y/\y<=20)(h2:0<=v/\v<=20):(x=u/\y=v)↔la x y=la u v:=by unfold la;omega
theorem zD{I:ItD}{tk:Tgt}{js:List Nat}{tc:TTD}{te:TD}{δ:DS}{M1:MH}{Q:DK}(f:Nat->Option D)(hn:I.n<=1000000)(hC:∀p ys,M1 p=none->I.C (ax M1 p (.lst ys))) (h:∀i d M,i<I.n->I.item i=some d->Sub M1 M->∃os,xp tk d os/\(∀K:Bool->MH->Prop,K (f i).isSome M->tc (cδ os js δ) M K)/\∀e,f i=some e->∀K:DK,(∀M',Sub M M'->K e M')->te (cδ os js δ) M K) (hq:∀p,M1 p=none->Q (.ref p) (ax M1 p (.lst ((GR I.n).filterMap f)))):vO I tk js tc te δ M1 Q:=by
 refine⟨hn,fun p hp=>⟨fun i ys M=>ys=(GR i).filterMap f/\M=ax M1 p (.lst ys),⟨rfl,rfl⟩,?_,?_,?_⟩⟩
 ·rintro i ys M _ ⟨_,rfl⟩;exact hC p ys hp
 ·rintro i ys d M hi hd ⟨rfl,rfl⟩;obtain⟨os,ow,kt,ke⟩:=h i d _ hi hd (.new hp .refl);refine⟨os,ow,kt _ ?_⟩;cases e:f i with
  |none=>
   refine iA rfl ⟨_,.refl,?_,?_⟩
   ·rw[IU,List.filterMap_append];simp[e]
   ·rfl
  |some v=>
   refine rm rfl (ke v e _ fun M' s'=>⟨_,s',af,?_,by rw[bJ]⟩)
   rw[IU,List.filterMap_append];simp[e]
 ·rintro ys M ⟨rfl,rfl⟩;exact hq p hp
theorem xZ{A:Wl}{x y:Int}(hA:Un5 A)(hy:0<=y/\y<=20)(h:(!(decide (A.1=x/\A.2.1=y)||decide (A.2.2.1=x/\A.2.2.2=y))&&(decide (l1 A<=la x y)&&decide (la x y<=l2 A)&&decide (sd A x y=0)))=false):bg A (la x y) (sd A x y):=by
 unfold bg;by_cases h1:A.1=x/\A.2.1=y
 ·exact .inl ((wA hA.b hy).mp h1).symm
 ·by_cases h2:A.2.2.1=x/\A.2.2.2=y
  ·exact .inr (.inl ((wA hA.d hy).mp h2).symm)
  ·rw[decide_eq_false h1,decide_eq_false h2,Bool.or_false,Bool.not_false,Hw,<-Jj,<-Jj,decide_eq_false_iff_not]at h;by_cases h3:sd A x y=0
   ·rcases Int.lt_or_le (la x y) (l1 A)with z|z
    ·exact .inr (.inr (.inl z))
    ·rcases Int.lt_or_le (l2 A) (la x y)with z'|z'
     ·exact .inr (.inr (.inr (.inl z')))
     ·exact absurd ⟨⟨z,z'⟩,h3⟩ h
   ·exact .inr (.inr (.inr (.inr h3)))
theorem BS(M:MH)(A:Wl)(x y:Int)(g:Bool->Bool)(Q:DK)(q:Q (.bl (g (decide (A.1=x/\A.2.1=y)||decide (A.2.2.1=x/\A.2.2.2=y)))) M):zS g (.tup [.int x,.int y]) (uw A) M Q:=by refine⟨_,_,Pd.of rfl,.inr (Pd.of rfl),rfl,rfl,?_⟩;rw[J1,J1,List.any_nil,n8,n8,Bool.or_false];exact q
theorem Am(z:Int):Bd 64 (GS z):=by
 rcases Gy z 0 with h|h|h
 ·rw[Hm h];decide
 ·subst h;decide
 ·rw[HH h];decide
def uwP(w:Wl):Jx:=.tuple [.tuple [.int w.1,.int w.2.1],.tuple [.int w.2.2.1,.int w.2.2.2]]
theorem vh{M:MH}:∀ws:List Wl,Pds M (ws.map uw) (ws.map uwP)
 |[]=>.nil
 |w::ws=>.cons (Pd.of rfl) (vh ws)
theorem wI:∀ws:List Wl,Jp (ws.map uwP)=true
 |[]=>rfl
 |w::ws=>by rw[Gs,Jp,wI ws];rfl
theorem xE:∀ws:List Wl,PyData.depthAll (ws.map uwP)<=10
 |[]=>nbL rfl
 |w::ws=>by
  rw[Gs,PyData.depthAll]
  exact Nat.max_le.mpr ⟨nbL rfl,xE ws⟩
theorem uz(ws:List Wl):IZ (.list (ws.map uwP))=true:=by unfold IZ;have h1:=wI ws;have h2:=xE ws;rw[GN];refine⟨by rw[PyData.canLay0];exact h1,decide_eq_true ?_⟩;rw[PyData.depth];omega
theorem rh:∀ws:List Wl,Hu (.list (ws.map uwP)) (.list [])=ws.isEmpty
 |[]=>by simp[Hu,HX]
 |w::ws=>by simp[Hu,HX]
def PF(ws:List Wl):Prop:=∀(i j:Nat) (U V:Wl),i≠j->ws[i]?=some U->ws[j]?=some V->Fair U V
theorem By:PF []:=fun i j U V _ h=>by simp at h
theorem u9{ws:List Wl}{U:Wl}(h:PF ws)(hU:∀(j:Nat) (w:Wl),ws[j]?=some w->Fair U w):PF (ws++[U]):=by
 intro i j A B hij hA hB
 have get:∀{k:Nat} {C:Wl},(ws++[U])[k]?=some C->ws[k]?=some C\/(k=ws.length/\C=U):=fun{k C} e=>by
  rcases Nat.lt_trichotomy k ws.length with z|z|z
  ·rw[Hy z]at e;exact .inl e
  ·subst z;rw[Ht (Gq _)]at e;simp at e;exact .inr ⟨rfl,e.symm⟩
  ·rw[List.getElem?_eq_none (by simp;omega)]at e;cases e
 rcases get hA with a|⟨a,rfl⟩<;>rcases get hB with b|⟨b,rfl⟩
 ·exact h i j A B hij a b
 ·exact(hU _ _ a).swap
 ·exact hU _ _ b
 ·omega
theorem vy{w:Wl}(h:Un5 w){v:Int}(h0:0<=v)(h1:v<2):∃x y,atI [D.tup [.int w.1,.int w.2.1],.tup [.int w.2.2.1,.int w.2.2.2]] v=some (.tup [.int x,.int y])/\(0<=x/\x<=20)/\(0<=y/\y<=20):=by
 rcases(show v=0\/v=1 by omega)with rfl|rfl
 ·exact⟨_,_,rfl,h.a,h.b⟩
 ·exact⟨_,_,rfl,h.c,h.d⟩
theorem za{ws:List Wl}{v:Int}(h0:0<=v)(h1:v<ws.length):∃w,w∈ws/\atI (ws.map uw) v=some (uw w):=by
 obtain⟨j,rfl⟩:∃j:Nat,v=(j:Int):=⟨v.toNat,by omega⟩;have hj:j<ws.length:=by omega
 exact⟨ws[j],HC hj,b8 (by simp[hj])⟩
theorem uR{p q e f:Int}(hp:0<=p/\p<=20)(hq:0<=q/\q<=20)(he:0<=e/\e<=20)(hf:0<=f/\f<=20)(ne:¬(p=e/\q=f)) :
 ∃w:Wl,(if HT.lexLt [e,f] [p,q]=true then[e,f]else[p,q])=[w.1,w.2.1]/\(if HT.bN [e,f] [p,q]=true then[e,f]else[p,q])=[w.2.2.1,w.2.2.2]/\Un5 w:=by
 rw[xo hf hq,E5 hf hq]
 have nl:la p q≠la e f:=fun z=>ne ((wA hq hf).mpr z)
 by_cases h:la e f<la p q
 ·exact⟨(e,f,p,q),by rw[if_pos (decide_eq_true h)],by rw[if_neg (by simp;omega)],⟨he,hf,hp,hq,h⟩⟩
 ·have h':la p q<la e f:=by omega
  exact⟨(p,q,e,f),by rw[if_neg (by simpa using h)],by rw[if_pos (decide_eq_true h')],⟨hp,hq,he,hf,h'⟩⟩
theorem lO{t b X Y p q e f:Int}(ht:0<t)(hb:0<b)(hq:0<=q/\q<=20)(hf:0<=f/\f<=20):Ma.ah (Ma.ut t b X 1 p) (Ma.ut t b Y 1 q) (Ma.ut t b X 1 e) (Ma.ut t b Y 1 f)↔la p q<la e f:=by rw[E7 ht hb];unfold la;omega
theorem ia{t b X Y p q e f:Int}(ht:0<t)(hb:0<b)(hq:0<=q/\q<=20)(hf:0<=f/\f<=20):(Ma.ut t b X 1 p=Ma.ut t b X 1 e/\Ma.ut t b Y 1 q=Ma.ut t b Y 1 f)↔la p q=la e f:=by rw[Ma.dz ht hb (by decide) (by decide),Ma.dz ht hb (by decide) (by decide)];unfold la;omega
theorem ji{t b X Y:Int}(ht:0<t)(hb:0<b)(w:Wl)(x y:Int):Ma.sgn (Ma.cr (Ma.ut t b X 1 w.1) (Ma.ut t b Y 1 w.2.1) (Ma.ut t b X 1 w.2.2.1) (Ma.ut t b Y 1 w.2.2.2) (Ma.ut t b X 1 x) (Ma.ut t b Y 1 y))=GS (sd w x y):=by
 have k:(0:Rat)<(t:Rat)/b:=by rw[Jz];exact J4 (Ma.pos_int ht) (Rat.inv_pos.mpr (Ma.pos_int hb))
 rw[DB hb,sgn_mul (J4 k k)];rfl
theorem Fu(z:Int):GS z=-1↔z<0:=by rw[<-sgm];omega
section
variable{X:Cx}
def gi{α:Type}(xs:List α)(j:Nat)(y:α):List α:=xs.take j++y::xs.drop j
def zP:V->List V->Hp->VK->Prop:=fun x vs H Q=>∃l xs y,∃(k:Int) (j:Nat),x=.ref l/\vs=[.int k,y]/\k=(j:Int)/\H l=some (.lst xs)/\j<=xs.length/\xs.length<1000000/\Q .non (upd H l (.lst (gi xs j y)))
theorem zQ(its:List G0)(k:Int)(j:Nat)(u:G0)(hk:k=(j:Int))(hj:j<=its.length) :
 (its.toArray.extract 0 (if k<0 then(k+((its.toArray.size:Nat):Int)).toNat else min k.toNat its.toArray.size)).push u++its.toArray.extract (if k<0 then(k+((its.toArray.size:Nat):Int)).toNat else min k.toNat its.toArray.size)=(gi its j u).toArray:=by
 have e:(if k<0 then(k+((its.toArray.size:Nat):Int)).toNat else min k.toNat its.toArray.size)=j:=by
  rw[if_neg (by omega),GJ];omega
 rw[e]
 apply Array.toList_inj.mp
 simp[gi]
 exact Ih (by simp)
theorem ui:MtM X "list.insert" zP:=by
 intro pins s σ H x vs v us Q I rx rv z0;obtain⟨l,xs,y,k,j,ex,ev,hk,hH,hj,hz,q⟩:=z0;subst ex ev;cases rx;obtain⟨u1,u2,rfl,r1,r2⟩:=rv.two;obtain⟨t,rfl⟩:=r1;obtain⟨z,its,n,r,hl,e⟩:=I.pN hH;have fits:Builtin.List.listFitsIndex k=true:=by unfold Builtin.List.listFitsIndex;simp;omega
 have hsz:its.toArray.size<=GD:=by rw[GJ,<-hl];exact z
 refine call_meets PySem.F.slot_list_insert ⟨_,e,rfl⟩ PySem.F.entry_list_insert (PySem.F.args_list_insert_3 _ _ _) (PySem.AutoSeq1.list_insert_list_int_val_1 l its.toArray n k t u2 (by rw[fits];decide) hsz) ⟨e,?_⟩;refine⟨.non,_,I.Fc (its':=gi its j u2) hH e (zQ its k j u2 hk (by omega)) ((Vals.take j r).append (.cons r2 (Vals.drop j r))) ?_,rfl,q⟩;show(xs.take j++y::xs.drop j).length<=GD;simp only[Ir,J6,Hv,List.length_drop];have:1000000<=GD:=nbL rfl;omega
def EY(to:TD)(t:TAD):TD:=fun δ M Q=>to δ M fun x M1=>∃l ys,x=.ref l/\M1 l=some (.lst ys)/\t δ M1 fun ds M2=>∃xs d,∃j:Nat,ds=[.int (j:Int),d]/\M2 l=some (.lst xs)/\j<=xs.length/\xs.length<1000000/\Q .non (ax M2 l (.lst (gi xs j d)))
variable{o e1 e2:Expr}{to:TD}{t:TAD}{apos a9:Pos}
theorem jv(ho:DE X o to)(ha:DA X [e1,e2] t)
 (hbase:attributeBase o "insert" X.env (eval o X.env)=eval o X.env:=by rfl)
 (hfew:((Ij a9 (GH [e1,e2] X.env)).all (fun x=>!x.1)&&(backToKw a9 (Jm [] X.env)).all (fun x=>x.1.isSome)
  && decide ([e1,e2].length+([]:List Keyword).length+(if([]:List Keyword).isEmpty then 0 else 1)<30))=true:=by rfl)
 (hline:(apos.endLine==a9.line)=true:=by rfl) (hs:GH [e1,e2] X.env=(false,eval e1 X.env)::GH [e2] X.env:=by rfl) (hplain:(Ij a9 (GH [e2] X.env)).any (·.1)=false:=by rfl) :
 DE X (.Call (.Attribute o "insert" apos) [e1,e2] [] a9) (EY to t):=
 aZ (AN PySem.F.plainAttrs_list PySem.F.slot_list_insert PySem.F.type_list_insert ui ho ha hbase hfew hline hs hplain) fun σ H Q z9=>by
  obtain⟨δ,M,R,hsl,hM,q,fin⟩:=z9
  refine⟨δ,M,_,hsl,hM,q,fun x M1 v H1 g1 r1 a1 zz1_0=>?_⟩
  obtain⟨l,ys,ex,hl,q1⟩:=zz1_0
  subst ex
  rw[Rep]at r1
  subst r1
  obtain⟨vs,hvs,_⟩:=a1 _ _ hl
  refine⟨.inl ⟨rfl,vs,SqL.of hvs⟩,δ,M1,_,hsl.mono g1,a1,q1,fun ds M2 us H2 g2 r2 a2 zz2_0=>?_⟩
  obtain⟨xs,d,j,ed,hx,hj,hn,q2⟩:=zz2_0
  subst ed
  obtain⟨u1,u2,rfl,ru1,ru2⟩:=fM r2
  rw[Rep]at ru1
  subst ru1
  obtain⟨ws,hws,rws⟩:=a2 _ _ hx
  have hlen:=rws.length
  exact⟨l,ws,u2,_,j,rfl,rfl,rfl,hws,by omega,by omega,fin _ _ _ _ (g1.trans (g2.trans (.lst hws))) (by rw[Rep]) (a2.vm hws ((rws.take j).append (.cons ru2 (rws.drop j)))) q2⟩
def wC:RC:=fun ds M Q=>match ds with
 |[.ref l]=>∃xs,M l=some (.lst xs)/\∀p,M p=none->Q (.ref p) (ax M p (.lst xs))
 |[.tup xs]=>∀p,M p=none->Q (.ref p) (ax M p (.lst xs))
 |_=>False
theorem ze:eK X (.type "list") wC:=cw nF fun vs H Q z9=>by
 obtain⟨ds,M,R,rs,a,q,fin⟩:=z9;unfold wC at q;split at q
 ·obtain⟨ys,e,q⟩:=q;obtain⟨v,rfl,r⟩:=cJ rs;rw[Rep]at r;subst r;obtain⟨xs,hx,rx⟩:=a _ _ e;exact⟨_,xs,rfl,.inl (SqL.of hx),fun z hz=>fin _ _ _ _ (.new hz) (by rw[Rep]) (a.l9 hz rx) (q z (a.fresh hz))⟩
 ·obtain⟨v,rfl,r⟩:=cJ rs;rw[Rep]at r;obtain⟨p,xs,rfl,hx,rx⟩:=r;exact⟨_,xs,rfl,.inr hx,fun z hz=>fin _ _ _ _ (.new hz) (by rw[Rep]) (a.l9 hz rx) (q z (a.fresh hz))⟩
 ·exact q.elim
end
def lam(w:Wl):Int:=l2 w-l1 w
def Nm(w:Wl)(t:Int):Int:=2*w.1*lam w+(t-2*l1 w)*(w.2.2.1-w.1)
def Gh(U V:Wl)(t:Int):Int:=Nm V t*lam U-Nm U t*lam V
theorem Dw(U V:Wl):Gh U V (2*l1 U)=2*(lam U*sd1 V U):=by unfold Gh Nm lam sd1 sd l1 l2 la crs;grind
theorem DM(U V:Wl):Gh U V (2*l2 U)=2*(lam U*sd2 V U):=by unfold Gh Nm lam sd2 sd l1 l2 la crs;grind
theorem tE(U V:Wl)(t:Int):Gh V U t=-Gh U V t:=by unfold Gh;grind
theorem Ge(U V:Wl):Gh U V (2*l1 V)=-(2*(lam V*sd1 U V)):=by rw[<-Dw,tE]
theorem FI(U V:Wl):Gh U V (2*l2 V)=-(2*(lam V*sd2 U V)):=by rw[<-DM,tE]
theorem Fn(U V:Wl)(p q t:Int):Gh U V t*(q-p)=Gh U V p*(q-t)+Gh U V q*(t-p):=by unfold Gh Nm;grind
theorem eJ{U V:Wl}{p q t:Int}(h1:p<t)(h2:t<q)(gp:0<=Gh U V p)(gq:0<=Gh U V q)(g:0<Gh U V p\/0<Gh U V q):0<Gh U V t:=by
 refine dM (k:=q-p) (by omega) ?_;rw[Fn U V p q t];have a1:=Je gp (show 0<=q-t by omega);have a2:=Je gq (show 0<=t-p by omega);rcases g with g|g
 ·have:=GF g (show 0<q-t by omega);omega
 ·have:=GF g (show 0<t-p by omega);omega
theorem mx2{a b t:Int}:2*max a b<t↔2*a<t/\2*b<t:=by rw[Int.max_def];split<;>omega
theorem mn2{a b t:Int}:t<2*min a b↔t<2*a/\t<2*b:=by rw[Int.min_def];split<;>omega
theorem ye{a1 a2 a3 b1 b2 b3:Int}(h:a1<b1/\a1<b2/\a1<b3)(h':a2<b1/\a2<b2/\a2<b3)(h'':a3<b1/\a3<b2/\a3<b3):∃t,(2*a1<t/\2*a2<t/\2*a3<t)/\t<2*b1/\t<2*b2/\t<2*b3:=by have k:∀{b},a1<b->a2<b->a3<b->max (max a1 a2) a3<b:=fun x y z=>Int.max_lt.mpr ⟨Int.max_lt.mpr ⟨x,y⟩,z⟩;have l:max (max a1 a2) a3<min (min b1 b2) b3:=Int.lt_min.mpr ⟨Int.lt_min.mpr ⟨k h.1 h'.1 h''.1,k h.2.1 h'.2.1 h''.2.1⟩,k h.2.2 h'.2.2 h''.2.2⟩;have p1:a1<=max (max a1 a2) a3:=Int.le_trans (Int.le_max_left ..) (Int.le_max_left ..);have p2:a2<=max (max a1 a2) a3:=Int.le_trans (Int.le_max_right ..) (Int.le_max_left ..);have p3:a3<=max (max a1 a2) a3:=Int.le_max_right ..;have q1:min (min b1 b2) b3<=b1:=Int.le_trans (Int.min_le_left ..) (Int.min_le_left ..);have q2:min (min b1 b2) b3<=b2:=Int.le_trans (Int.min_le_left ..) (Int.min_le_right ..);have q3:min (min b1 b2) b3<=b3:=Int.min_le_right ..;generalize max (max a1 a2) a3=m at *;generalize min (min b1 b2) b3=n at *;clear h h' h'' k;refine⟨m+n,⟨?_,?_,?_⟩,?_,?_,?_⟩<;>omega
theorem p9{U V:Wl}{t:Int}(hU:Un5 U)(hV:Un5 V)(F:Fair U V)(ap:max (l1 U) (l1 V)<min (l2 U) (l2 V))(t1:2*max (l1 U) (l1 V)<t)(t2:t<2*min (l2 U) (l2 V))(h:abv U V=true):0<Gh U V t:=by
 have hA:l1 U<l1 V->sd1 U V<0:=fun z=>of_decide_eq_true ((lG ap z).symm.trans h);have hC:l1 V<l1 U->0<sd1 V U:=fun z=>of_decide_eq_true ((kO ap z).symm.trans h);have hD:l1 U=l1 V->l2 U<l2 V->0<sd2 V U:=fun z y=>of_decide_eq_true ((sa ap z y).symm.trans h);have hB:l1 U=l1 V->¬l2 U<l2 V->sd2 U V<0:=fun z y=>of_decide_eq_true ((oK ap z y).symm.trans h);clear h;obtain⟨o1,o2,o3,o4⟩:=bE.mp ap;clear ap;obtain⟨tu1,tv1⟩:=mx2.mp t1;obtain⟨tu2,tv2⟩:=mn2.mp t2;clear t1 t2;have f1:=F.e1.nz;have f2:=F.e2.nz;have f3:=F.e3.nz;have f4:=F.e4.nz;have pr:(¬(0<sd1 V U/\sd2 V U<0)/\¬(sd1 V U<0/\0<sd2 V U))\/(¬(0<sd1 U V/\sd2 U V<0)/\¬(sd1 U V<0/\0<sd2 U V)):=F.pr.elim (fun z=>.inr (sgp z)) (fun z=>.inl (sgp z));have z1:=sG hU hV;have z2:=lU hU hV;have z3:=sG hV hU;have z4:=lU hV hU;have w1:=fun h1 h2 h3 h4 c0 d0=>within (qa U V) (pA U V) h1 h2 h3 h4 pr c0 d0;have w2:=fun h1 h2 h3 h4 c0 d0=>within (qa V U) (pA V U) h1 h2 h3 h4 pr.symm c0 d0;have s1:=fun h1 h2 h3 c0 d0=>nA (pA U V) (qa V U) h1 h2 h3 pr c0 d0;have s2:=fun h1 h2 h3 c0 d0=>nA (pA V U) (qa U V) h1 h2 h3 pr.symm c0 d0;clear pr;have ne:=F.ne;have lu:0<lam U:=by have:=hU.lt;unfold lam;omega
 have lv:0<lam V:=by have:=hV.lt;unfold lam;omega
 have G1:=Dw U V;have G2:=DM U V;have G3:=Ge U V;have G4:=FI U V;have P1:0<sd1 V U->0<Gh U V (2*l1 U):=fun z=>by rw[G1];have:=GF lu z;omega
 have P2:0<sd2 V U->0<Gh U V (2*l2 U):=fun z=>by rw[G2];have:=GF lu z;omega
 have P3:sd1 U V<0->0<Gh U V (2*l1 V):=fun z=>by rw[G3];have:=GK lv z;omega
 have P4:sd2 U V<0->0<Gh U V (2*l2 V):=fun z=>by rw[G4];have:=GK lv z;omega
 have Z1:sd1 V U=0->Gh U V (2*l1 U)=0:=fun z=>by rw[G1,z];simp
 have Z2:sd2 V U=0->Gh U V (2*l2 U)=0:=fun z=>by rw[G2,z];simp
 rcases Gy (l1 U) (l1 V)with y|y|y<;>rcases Gy (l2 U) (l2 V)with y'|y'|y'
 ·have na:=f1 y o3;have nd:=f4 o3 y';have q:=s2 y o3 y' na nd;have a0:sd1 U V<0:=hA y;have p1:=P3 a0;have p2:=P2 (by omega);exact eJ (p:=2*l1 V) (q:=2*l2 U) (by assumption) (by assumption) (HI p1) (by first|exact HI p2|exact Int.le_of_eq p2.symm) (.inl p1)
 ·have a0:sd1 U V<0:=hA y;have p1:=P3 a0;have p2:=Z2 (z4 y'.symm);exact eJ (p:=2*l1 V) (q:=2*l2 U) (by assumption) (by assumption) (HI p1) (by first|exact HI p2|exact Int.le_of_eq p2.symm) (.inl p1)
 ·have na:=f1 y o3;have nb:=f2 (by omega) y';have q:=w2 y (by omega) o3 y' na nb;have a0:sd1 U V<0:=hA y;have p1:=P3 a0;have p2:=P4 (by omega);exact eJ (p:=2*l1 V) (q:=2*l2 V) (by assumption) (by assumption) (HI p1) (by first|exact HI p2|exact Int.le_of_eq p2.symm) (.inl p1)
 ·have p1:=Z1 (z3 y.symm);have p2:=P2 (hD y y');exact eJ (p:=2*l1 U) (q:=2*l2 U) (by assumption) (by assumption) (Int.le_of_eq p1.symm) (HI p2) (.inr p2)
 ·exact absurd ⟨y,y'⟩ ne
 ·have p1:=Z1 (z3 y.symm);have p2:=P4 (hB y (by omega));exact eJ (p:=2*l1 U) (q:=2*l2 V) (by assumption) (by assumption) (Int.le_of_eq p1.symm) (HI p2) (.inr p2)
 ·have q:=w1 y (by omega) o2 y' (f3 y o2) (f4 (by omega) y');have c0:0<sd1 V U:=hC y;have p1:=P1 c0;have p2:=P2 (by omega);exact eJ (p:=2*l1 U) (q:=2*l2 U) (by assumption) (by assumption) (HI p1) (by first|exact HI p2|exact Int.le_of_eq p2.symm) (.inl p1)
 ·have c0:0<sd1 V U:=hC y;have p1:=P1 c0;have p2:=Z2 (z4 y'.symm);exact eJ (p:=2*l1 U) (q:=2*l2 U) (by assumption) (by assumption) (HI p1) (by first|exact HI p2|exact Int.le_of_eq p2.symm) (.inl p1)
 ·have q:=s1 y o2 y' (f3 y o2) (f2 o2 y');have c0:0<sd1 V U:=hC y;have p1:=P1 c0;have p2:=P4 (by omega);exact eJ (p:=2*l1 U) (q:=2*l2 V) (by assumption) (by assumption) (HI p1) (by first|exact HI p2|exact Int.le_of_eq p2.symm) (.inl p1)
theorem mv{U V W:Wl}(hU:Un5 U)(hV:Un5 V)(hW:Un5 W)(F1:Fair U V)(F2:Fair V W)(F3:Fair U W)(a1:max (l1 U) (l1 V)<min (l2 U) (l2 V))(a2:max (l1 V) (l1 W)<min (l2 V) (l2 W))(a3:max (l1 U) (l1 W)<min (l2 U) (l2 W))
 (h1:abv U V=true) (h2:abv V W=true):abv U W=true:=by
 have o1:=bE.mp a1
 have o2:=bE.mp a2
 have o3:=bE.mp a3
 obtain⟨t,⟨x1,x2,x3⟩,y1,y2,y3⟩:=ye ⟨o1.1,o1.2.1,o3.2.1⟩ ⟨o1.2.2.1,o1.2.2.2,o2.2.1⟩ ⟨o3.2.2.1,o2.2.2.1,o2.2.2.2⟩
 have g1:=p9 (t:=t) hU hV F1 a1 (mx2.mpr ⟨x1,x2⟩) (mn2.mpr ⟨y1,y2⟩) h1
 have g2:=p9 (t:=t) hV hW F2 a2 (mx2.mpr ⟨x2,x3⟩) (mn2.mpr ⟨y2,y3⟩) h2
 have lu:0<lam U:=by have:=hU.lt;unfold lam;omega
 have lv:0<lam V:=by have:=hV.lt;unfold lam;omega
 have lw:0<lam W:=by have:=hW.lt;unfold lam;omega
 have g3:0<Gh U W t:=by
  refine dM (k:=lam V) lv ?_
  have e:Gh U W t*lam V=lam U*Gh V W t+lam W*Gh U V t:=by unfold Gh;grind
  rw[e]
  exact Int.add_pos (GF lu g2) (GF lw g1)
 cases z:abv U W with
 |true=>rfl
 |false=>
  have n:=cX hU hW F3 a3
  rw[z]at n
  have g4:=p9 (t:=t) hW hU F3.swap (by rw[Int.max_comm,Int.min_comm];exact a3) (mx2.mpr ⟨x3,x1⟩) (mn2.mpr ⟨y3,y1⟩) n
  rw[tE]at g4
  omega
theorem bC{U:Wl}(hU:Un5 U):abv U U=false:=by
 unfold abv;split
 ·rw[if_pos rfl,if_neg (by omega),lU hU hU rfl];rfl
 ·rfl
theorem pO{α β:Type}(f:α->β)(xs:List α)(j:Nat)(y:α):gi (xs.map f) j (f y)=(gi xs j y).map f:=by unfold gi;simp[List.map_take,List.map_drop]
theorem uS{α:Type}(xs:List α)(j:Nat)(y:α):(gi xs j y).Perm (y::xs):=by
 unfold gi;have h:(xs.take j++y::xs.drop j).Perm (y::(xs.take j++xs.drop j)):=List.perm_middle
 rwa [List.take_append_drop]at h
theorem jn{α:Type}(p:α->Bool)(f:α->D):∀l:List α,l.filterMap (fun k=>if p k=true then some (f k)else none)=(l.filter p).map f
 |[]=>rfl
 |a::l=>by
  rw[List.filterMap_cons,List.filter_cons]
  cases h:p a
  ·simp[jn p f l]
  ·simp[jn p f l]
def wAt(ws:List Wl)(k:Int):Wl:=(ws[k.toNat]?).getD (0,0,0,0)
theorem aV{ws:List Wl}{k:Int}(h0:0<=k)(h1:k<ws.length):ws[k.toNat]?=some (wAt ws k)/\atI (ws.map uw) k=some (uw (wAt ws k))/\wAt ws k∈ws:=by
 obtain⟨j,rfl⟩:∃j:Nat,k=(j:Int):=⟨k.toNat,by omega⟩;have hj:j<ws.length:=by omega
 have e:wAt ws (j:Int)=ws[j]:=by unfold wAt;simp[hj]
 refine⟨by rw[e];simp[hj],?_,by rw[e];exact HC hj⟩;rw[e];exact b8 (by simp[hj])
theorem xa{R:Int->Int->Bool}:∀fs:List Int,fs≠[]->(∀k∈fs,∀j∈fs,k≠j->R j k=!R k j)->(∀k∈fs,∀j∈fs,∀i∈fs,k≠j->j≠i->k≠i->R k j=true->R j i=true->R k i=true)->∃t∈fs,∀k∈fs,k=t\/R t k=true
 |[],h,_,_=>absurd rfl h
 |[a],_,_,_=>⟨a,by simp,fun k hk=>.inl (by simpa using hk)⟩
 |a::b::l,_,tot,tr=>by
  obtain⟨t,ht,top⟩:=xa (R:=R) (b::l) (by simp) (fun k hk j hj=>tot k (.tail _ hk) j (.tail _ hj)) (fun k hk j hj i hi=>tr k (.tail _ hk) j (.tail _ hj) i (.tail _ hi))
  by_cases e:a=t
  ·subst e
   refine⟨a,by simp,fun k hk=>?_⟩
   rcases Hf.mp hk with rfl|hk
   ·exact .inl rfl
   ·exact top k hk
  ·have ta:=tot a (by simp) t (.tail _ ht) e
   cases q:R a t with
   |false=>
    rw[q]at ta
    refine⟨t,.tail _ ht,fun k hk=>?_⟩
    rcases Hf.mp hk with rfl|hk
    ·exact .inr ta
    ·exact top k hk
   |true=>
    refine⟨a,by simp,fun k hk=>?_⟩
    rcases Hf.mp hk with rfl|hk'
    ·exact .inl rfl
    ·by_cases ka:k=a
     ·exact .inl ka
     ·rcases top k hk' with rfl|z
      ·exact .inr q
      ·by_cases kt:k=t
       ·subst kt;exact .inr q
       ·exact .inr (tr a (by simp) t (.tail _ ht) k hk e (fun y=>kt y.symm) (fun y=>ka y.symm) q z)
theorem qB{fs:List Int}{t:Int}{p:Int->Bool}(nd:fs.Nodup)(ht:t∈fs)(hp:∀k∈fs,p k=true↔k=t):fs.filter p=[t]:=by
 induction fs with
 |nil=>cases ht
 |cons a l ih=>
  rw[List.nodup_cons]at nd
  rw[List.filter_cons]
  by_cases e:a=t
  ·subst e;rw[if_pos ((hp a (by simp)).mpr rfl)];have:l.filter p=[]:=List.filter_eq_nil_iff.mpr fun k hk hpk=>nd.1 ((hp k (.tail _ hk)).mp hpk▸hk);rw[this]
  ·rw[if_neg (fun z=>e ((hp a (by simp)).mp z))];exact ih nd.2 ((Hf.mp ht).resolve_left (fun z=>e z.symm)) fun k hk=>hp k (.tail _ hk)
def frP(q:Rat):Jx:=.tuple [.int q.num,.int (q.den:Int)]
def rwP(t b x y:Int)(w:Wl):Jx:=.tuple [.tuple [frP (Ma.ut t b x 1 w.1),frP (Ma.ut t b y 1 w.2.1)],.tuple [frP (Ma.ut t b x 1 w.2.2.1),frP (Ma.ut t b y 1 w.2.2.2)]]
theorem pV(t b x y:Int)(w:Wl):Hu (rwP t b x y w) (rwP t b x y w)=true:=by simp[rwP,frP,Hu,HX]
theorem yL{a b x y:Int}(h1:-10<=b/\b<=85)(h2:-10<=y/\y<=85):HT.lexLt [a,b] [x,y]=decide (la a b<la x y):=by have h:=Ma.cF (a:=a) (b:=b) (c:=x) (d:=y);rw[ID,h,decide_eq_true_eq];unfold la;omega
def spB(ws:List Wl)(m s:Int)(j:Nat):Bool:=decide (m*l1 (wAt ws (j:Int))<=s)&&decide (s<m*l2 (wAt ws (j:Int)))
def spK(ws:List Wl)(m s:Int):List Int:=((GR ws.length).filter (spB ws m s)).map fun j:Nat=>(j:Int)
theorem ie{ws:List Wl}{m s k:Int}(h:k∈spK ws m s):0<=k/\k<ws.length/\m*l1 (wAt ws k)<=s/\s<m*l2 (wAt ws k):=by unfold spK at h;obtain⟨j,hj,rfl⟩:=Hi.mp h;rw[GQ,Hq]at hj;have:=hj.2;unfold spB at this;rw[GN,decide_eq_true_eq,decide_eq_true_eq]at this;exact⟨by omega,by omega,this.1,this.2⟩
theorem Bl(m a b:Int):la (m*a) (m*b)=m*la a b:=by unfold la;grind
theorem over_of{m s a b c d:Int}(hm:0<m)(h1:m*a<=s)(h2:s<m*b)(h3:m*c<=s)(h4:s<m*d):max a c<min b d:=by have e:∀{x y:Int},m*x<=s->s<m*y->x<y:=fun{x y} p q=>Int.lt_of_mul_lt_mul_left (Int.lt_of_le_of_lt p q) (by omega);have:=e h1 h2;have:=e h1 h4;have:=e h3 h2;have:=e h3 h4;omega
theorem xc{ws:List Wl}{fs:List Int}{m s:Int}(hU:∀w∈ws,Un5 w)(hF:PF ws)(hm:0<m)(hs:∀k∈fs,k∈spK ws m s)(hn:fs≠[])(nd:fs.Nodup) :
 ∃t∈fs,(∀w∈fs.map (wAt ws),w=wAt ws t\/(abv (wAt ws t) w=true/\abv w (wAt ws t)=false))/\(fs.filter fun k=>fs.all fun j=>!abv (wAt ws j) (wAt ws k))=[t]:=by
 have sp:=fun k hk=>ie (hs k hk)
 have un:∀k∈fs,Un5 (wAt ws k):=fun k hk=>hU _ (aV (sp k hk).1 (sp k hk).2.1).2.2
 have fr:∀k∈fs,∀j∈fs,k≠j->Fair (wAt ws k) (wAt ws j):=fun k hk j hj ne=>by
  have a:=sp k hk
  have b:=sp j hj
  exact hF k.toNat j.toNat _ _ (by omega) (aV a.1 a.2.1).1 (aV b.1 b.2.1).1
 have ov:∀k∈fs,∀j∈fs,max (l1 (wAt ws k)) (l1 (wAt ws j))<min (l2 (wAt ws k)) (l2 (wAt ws j)):=fun k hk j hj=>
  over_of hm (sp k hk).2.2.1 (sp k hk).2.2.2 (sp j hj).2.2.1 (sp j hj).2.2.2
 have tot:∀k∈fs,∀j∈fs,k≠j->abv (wAt ws j) (wAt ws k)=!abv (wAt ws k) (wAt ws j):=fun k hk j hj ne=>cX (un k hk) (un j hj) (fr k hk j hj ne) (ov k hk j hj)
 obtain⟨t,ht,top⟩:=xa (R:=fun k j=>abv (wAt ws k) (wAt ws j)) fs hn tot (fun k hk j hj i hi a b c p q=>mv (un k hk) (un j hj) (un i hi) (fr k hk j hj a) (fr j hj i hi b) (fr k hk i hi c) (ov k hk j hj) (ov j hj i hi) (ov k hk i hi) p q)
 refine⟨t,ht,fun w hw=>?_,qB nd ht fun k hk=>?_⟩
 ·obtain⟨k,hk,rfl⟩:=Hi.mp hw
  by_cases e:k=t
  ·exact .inl (by rw[e])
  ·have a:=(top k hk).resolve_left e
   have b:=tot t ht k hk (fun z=>e z.symm)
   rw[a]at b
   exact .inr ⟨a,b⟩
 ·rw[Hs]
  constructor
  ·intro h
   by_cases e:k=t
   ·exact e
   ·have a:=(top k hk).resolve_left e
    have:=h t ht
    rw[a]at this
    cases this
  ·rintro rfl j hj
   by_cases e:j=k
   ·rw[e,bC (un k hk)];rfl
   ·have a:=(top j hj).resolve_left e
    have b:=tot k hk j hj (fun z=>e z.symm)
    rw[b,a];rfl
section
variable{X:Cx}{pins:List (Addr×Obj)}{σ:L2.St}{H:Hp}{s:G6}
theorem j9{h':Heap}{t':Nat}{e it:Addr}(I:Inv X pins σ H s)(k:∀b o,b≠e->b≠it->s.heap.get? b=some o->h'.get? b=some o)(fe:cC X pins H e)(fi:cC X pins H it):Inv X pins σ H { s with heap:=h',toks:=t' }:=by
 obtain⟨e0,e1,_,e3,e4,e5⟩:=fe;obtain⟨i0,i1,_,i3,i4,i5⟩:=fi;have ne:∀b u,H b=some u->b≠e/\b≠it:=fun b u q=>⟨fun z=>(by rw[z,e0]at q;cases q),fun z=>(by rw[z,i0]at q;cases q)⟩;have nc:∀{b:Addr},b∉[e,it]->b≠e/\b≠it:=fun{b} hc=>⟨fun z=>hc (by simp[z]),fun z=>hc (by simp[z])⟩;refine I.step (g':=s.gens) (d':=s.drawn) (ch:=[e,it]) (fun b hb=>?_) (fun b o _ _ hc q _=>k b o (nc hc).1 (nc hc).2 q) (fun b o _ _ hc q _=>⟨o.slots,k b o (nc hc).1 (nc hc).2 q⟩) (fun _ _ _ _ n=>n) (fun b o hc q=>⟨o,k b o (nc hc).1 (nc hc).2 q⟩) (fun _ _ q=>q) (fun _ _ _ q=>q) (fun b ps q=>⟨#[],by rw[q];simp⟩) (fun m hm=>?_) (fun b u q=>?_) I.bare
 ·rcases(show b=e\/b=it by simpa using hb)with rfl|rfl
  ·exact⟨e3,e1,e4,e5⟩
  ·exact⟨i3,i1,i4,i5⟩
 ·obtain⟨o,es,ep,ho,r⟩:=hm;exact⟨o,es,ep,k _ o (Ne.symm e1) (Ne.symm i1) ho,r⟩
 ·refine(I.hok b u q).gH (fun c v hc z=>?_) (fun _ z=>z) fun _ _ z=>z;rcases hc with y|y
  ·subst y;exact k _ v (ne _ u q).1 (ne _ u q).2 z
  ·exact k c v (ne c _ y).1 (ne c _ y).2 z
end
theorem g8:HL "enumerate"=some (.type "enumerate"):=by decide +kernel
theorem qS{U V:Wl}(hU:l1 U<l2 U)(hV:l1 V<l2 V)(F:Fair U V)(z1:sd1 U V=0)(z2:sd2 U V=0):¬max (l1 U) (l1 V)<min (l2 U) (l2 V):=by
 intro ap;rw[bE]at ap;obtain⟨o1,o2,o3,o4⟩:=ap;have i3:=qa V U;have i4:=pA V U;rw[z1,z2]at i3 i4;have f1:=F.e1.nz;have f2:=F.e2.nz;have f3:=F.e3.nz;have f4:=F.e4.nz;have ne:=F.ne
 have c0:sd1 V U=0:=by
  have:sd1 V U*(l2 U-l1 U)=0:=by rw[i3];simp
  rcases Ic.mp this with q|q
  ·exact q
  ·omega
 have d0:sd2 V U=0:=by
  have:sd2 V U*(l2 U-l1 U)=0:=by rw[i4];simp
  rcases Ic.mp this with q|q
  ·exact q
  ·omega
 rcases Gy (l1 U) (l1 V)with h|h|h
 ·exact f1 h o3 z1
 ·rcases Gy (l2 U) (l2 V)with h'|h'|h'
  ·exact f4 (by omega) h' d0
  ·exact ne ⟨h,h'⟩
  ·exact f2 (by omega) h' z2
 ·exact f3 h o2 c0
theorem oT{U V:Wl}(h:abv U V=true):max (l1 U) (l1 V)<min (l2 U) (l2 V):=by
 unfold abv at h;split at h
 ·assumption
 ·cases h
theorem mY(f:Int->Int):∀fs:List Int,fs≠[]->∃w∈fs,∀k∈fs,f w<=f k
 |[],h=>absurd rfl h
 |[a],_=>⟨a,by simp,fun k hk=>by rw[HE.mp hk];exact JA _⟩
 |a::b::l,_=>by
  obtain⟨w,hw,h⟩:=mY f (b::l) (by simp)
  by_cases e:f a<=f w
  ·refine⟨a,by simp,fun k hk=>?_⟩
   rcases Hf.mp hk with rfl|hk
   ·exact JA _
   ·have:=h k hk;omega
  ·refine⟨w,.tail _ hw,fun k hk=>?_⟩
   rcases Hf.mp hk with rfl|hk
   ·omega
   ·exact h k hk
theorem zo{ws:List Wl}(hU:∀w∈ws,Un5 w)(hF:PF ws):∀(n:Nat) (fs:List Int),fs.length=n->fs≠[]->fs.Nodup->(∀k∈fs,0<=k/\k<ws.length)->∃t∈fs,∀k∈fs,abv (wAt ws k) (wAt ws t)=false:=by
 intro n
 induction n with
 |zero=>intro fs h hn;exact absurd (List.eq_nil_of_length_eq_zero h) hn
 |succ n ih=>
  intro fs hl hn nd bd
  have un:∀k∈fs,Un5 (wAt ws k):=fun k hk=>hU _ (aV (bd k hk).1 (bd k hk).2).2.2
  have fr:∀k∈fs,∀j∈fs,k≠j->Fair (wAt ws k) (wAt ws j):=fun k hk j hj ne=>by
   have a:=bd k hk
   have b:=bd j hj
   exact hF k.toNat j.toNat _ _ (by omega) (aV a.1 a.2).1 (aV b.1 b.2).1
  obtain⟨w,hw,hmin⟩:=mY (fun k=>l2 (wAt ws k)) fs hn
  by_cases he:fs.erase w=[]
  ·refine⟨w,hw,fun k hk=>?_⟩
   have:k=w:=by
    by_cases e:k=w
    ·exact e
    ·have:=(List.Nodup.mem_erase_iff nd).mpr ⟨e,hk⟩;rw[he]at this;cases this
   subst this;exact bC (un k hk)
  ·obtain⟨t,ht,top⟩:=ih (fs.erase w) (by rw[List.length_erase_of_mem hw,hl];rfl) he (nd.erase w) (fun k hk=>bd k (List.mem_of_mem_erase hk));have ht':t∈fs:=List.mem_of_mem_erase ht;have tw:t≠w:=((List.Nodup.mem_erase_iff nd).mp ht).1;cases q:abv (wAt ws w) (wAt ws t)with
   |false=>
    refine⟨t,ht',fun k hk=>?_⟩
    by_cases e:k=w
    ·subst e;exact q
    ·exact top k ((List.Nodup.mem_erase_iff nd).mpr ⟨e,hk⟩)
   |true=>
    refine⟨w,hw,fun k hk=>?_⟩
    cases z:abv (wAt ws k) (wAt ws w)with
    |false=>rfl
    |true=>
     exfalso
     by_cases e:k=w
     ·subst e;rw[bC (un k hk)]at z;cases z
     ·have o1:=oT z;have o2:=oT q;have m1:l2 (wAt ws w)<=l2 (wAt ws k):=hmin k hk;have m2:l2 (wAt ws w)<=l2 (wAt ws t):=hmin t ht';have u1:=(un k hk).lt;have u2:=(un t ht').lt;have o3:max (l1 (wAt ws k)) (l1 (wAt ws t))<min (l2 (wAt ws k)) (l2 (wAt ws t)):=by omega
      have kne:k∈fs.erase w:=(List.Nodup.mem_erase_iff nd).mpr ⟨e,hk⟩;by_cases kt:k=t
      ·subst kt;have:=cX (un k hk) (un w hw) (fr k hk w hw e) o1;rw[z,q]at this;cases this
      ·have:=mv (un k hk) (un w hw) (un t ht') (fr k hk w hw e) (fr w hw t ht' (fun y=>tw y.symm)) (fr k hk t ht' kt) o1 o2 o3 z q;rw[top k kne]at this;cases this
end SD
namespace HT
open PySem PyProof.Rows
section
open PySem.SeqAt
open PySem.AutoSeq1 (wpAny_loadPart')
open PySem.MeetsSeq PySem.MeetsSeq2 PySem.MeetsSeq3
theorem ma(l:Addr)(items:Array G0)(n:Nat)(dd:Option Addr)(sl:Array (Option G0))(x:G0)(j:Nat)(hj:j<items.size) :
 Meets (JG.«tuple.index» ⟨[.ref l,x],[]⟩) fun A R s=>s.heap.get? l=some { cls:=.type "tuple",dict:=dd,data:=.seq items n,slots:=sl }/\(∀(i:Nat) (hi:i<items.size),i<=j->EqAt A.in1 s items[i] x (decide (i=j)))/\R (.ok (.ret (.int (j:Int) s.toks))) { s with toks:=s.toks+1 }:=
 .of_wp fun prog w A R s h=>by
  obtain⟨hp,g,d,tk,os⟩:=s;obtain⟨hl,heq,h⟩:=h
  unfold JG.«tuple.index»
  simp only[Std.Legacy.Range.forIn_eq_forIn_range']
  wp_walk using Hx hl,wpAny_forIn_list _ (fun rest b s'=>b=(none,())/\s'=⟨hp,g,d,tk,os⟩/\∃m,m<=j/\rest=List.range' m (items.size-m) 1) _
  case turn=>
   rintro a rest b s' ⟨rfl,rfl,m,hm,hr⟩
   have hs:items.size-m=(items.size-m-1)+1:=by omega
   rw[hs,List.range'_succ]at hr
   injection hr with h1 h2
   subst h1 h2
   have hms:a<items.size:=by omega
   rw[Array.getElem?_eq_getElem hms]
   refine cc (heq a hms hm prog w _ _ ?_)
   by_cases e1:a=j
   ·subst e1
    rw[decide_eq_true rfl]
    wp_walk
    exact⟨_,rfl,h⟩
   ·rw[decide_eq_false e1]
    wp_walk
    exact⟨rfl,rfl,a+1,by omega,by rw[show items.size-a-1=items.size-(a+1) by omega]⟩
  case fin=>
   rintro b s' ⟨rfl,rfl,m,hm,hr⟩
   have hs:items.size-m=(items.size-m-1)+1:=by omega
   rw[hs,List.range'_succ]at hr
   cases hr
  exact⟨rfl,rfl,0,by omega,by simp[Std.Legacy.Range.size]⟩
end
end HT
namespace SD
open PySem PySem.Spec PyProof.Rows L2
section
variable{X:Cx}
def DV(to:TD)(t:TAD):TD:=fun δ M Q=>to δ M fun x M1=>∃ys,x=.tup ys/\t δ M1 fun ds M2=>∃d p,∃j:Nat,ds=[d]/\j<ys.length/\Pd M2 d p/\IZ p=true/\
 (∀(i:Nat) (y:D),i<=j->ys[i]?=some y->∃q,Pd M2 y q/\PyData.canLay0 q=true/\Hu q p=decide (i=j))/\Q (.int (j:Int)) M2
def E4(K:G5):V->List V->Hp->VK->Prop:=fun x vs H Q=>∃a ys M v d p,∃j:Nat,x=.ref a/\vs=[v]/\Abs K H M/\Rep K H (.tup ys) x/\Rep K H d v/\j<ys.length/\Pd M d p/\IZ p=true/\
 (∀(i:Nat) (y:D),i<=j->ys[i]?=some y->∃q,Pd M y q/\PyData.canLay0 q=true/\Hu q p=decide (i=j))/\Q (.int (j:Int)) H
theorem Bo(hu:X.A.units+66<HG):MtM X "tuple.index" (E4 X.K):=by
 intro pins s σ H x vs v us Q I rx rv z0;obtain⟨a,ys,M,v1,d,p,j,ex,ev,hM,hx,hd,hj,pd,hsh,hall,q⟩:=z0;subst ex ev;cases rx;obtain⟨u1,rfl,r1⟩:=rv.one;rw[Rep]at hx;obtain⟨a',xs,ea,hq,rs⟩:=hx;cases ea;obtain⟨its,rvs,⟨o,h1,h2,n,h3⟩,hz⟩:=I.tuple hq;obtain⟨as,q1⟩:=bI I hM pd hd r1;have hlen:its.length=ys.length:=by rw[<-rvs.length,rs.length]
 obtain⟨oc,od,odt,osl⟩:=o;cases h2;cases h3;refine call_meets PySem.F.slot_tuple_index ⟨_,h1,rfl⟩ PySem.F.entry_tuple_index (PySem.F.args_tuple_index_2 _ _) (HT.ma a its.toArray n od osl u1 j (by simpa[hlen]using hj)) ⟨h1,fun i hi hij=>?_,?_⟩
 ·have hi':i<ys.length:=by simpa[hlen]using hi
  obtain⟨pq,g1,g2,g3⟩:=hall i ys[i] hij (G8 hi');obtain⟨x1,e1,rx1⟩:=rs.get (G8 hi');obtain⟨u2,e2,ru2⟩:=rvs.get e1;obtain⟨bs,q2⟩:=bI I hM g1 rx1 ru2
  have e3:its.toArray[i]=u2:=by
   have:=Gz.mp e2
   obtain⟨_,e⟩:=this
   simpa using e
  rw[e3,<-g3];have hm:min pq.depth p.depth<=63+1:=HF (Nat.min_le_right _ _) (SeqAt.depth_of_shaped hsh);exact PySem.SeqAt.eqAt_reads _ _ _ _ _ _ _ _ q2 q1 g2 (J0 hsh) (by show X.A.units+1+_<HG;omega)
 ·exact⟨.int _,H,I.tok _,⟨_,rfl⟩,q⟩
theorem Bb{o e1:Expr}{to:TE}{t:TA}{apos a9:Pos}(hu:X.A.units+66<HG)(ho:PE X o to)(ha:PA X [e1] t)
 (hbase:attributeBase o "index" X.env (eval o X.env)=eval o X.env)
 (hfew:((Ij a9 (GH [e1] X.env)).all (fun x=>!x.1)&&(backToKw a9 (Jm [] X.env)).all (fun x=>x.1.isSome)
  && decide ([e1].length+([]:List Keyword).length+(if([]:List Keyword).isEmpty then 0 else 1)<30))=true)
 (hline:(apos.endLine==a9.line)=true) (hs:GH [e1] X.env=(false,eval e1 X.env)::GH [] X.env) (hplain:(Ij a9 (GH [] X.env)).any (·.1)=false) :
 PE X (.Call (.Attribute o "index" apos) [e1] [] a9) (fun σ H Q=>to σ H fun x H1=>(∃p xs,x=.ref p/\SqT X.K H1 p xs)/\t σ H1 fun vs H2=>E4 X.K x vs H2 Q):=by
 intro pins s σ H Q I h
 refine wpAny_Call_method_late hbase hfew hline rfl (thn (ho pins s σ H _ I h) fun v s1 zz1_0=>?_)
 obtain⟨x,H1,I1,r1,⟨p,xs,ex,hq⟩,q1⟩:=zz1_0
 subst ex
 cases r1
 obtain⟨its,_,⟨ob,g1,g2,_⟩,_⟩:=I1.tuple hq
 obtain⟨o2,g3,g4⟩:=I1.Bn hq
 refine⟨"tuple","tuple.index",PySem.F.plainAttrs_tuple,PySem.F.slot_tuple_index,PySem.F.type_tuple_index,⟨ob,g1,g2⟩,fun a e=>by cases e;exact⟨o2,g3,g4⟩,?_⟩
 have hA:=ha a9 pins s1 σ H1 _ I1 q1
 rw[hs]at hA ⊢
 refine Calls.callWith_builtin (by show(false||(Ij a9 (GH [] X.env)).any (·.1))=false;rw[hplain]<;>rfl) (Calls.evalArgs_plain ?_)
 exact thn hA fun us s2 zz2_0=>by obtain⟨vs,H2,I2,r2,q2⟩:=zz2_0;exact(Bo hu pins s2 σ H2 (.ref p) vs (.ref p) us Q I2 rfl r2 q2)
variable{o e1:Expr}{to:TD}{t:TAD}{apos a9:Pos}
theorem lN(hu:X.A.units+66<HG)(ho:DE X o to)(ha:DA X [e1] t)
 (hbase:attributeBase o "index" X.env (eval o X.env)=eval o X.env:=by rfl)
 (hfew:((Ij a9 (GH [e1] X.env)).all (fun x=>!x.1)&&(backToKw a9 (Jm [] X.env)).all (fun x=>x.1.isSome)
  && decide ([e1].length+([]:List Keyword).length+(if([]:List Keyword).isEmpty then 0 else 1)<30))=true:=by rfl)
 (hline:(apos.endLine==a9.line)=true:=by rfl) (hs:GH [e1] X.env=(false,eval e1 X.env)::GH [] X.env:=by rfl) (hplain:(Ij a9 (GH [] X.env)).any (·.1)=false:=by rfl) :
 DE X (.Call (.Attribute o "index" apos) [e1] [] a9) (DV to t):=
 aZ (Bb hu ho ha hbase hfew hline hs hplain) fun σ H Q ⟨δ,M,R,hsl,hM,q,fin⟩=>by
  refine⟨δ,M,_,hsl,hM,q,fun x M1 v H1 g1 r1 a1 zz3_0=>?_⟩
  obtain⟨ys,ex,q1⟩:=zz3_0
  subst ex
  have r1':=r1
  rw[Rep]at r1
  obtain⟨a,xs,rfl,hq,rs⟩:=r1
  refine⟨⟨a,xs,rfl,hq⟩,δ,M1,_,hsl.mono g1,a1,q1,fun ds M2 us H2 g2 r2 a2 zz4_0=>?_⟩
  obtain⟨d,p,j,ed,hj,pd,hsh,hall,q2⟩:=zz4_0
  subst ed
  obtain⟨u1,rfl,ru1⟩:=cJ r2
  exact⟨a,ys,M2,u1,d,p,j,rfl,rfl,a2,r1'.mono g2,ru1,hj,pd,hsh,hall,fin _ _ _ _ (g1.trans g2) (by rw[Rep]) a2 q2⟩
def EV(te:TD):TTD:=fun δ M Q=>te δ M fun x M1=>∃l xs,x=.ref l/\M1 l=some (.lst xs)/\Q (!xs.isEmpty) M1
theorem Cr{e:Expr}{te:TD}(he:DE X e te)(hw:∀whole,isTrue e X.env whole=(do let v <-whole;standAt e.pos;holding [v] (truthy v)):=by intro _;rfl):DT X e (EV te):=
 lQ (wV he hw) fun σ H Q ⟨δ,M,R,hs,hM,q,fin⟩=>⟨δ,M,_,hs,hM,q,fun x M1 v H1 g1 r1 a1 ⟨l,xs,ex,hl,q1⟩=>by
  subst ex
  rw[Rep]at r1;subst r1
  obtain⟨ys,hy,ry⟩:=a1 _ _ hl
  refine⟨_,.inl ⟨ys,SqL.of hy,rfl⟩,?_⟩
  have e:ys.isEmpty=xs.isEmpty:=by
   have:=ry.length
   cases xs<;>cases ys<;>simp at this ⊢
  rw[e]
  exact fin _ _ _ g1 a1 q1⟩
end
open PySem PySem.W PySem.Spec PySem.Calls PyProof.Rows Builtin Builtin.ObjectAttr Builtin.Getset_descriptor
section
variable{P:GL}{w:Hk}{K:G5}{mg:Str->Option G0}{base:Heap}{N:List Str}{qual:Str}{scope:Ja}{f:Addr}{cd:G0}{A:Hr}{outer:List Env}{s:G6}{H:Hp}{E:XK}
end
def two(elt t1 i1 t2 i2:Expr)(scope:Ja)(pos:Pos):Expr:=.ListComp elt [⟨t1,i1,[],0⟩,⟨t2,i2,[],0⟩] scope pos
theorem ED(elt t1 i1 t2 i2:Expr)(scope:Ja)(pos:Pos)(it acc:G0)(env:Env):compTurn (two elt t1 i1 t2 i2 scope pos) 0 it acc env=(do
 standAt i1.pos
 match <-pyNext it with
 |none=>pure (.done .next)
 |some v=>
  IB t1 it v
  Jw t1 env v
  let x <-eval i2 env
  standAt i2.pos
  let x <-Hb i2 env x
  let _ <-runOwn (.compStart (two elt t1 i1 t2 i2 scope pos) 1 (<-holding [x] (pyIter x)) acc env) env
  again (.compLoop (two elt t1 i1 t2 i2 scope pos) 0 it acc env)):=by rfl
theorem Eg(elt t1 i1 t2 i2:Expr)(scope:Ja)(pos:Pos)(it acc:G0)(env:Env):compTurn (two elt t1 i1 t2 i2 scope pos) 1 it acc env=(do
 standAt i2.pos
 match <-pyNext it with
 |none=>pure (.done .next)
 |some v=>
  IB t2 it v
  Jw t2 env v
  (do let _ <-call (.builtin "list.append") [acc,<-eval elt env])
  again (.compLoop (two elt t1 i1 t2 i2 scope pos) 1 it acc env)):=by rfl
section
variable{prog:GL}{w:Hk}{A:Hr}{R:Result->G6->Prop}{s:G6}{elt t1 i1 t2 i2:Expr}{scope:Ja}{pos:Pos}{it acc:G0}{env:Env}
theorem A4(h0:IQ (GG prog w) A (.compLoop (two elt t1 i1 t2 i2 scope pos) 1 it acc env) R s)
 (h:Gw (GG prog w) A (pyIter it) (fun it' s'=>IQ (GG prog w) A (.compLoop (two elt t1 i1 t2 i2 scope pos) 1 it' acc env) R s') (notedBy (GG prog w) A env fun x s'=>R (.error x) s') s) :
 IQ (GG prog w) A (.compStart (two elt t1 i1 t2 i2 scope pos) 1 it acc env) R s:=by
 refine codeAny_of_tree ?_
 show Gw _ _ ((compStart (two elt t1 i1 t2 i2 scope pos) 1 it acc env).onRaise (fun x=>do noteFrame x env;standAt theWindowsPlace)) _ _ s
 refine wpAny_notedAt ?_
 unfold compStart
 show Gw _ _ (ask >>= _) _ _ s
 refine cc (wpAny_askSetting (wpAny_ite ?_))
 split
 ·first
   |exact cc (G7 (G7 (And.intro rfl h0)))
   |exact G7 (And.intro rfl h0)
 ·refine cc (wpAny_rule ?_)
  show Gw _ _ (standAt i2.pos >>= _) _ _ s
  exact cc (Ik (cc (GB h (fun it' s' h'=>G7 (And.intro rfl h')) fun _ _ x=>x)))
theorem EJ(J:Nat->G6->Prop)
 (step:∀n s,J n s->Gw (GG prog w) A (pyNext it) (fun r s1=>match r with
  |none=>R (.ok .next) s1
  |some v=>Gw (GG prog w) A (IB t2 it v) (fun _ s2=>Gw (GG prog w) A (Jw t2 env v) (fun _ s3=>
   Gw (GG prog w) A (eval elt env) (fun x s5=>Gw (GG prog w) A (call (.builtin "list.append") [acc,x]) (fun _ s6=>∃m,m<n/\J m s6) NoE s5) NoE s3) NoE s2) NoE s1) NoE s)
 (n:Nat) (h:J n s):IQ (GG prog w) A (.compLoop (two elt t1 i1 t2 i2 scope pos) 1 it acc env) R s:=by
 have no:∀{E:G0->G6->Prop} e s',NoE e s'->E e s':=fun _ _ z=>z.elim
 refine codeAny_loop rfl J (fun n s hJ=>?_) n h
 show Gw _ _ (Sem.onRaise (compTurn (two elt t1 i1 t2 i2 scope pos) 1 it acc env) (fun x=>do noteFrame x env;theTreesLotGoes x)) _ _ s
 refine wpAny_noted ?_
 rw[Eg]
 refine cc (Ik (cc (GB (step n s hJ) (fun r s1 h1=>?_) no)))
 cases r with
 |none=>exact G7 h1
 |some v=>
  refine cc (GB h1 (fun _ s2 h2=>cc (GB h2 (fun _ s3 h3=>?_) no)) no)
  exact cc (cc (GB h3 (fun x s5 h5=>cc (GB h5 (fun _ s6 h6=>G7 (G7 ⟨rfl,h6⟩)) no)) no))
theorem DY(J:Nat->G6->Prop)(hfs:∀x,Hb i2 env x=pure x)
 (step:∀n s,J n s->Gw (GG prog w) A (pyNext it) (fun r s1=>match r with
  |none=>R (.ok .next) s1
  |some v=>Gw (GG prog w) A (IB t1 it v) (fun _ s2=>Gw (GG prog w) A (Jw t1 env v) (fun _ s3=>
   Gw (GG prog w) A (eval i2 env) (fun x s4=>Gw (GG prog w) A (pyIter x) (fun it2 s5=>IQ (GG prog w) A (.compStart (two elt t1 i1 t2 i2 scope pos) 1 it2 acc env) (fun r s6=>match r with
    |.ok _=>∃m,m<n/\J m s6
    |.error e=>False) s5) NoE s4) NoE s3) NoE s2) NoE s1) NoE s)
 (n:Nat) (h:J n s):IQ (GG prog w) A (.compLoop (two elt t1 i1 t2 i2 scope pos) 0 it acc env) R s:=by
 have no:∀{E:G0->G6->Prop} e s',NoE e s'->E e s':=fun _ _ z=>z.elim
 refine codeAny_loop rfl J (fun n s hJ=>?_) n h
 show Gw _ _ (Sem.onRaise (compTurn (two elt t1 i1 t2 i2 scope pos) 0 it acc env) (fun x=>do noteFrame x env;theTreesLotGoes x)) _ _ s
 refine wpAny_noted ?_
 rw[ED]
 refine cc (Ik (cc (GB (step n s hJ) (fun r s1 h1=>?_) no)))
 cases r with
 |none=>exact G7 h1
 |some v=>
  refine cc (GB h1 (fun _ s2 h2=>cc (GB h2 (fun _ s3 h3=>cc (GB h3 (fun x s4 h4=>?_) no)) no)) no)
  refine cc (Ik ?_)
  rw[hfs]
  refine cc (G7 ?_)
  refine cc (HP (GB h4 (fun it2 s5 h5=>?_) no))
  refine cc (wpAny_runOwn (codeAny_mono h5 (fun r s6 h6=>?_)))
  cases r with
  |ok f=>exact G7 ⟨rfl,h6⟩
  |error e=>exact h6.elim
end
def Em(js:List Nat)(wi2:TI)(te:TE)(σ:L2.St)(J:It)(H1:Hp)(Q:VK):Prop:=∀D,H1 D=none->∃W:Nat->Nat->Hp->Prop,(∃m,W 0 m (upd H1 D (.lst [])))/\∀i m H,W i m H->
 (J.stop i H/\Q (.ref D) H)\/(J.go i H/\∀y H',J.yld i H y H'->∀o,wi2 (cσ [some y,o] js σ) H' fun J2 H2=>∃U:Nat->Nat->Hp->Prop,(∃n,U 0 n H2)/\∀j n H3,U j n H3->
  (J2.stop j H3/\∃m',m'<m/\W (i+1) m' H3)\/(J2.go j H3/\∀z H4,J2.yld j H3 z H4->te (cσ [some y,some z] js σ) H4 fun v H5=>∃xs,H5 D=some (.lst xs)/\xs.length<GD/\∃n',n'<n/\U (j+1) n' (upd H5 D (.lst (xs++[v])))))
def AI(js:List Nat)(wi wi2:TI)(te:TE):TE:=fun σ H Q=>wi σ H fun J H1=>Em js wi2 te σ J H1 Q
section
variable{X:Cx}{x y:Str}{px py pos:Pos}{js:List Nat}{scope:Ja}{elt i1 i2:Expr}{te:TE}{wi wi2:TI}{pins:List (Addr×Obj)}{σ:L2.St}{H:Hp}{s:G6}{fp:List Addr}{it:Addr}{tn:Nat->Heap->Prop}{J:It}
theorem yy(c:CScope X [x,y] js scope)(hc:X.calm=true)(hi2:∀C s H fp,PI (cxC X [x,y] js scope C s H fp) (.Name y py) i2 wi2)(hfs:∀(env:Env) x,Hb i2 env x=pure x)(he:∀C s H fp,PE (cxC X [x,y] js scope C s H fp) elt te)
 {R:G0->Addr->Result->G6->Prop} {E:G0->G6->Prop} {Q:VK}
 (I:Inv X pins σ H s) (T:Turn X.prog X.w X.K (.Name x px) J fp it tn) (st:tn 0 s.heap) (hf:∀b∈fp,cC X pins H b) (wc:Em js wi2 te σ J H Q)
 (hR:∀D C H' s',Inv X pins σ H' s'->cC X pins H' C->(∃m,s'.heap.Ns C m)->Q (.ref D) H'->R (.ref D) C (.ok .next) s') :
 Gw (GG X.prog X.w) X.A (newList []) (fun acc s₃=>Gw (GG X.prog X.w) X.A (newFunctionEnv scope X.env.globals (eD scope.names X.env) [] X.env.qual none .none (some X.env)) (fun cenv s₄=>
  IQ (GG X.prog X.w) X.A (.compStart (two elt (.Name x px) i1 (.Name y py) i2 scope pos) 0 (.ref it) acc { cenv with scope:=relabel scope X.env }) (R acc cenv.locals) s₄) E s₃) E s:=by
 have hg1:∀C s H fp,PG (cxC X [x,y] js scope C s H fp) (.Name x px) (fo 0):=fun _ _ _ _=>gT c 0 rfl
 have hg2:∀C s H fp,PG (cxC X [x,y] js scope C s H fp) (.Name y py) (fo 1):=fun _ _ _ _=>gT c 1 rfl
 have hfp:∀b∈fp,b<s.heap.objs.size:=fun b hb=>let⟨o,e,_⟩:=T.obj 0 _ st b hb;GC e
 have hD:H s.heap.objs.size=none:=I.hok.fresh (Gq _)
 refine Hg (nV ?_)
 generalize hh:s.heap.push { cls:=.type "list",dict:=none,data:=.seq ([]:List G0).toArray }=h3
 generalize hh1:pushCells (({ s with heap:=h3 }:G6).heap.push { cls:=.type "dict",data:=.dict #[] }) scope.names=h₁
 have k3:∀b o,s.heap.get? b=some o->h3.get? b=some o:=fun b o e=>by rw[<-hh];exact G9 _ e
 have I3:Inv X pins σ (upd H s.heap.objs.size (.lst [])) { s with heap:=h3 }:=by
  refine I.laid (t':=s.toks) k3 (Gq _) ?_
  refine⟨HR _,[],0,.nil,?_⟩
  rw[<-hh]
  exact Gv _ rfl
 have hf3:∀b∈fp,cC X pins (upd H s.heap.objs.size (.lst [])) b:=fun b hb=>⟨by rw[aS (Hh (hfp b hb))];exact(hf b hb).1,(hf b hb).2⟩
 have hsz:h3.objs.size=s.heap.objs.size+1:=by rw[<-hh,I0]
 have hfp3:∀b∈fp,b<h3.objs.size:=fun b hb=>by rw[hsz];exact Nat.lt_succ_of_lt (hfp b hb)
 have k4:∀b o,h3.get? b=some o->h₁.get? b=some o:=fun b o e=>by rw[<-hh1];exact pushCells_keeps _ _ b o (G9 _ e)
 have I4:=kZ c I3 hf3 hfp3 (h':=h₁) hh1.symm k4
 obtain⟨W,⟨m0,w0⟩,turn⟩:=wc _ hD
 have st4:tn 0 h₁:=T.keep 0 _ _ st fun b hb o e=>k4 b o (k3 b o e)
 generalize hX:cxC X [x,y] js scope h3.objs.size { s with heap:=h3 } (upd H s.heap.objs.size (.lst [])) fp=X' at I4
 have fok:∀{pins':List (Addr×Obj)} {H':Hp} {σ':L2.St} {s':G6},Inv X' [] σ' H' s'->(∀b∈fp,H' b=none)->∀b∈fp,cC X' [] H' b:=fun{pins' H' σ' s'} J' hn b hb=>by
  subst hX
  obtain⟨a1,a2⟩:=J'.ok.exf b hb
  exact⟨hn b hb,a1,J'.ok.exfs b hb,.inl hb,a2,fun p hp=>absurd (show p∈([]:List (Addr×Obj))from hp) (by simp)⟩
 have loop:IQ (GG X.prog X.w) X.A (.compLoop (two elt (.Name x px) i1 (.Name y py) i2 scope pos) 0 (.ref it) (.ref s.heap.objs.size) (jD scope h3.objs.size X.env)) (R (.ref s.heap.objs.size) h3.objs.size)
  { s with heap:=h₁ }:=by
  refine DY (fun n s'=>∃i os H',os.length=2/\Inv X' [] (cσ os js σ) H' s'/\tn i s'.heap/\(∀b∈fp,H' b=none)/\W i n H') (fun x=>hfs _ x) ?_ m0 ⟨0,_,_,by simp,I4,st4,fun b hb=>(hf3 b hb).1,w0⟩
  rintro n s5 ⟨i,os,H5,hl5,I5,st5,fr5,w5⟩
  rcases turn i n H5 w5 with⟨stop,q⟩|⟨go,step⟩
  ·subst hX
   refine GB (T.done (cxC X [x,y] js scope h3.objs.size { s with heap:=h3 } (upd H s.heap.objs.size (.lst [])) fp) rfl rfl rfl hc i [] s5 _ H5 NoE I5 (fok (pins':=[]) I5 fr5) st5 stop) (fun r s6 z6=>?_) fun _ _ z=>z
   obtain⟨hr,I6⟩:=z6
   subst hr
   refine hR _ _ H5 s6 (I3.vF I6.os I6.base I6.hok I6.bare fun b hb=>⟨(hf3 b hb).2.2.2.1,(hf3 b hb).2.1,(hf3 b hb).2.2.2.2.1,(hf3 b hb).2.2.2.2.2⟩) (I3.oY (Gq _) I6.free) (let⟨m,hm,_⟩:=I6.loc;⟨m,hm⟩) q
  ·subst hX
   refine GB (T.item (cxC X [x,y] js scope h3.objs.size { s with heap:=h3 } (upd H s.heap.objs.size (.lst [])) fp) rfl rfl rfl hc i [] s5 _ H5 NoE I5 (fok (pins':=[]) I5 fr5) st5 go) (fun r s6 z6=>?_) fun _ _ z=>z
   obtain⟨u,hr,h6⟩:=z6
   subst hr
   refine GB h6 (fun _ s7 z7=>?_) fun _ _ z=>z
   obtain⟨yv,H7,I7,r7,y7,st7,fr7⟩:=z7
   have I7':=I7.pinned (fok (pins':=[]) I7 fr7) (T.obj _ _ st7)
   obtain⟨o0,o1,rfl⟩:∃o0 o1,os=[o0,o1]:=by
    exact B9 hl5
   refine GB (hg1 _ _ _ _ _ s7 _ H7 yv u (fun σ' H'=>σ'=cσ [some yv,o1] js σ/\H'=H7) I7' r7 ⟨rfl,rfl⟩) (fun _ s8 zz1_0=>?_) fun _ _ z=>z
   obtain⟨σ8,H8,I8,e8,e8'⟩:=zz1_0
   subst e8 e8'
   have back:∀{m':Nat} {o2:Option V} {H10:Hp} {s10:G6},Inv (cxC X [x,y] js scope h3.objs.size { s with heap:=h3 } (upd H s.heap.objs.size (.lst [])) fp) ([]++fQ fp s7.heap) (cσ [some yv,o2] js σ) H10 s10->m'<n->W (i+1) m' H10->
    ∃m,m<n/\∃i os H',os.length=2/\Inv (cxC X [x,y] js scope h3.objs.size { s with heap:=h3 } (upd H s.heap.objs.size (.lst [])) fp) [] (cσ os js σ) H' s10/\tn i s10.heap/\(∀b∈fp,H' b=none)/\W i m H':=fun{m' o2 H10 s10} I10 hm' w10=>by
    refine⟨m',hm',i+1,_,H10,rfl,I10.dN,T.keep _ _ _ st7 fun b hb o e=>(I10.pin (b,o) (GI _ (GI _ (bD hb e)))).1,fun b hb=>?_,w10⟩
    obtain⟨o',e,d⟩:=T.obj _ _ st7 b hb
    exact(I10.pin (b,o') (GI _ (GI _ (bD hb e)))).2.1
   refine GB (hi2 _ _ _ _ _ s8 _ _ _ I8 (step yv H8 y7 o1)) (fun v2 s9 h9=>GB h9 (fun itv s10 z10=>?_) fun _ _ z=>z) fun _ _ z=>z
   obtain⟨it2,fp2,tn2,J2,H10,e10,I10,T2,st10,f10,U,⟨n0,u0⟩,turn2⟩:=z10
   subst e10
   have loop2:IQ (GG X.prog X.w) X.A (.compLoop (two elt (.Name x px) i1 (.Name y py) i2 scope pos) 1 (.ref it2) (.ref s.heap.objs.size) (jD scope h3.objs.size X.env)) (fun r s6=>match r with
    |.ok _=>∃m,m<n/\∃i os H',os.length=2/\Inv (cxC X [x,y] js scope h3.objs.size { s with heap:=h3 } (upd H s.heap.objs.size (.lst [])) fp) [] (cσ os js σ) H' s6/\tn i s6.heap/\(∀b∈fp,H' b=none)/\W i m H'
    |.error e=>False) s10:=by
    refine EJ (fun n2 s'=>∃j o2 H',Inv (cxC X [x,y] js scope h3.objs.size { s with heap:=h3 } (upd H s.heap.objs.size (.lst [])) fp) ([]++fQ fp s7.heap) (cσ [some yv,o2] js σ) H' s'/\tn2 j s'.heap/\(∀b∈fp2,H' b=none)/\U j n2 H') ?_ n0 ⟨0,o1,H10,I10,st10,fun b hb=>(f10 b hb).1,u0⟩
    rintro n2 s11 ⟨j,o2,H11,I11,st11,fr11,u11⟩
    rcases turn2 j n2 H11 u11 with⟨stop2,m',hm',w'⟩|⟨go2,step2⟩
    ·refine GB (T2.done (cxC X [x,y] js scope h3.objs.size { s with heap:=h3 } (upd H s.heap.objs.size (.lst [])) fp) rfl rfl rfl hc j _ s11 _ H11 NoE I11 (fun b hb=>⟨fr11 b hb,(f10 b hb).2⟩) st11 stop2) (fun r s12 zz2_0=>?_) fun _ _ z=>z
     obtain⟨hr,I12⟩:=zz2_0
     subst hr
     exact back I12 hm' w'
    ·refine GB (T2.item (cxC X [x,y] js scope h3.objs.size { s with heap:=h3 } (upd H s.heap.objs.size (.lst [])) fp) rfl rfl rfl hc j _ s11 _ H11 NoE I11 (fun b hb=>⟨fr11 b hb,(f10 b hb).2⟩) st11 go2) (fun r s12 zz3_0=>?_) fun _ _ z=>z
     obtain⟨u2,hr,h12⟩:=zz3_0
     subst hr
     refine GB h12 (fun _ s13 zz4_0=>?_) fun _ _ z=>z
     obtain⟨zv,H13,I13,r13,y13,st13,fr13⟩:=zz4_0
     have I13':=I13.pinned (fun b hb=>⟨fr13 b hb,(f10 b hb).2⟩) (T2.obj _ _ st13)
     refine GB (hg2 _ _ _ _ _ s13 _ H13 zv u2 (fun σ' H'=>σ'=cσ [some yv,some zv] js σ/\H'=H13) I13' r13 ⟨rfl,rfl⟩) (fun _ s14 zz5_0=>?_) fun _ _ z=>z
     obtain⟨σ14,H14,I14,e14,e14'⟩:=zz5_0
     subst e14 e14'
     refine GB (he _ _ _ _ _ s14 _ _ _ I14 (step2 zv H14 y13)) (fun v s15 zz6_0=>?_) fun _ _ z=>z
     obtain⟨vv,H15,I15,r15,ys,hd15,hl15,q15⟩:=zz6_0
     refine GB (jb (X:=(cxC X [x,y] js scope h3.objs.size { s with heap:=h3 } (upd H s.heap.objs.size (.lst [])) fp)) _ s15 _ H15 (.ref s.heap.objs.size) [vv] (.ref s.heap.objs.size) [v] (fun _ H'=>∃n',n'<n2/\U (j+1) n' H') I15 rfl (.cons r15 .nil) ⟨_,ys,vv,rfl,rfl,hd15,hl15,q15⟩) (fun _ s16 zz7_0=>?_) fun _ _ z=>z
     obtain⟨_,H16,I16,_,n',hn',w16⟩:=zz7_0
     refine⟨n',hn',j+1,_,H16,I16.dN,T2.keep _ _ _ st13 fun b hb o e=>(I16.pin (b,o) (GI _ (GI _ (bD hb e)))).1,fun b hb=>?_,w16⟩
     obtain⟨o',e,d⟩:=T2.obj _ _ st13 b hb
     exact(I16.pin (b,o') (GI _ (GI _ (bD hb e)))).2.1
   exact A4 loop2 (T2.self X.A 0 _ _ _ st10 loop2)
 exact codeAny_compStart_list loop (T.self X.A 0 _ _ _ st4 loop)
theorem Dk(c:CScope X [x,y] js scope)(hc:X.calm=true)(hi:PI X (.Name x px) i1 wi)(hi2:∀C s H fp,PI (cxC X [x,y] js scope C s H fp) (.Name y py) i2 wi2)(he:∀C s H fp,PE (cxC X [x,y] js scope C s H fp) elt te) (hs:∀x,Hb i1 X.env x=pure x:=by intro _;rfl) (hfs:∀(env:Env) x,Hb i2 env x=pure x:=by intro _ _;rfl) : PE X (two elt (.Name x px) i1 (.Name y py) i2 scope pos) (AI js wi wi2 te):=by intro pins s σ H Q I h;unfold two;rw[eval_ListComp];refine wpAny_comprehension_free (use:=none) rfl hs (c.yV I.ok) c.kind c.names (thn (hi pins s σ H _ I h) fun v s1 h1=>thn h1 fun itv s2 zz8_0=>?_);obtain⟨it,fp,tn,J,H2,e,I2,T,st,f2,w⟩:=zz8_0;subst e;refine yy (R:=fun acc C=>compPost (GG X.prog X.w) X.A X.xe none (EP X pins σ Q) acc C) c hc hi2 hfs he I2 T st f2 w fun D C H' s' I' fC zz9_0 q=>?_;obtain⟨m,hm⟩:=zz9_0;exact⟨m,hm,fun h' hsb=>⟨.ref D,H',I'.turned (t':=s'.toks) (fun b o ne e=>hsb.extBut b o ne e) fC.1 fC.2.1 fC.2.2.2.1 fC.2.2.2.2.1 fC.2.2.2.2.2,rfl,q⟩⟩
end
def DZ(I:ItD)(js:List Nat)(wd2:TID)(te:TD)(δ:DS)(M1:MH)(Q:DK):Prop:=I.n<=1000/\∀p,M1 p=none->∃W:Nat->List D->MH->Prop,W 0 [] (ax M1 p (.lst []))/\(∀i ys M,i<=I.n->W i ys M->I.C M)/\
 (∀i ys d M,i<I.n->I.item i=some d->W i ys M->wd2 (cδ [some d,none] js δ) M fun I2 M2=>I2.n<=1000/\∃U:Nat->List D->MH->Prop,U 0 ys M2/\(∀j zs M,j<=I2.n->U j zs M->I2.C M)/\
  (∀j zs e M,j<I2.n->I2.item j=some e->U j zs M->te (cδ [some d,some e] js δ) M fun v M'=>∃M3,Sub M3 M'/\M3 p=some (.lst zs)/\U (j+1) (zs++[v]) (ax M3 p (.lst (zs++[v]))))/\∀zs M,U I2.n zs M->W (i+1) zs M)/\∀ys M,W I.n ys M->Q (.ref p) M
def Ay(wd:TID)(js:List Nat)(wd2:TID)(te:TD):TD:=fun δ M Q=>wd δ M fun I M1=>DZ I js wd2 te δ M1 Q
theorem qx{K:G5}{H:Hp}{d:D}{v:V}(o:Option V)(r:Rep K H d v):Slots K H [some d,none] [some v,o]:=by
 refine⟨rfl,fun i e h=>?_⟩
 match i,h with
 |0,h=>cases h;exact⟨v,rfl,r⟩
 |1,h=>cases h
theorem qr{K:G5}{H:Hp}{d e:D}{v u:V}(r:Rep K H d v)(q:Rep K H e u):Slots K H [some d,some e] [some v,some u]:=i9 (.cons r (.cons q .nil))
theorem xY{K:G5}{wd wd2:TID}{js:List Nat}{te:TD}{σ:L2.St}{H:Hp}{Q:VK}(h:lift K (Ay wd js wd2 te) σ H Q):AI js (ku K wd) (ku K wd2) (lift K te) σ H Q:=by
 obtain⟨δ,M,R,hs,hM,q,fin⟩:=h;refine⟨δ,M,_,hs,hM,q,fun I M1 H1 J g1 a1 kc io p hp=>?_⟩;obtain⟨hn,kc⟩:=kc;obtain⟨W,w0,hC,turn,done⟩:=kc p (a1.fresh hp);refine⟨fun i m H2=>m=I.n-i/\i<=I.n/\Grow K H1 H2/\∃ys M,ys.length<=i*1000/\Abs K H2 M/\W i ys M,⟨I.n,by simp,HR _,.new hp,[],_,HR _,a1.l9 hp .nil,w0⟩,?_⟩;rintro i m H2 ⟨rfl,hi,g2,ys,M2,hl,a2,w2⟩;by_cases hin:i<I.n
 ·refine .inr ⟨io.go i H2 M2 hin g2 a2 (hC _ _ _ hi w2),fun v H3 hy o=>?_⟩;obtain⟨g3,a3,d,ed,rd⟩:=io.yld i H2 M2 v H3 hin g2 a2 (hC _ _ _ hi w2) hy;have q3:=turn i ys d M2 hin ed w2;refine⟨cδ [some d,none] js δ,M2,_,jI (js:=js) (hs.mono ((g1.trans g2).trans g3)) (qx o rd),a3,q3,fun I2 M4 H4 J2 g4 a4 kc2 io2=>?_⟩;obtain⟨hn2,U,u0,hC2,turn2,done2⟩:=kc2;refine⟨fun j n H5=>n=I2.n-j/\j<=I2.n/\Grow K H4 H5/\∃zs M,zs.length<=i*1000+j/\Abs K H5 M/\U j zs M,⟨I2.n,by simp,HR _,.refl,ys,M4,by omega,a4,u0⟩,?_⟩;rintro j n H5 ⟨rfl,hj,g5,zs,M5,hl5,a5,w5⟩;by_cases hjn:j<I2.n
  ·refine .inr ⟨io2.go j H5 M5 hjn g5 a5 (hC2 _ _ _ hj w5),fun u H6 hy6=>?_⟩;obtain⟨g6,a6,e,ee,re⟩:=io2.yld j H5 M5 u H6 hjn g5 a5 (hC2 _ _ _ hj w5) hy6;have s6:=jI (js:=js) (hs.mono (((((g1.trans g2).trans g3).trans g4).trans g5).trans g6)) (qr (rd.mono ((g4.trans g5).trans g6)) re);refine⟨cδ [some d,some e] js δ,M5,_,s6,a6,turn2 j zs e M5 hjn ee w5,fun vv M' uu H7 g7 r7 a7 zz10_0=>?_⟩;obtain⟨M8,s8,e8,w8⟩:=zz10_0;obtain⟨ts,hx,rs⟩:=(a7.sub s8) _ _ e8;refine⟨ts,hx,?_,I2.n-(j+1),by omega,rfl,hjn,((g5.trans g6).trans g7).trans (.lst hx),zs++[vv],_,by simp;omega,(a7.sub s8).vm hx (rs.append (.cons r7 .nil)),w8⟩;rw[<-rs.length];have sz:1000000<=GD:=nbL rfl;omega
  ·obtain rfl:j=I2.n:=by omega
   exact .inl ⟨io2.stop H5 M5 g5 a5 (hC2 _ _ _ hj w5),I.n-(i+1),by omega,rfl,hin,((g2.trans g3).trans g4).trans g5,zs,M5,by omega,a5,done2 _ _ w5⟩
 ·obtain rfl:i=I.n:=by omega
  exact .inl ⟨io.stop H2 M2 g2 a2 (hC _ _ _ hi w2),fin _ _ _ _ (g1.trans g2) (by rw[Rep]) a2 (done ys M2 w2)⟩
section
variable{X:Cx}{x y:Str}{px py pos:Pos}{js:List Nat}{scope:Ja}{elt i1 i2:Expr}{te:TD}{wd wd2:TID}
theorem wW(c:CScope X [x,y] js scope)(hc:X.calm=true)(hi:DI X (.Name x px) i1 wd)(hi2:∀C s H fp,DI (cxC X [x,y] js scope C s H fp) (.Name y py) i2 wd2)(he:∀C s H fp,DE (cxC X [x,y] js scope C s H fp) elt te) (hs:∀x,Hb i1 X.env x=pure x:=by intro _;rfl) (hfs:∀(env:Env) x,Hb i2 env x=pure x:=by intro _ _;rfl) : DE X (.ListComp elt [⟨.Name x px,i1,[],0⟩,⟨.Name y py,i2,[],0⟩] scope pos) (Ay wd js wd2 te):=aZ (Dk (te:=lift X.K te) (wi2:=ku X.K wd2) c hc hi hi2 he hs hfs) fun _ _ _ h=>xY h
end
abbrev SpK:=Int×Int×Int×Int
section
variable{P:GL}{w:Hk}
def rQ(P:GL)(w:Hk)(h:Heap)(n d:Int)(a:Addr):Prop:=IsTupleKey (intKind P w) h [n,d] a
def fu(P:GL)(w:Hk)(h:Heap)(k:SpK)(a:Addr):Prop:=∃o b c m,h.get? a=some o/\o.cls=.type "tuple"/\o.data=.seq #[.ref b,.ref c] m/\rQ P w h k.1 k.2.1 b/\rQ P w h k.2.2.1 k.2.2.2 c
theorem fu.inj{h:Heap}{a:Addr}{x y:SpK}(p:fu P w h x a)(q:fu P w h y a):x=y:=by
 obtain⟨o,b,c,m,h1,h2,h3,h4,h5⟩:=p;obtain⟨o',b',c',m',g1,g2,g3,g4,g5⟩:=q;rw[h1]at g1;cases g1;rw[h3]at g3;injection g3 with e _;have e1:b=b'/\c=c':=by simpa using e
 obtain⟨rfl,rfl⟩:=e1;have i1:=IsTupleKey.inj h4 g4;have i2:=IsTupleKey.inj h5 g5;obtain⟨x1,x2,x3,x4⟩:=x;obtain⟨y1,y2,y3,y4⟩:=y;simp at i1 i2;obtain⟨rfl,rfl⟩:=i1;obtain⟨rfl,rfl⟩:=i2;rfl
theorem fu.keeps{h h':Heap}{k:SpK}{a d:Addr}{o:Obj}{es:Array HM}{ep:Nat}(p:fu P w h k a)(hd:h.get? d=some o)(he:o.data=.dict es ep)(sb:IJ d h h'):fu P w h' k a:=by
 obtain⟨oa,b,c,m,h1,h2,h3,h4,h5⟩:=p;have ne:a≠d:=fun z=>by rw[z,hd]at h1;cases h1;rw[he]at h3;cases h3
 exact⟨oa,b,c,m,(sb.2 a ne).trans h1,h2,h3,IsTupleKey.keeps h4 hd he sb,IsTupleKey.keeps h5 hd he sb⟩
def yk(P:GL)(w:Hk)(k:SpK):Int:=reduceHash (Builtin.Tuple.tupleHashOf [tupleKeyHash (intKind P w) [k.1,k.2.1],tupleKeyHash (intKind P w) [k.2.2.1,k.2.2.2]])
theorem fu.hash{A:Hr}{E:G0->G6->Prop}{s:G6}{k:SpK}{a:Addr}{Q:Int->G6->Prop}(hu:A.units+4<HG)(p:fu P w s.heap k a)(q:Q (yk P w k) { s with toks:=s.toks+7 }):Gw (GG P w) A (pyHash (.ref a)) Q E s:=by
 obtain⟨o,b,c,m,h1,h2,h3,h4,h5⟩:=p;obtain⟨hp,g,d,tk,os⟩:=s;show Gw _ _ (pyHashByItsType (.ref a)) _ _ _;refine PySem.W.pyHash_slot (T:="tuple") ⟨o,h1,h2⟩ F.slot_tuple_hash F.entry_tuple_hash (F.args_tuple_hash_1 _) rfl (.inr (by omega)) ?_;unfold JG.«tuple.__hash__»;simp only[<-Array.forIn_toList]
 iterate 4 wp_step
 refine G7 ?_;refine cc (wpAny_tupleItemsOf h1 h3 ?_);refine cc ?_;simp only[List.forIn_cons,List.forIn_nil,pure_bind,bind_assoc];refine cc (wpAny_pyHash_tuple (knd:=intKind P w) (by show A.units+1<HG;omega) h4 ?_);refine cc (wpAny_pyHash_tuple (knd:=intKind P w) (by show A.units+1<HG;omega) h5 ?_);refine G7 ?_;unfold retInt
 wp_walk
 exact⟨_,_,rfl,q⟩
theorem iC{n:Int}{v:G0}(h:(intKind P w).is n v=true):∃t,v=.int n t:=by
 have h:Value.isInt n v=true:=h;cases v with
 |int i t=>
  have:(i==n)=true:=h
  exact⟨t,by rw[eq_of_beq this]⟩
 |_=>cases h
def z5(n d:Int):Jx:=.tuple [.int n,.int d]
def oB(k:SpK):Jx:=.tuple [z5 k.1 k.2.1,z5 k.2.2.1 k.2.2.2]
theorem rQ.reads{h:Heap}{n d:Int}{a:Addr}(p:rQ P w h n d a):∃as,Reads h (.ref a) (z5 n d) as:=by
 obtain⟨o,items,m,h1,h2,h3,h4⟩:=p;generalize hl:items.toList=l at h4;cases h4 with
 |cons hx r=>
  cases r with
  |cons hy r=>
   cases r
   obtain⟨t1,rfl⟩:=iC hx
   obtain⟨t2,rfl⟩:=iC hy
   exact⟨_,.tuple h1 h2 h3 (by rw[hl];exact .cons (.int _ _) (.cons (.int _ _) .nil))⟩
theorem fu.reads{h:Heap}{k:SpK}{a:Addr}(p:fu P w h k a):∃as,Reads h (.ref a) (oB k) as:=by obtain⟨o,b,c,m,h1,h2,h3,h4,h5⟩:=p;obtain⟨as,r1⟩:=h4.reads;obtain⟨bs,r2⟩:=h5.reads;exact⟨_,.tuple h1 h2 h3 (.cons r1 (.cons r2 .nil))⟩
theorem yx(x y:SpK):(oB x).eqv (oB y)=decide (x=y):=by obtain⟨x1,x2,x3,x4⟩:=x;obtain⟨y1,y2,y3,y4⟩:=y;simp only[oB,z5,Hu,HX,Bool.and_true];rw[ID];simp[and_assoc]
theorem fu.eq{A:Hr}{E:G0->G6->Prop}{s:G6}{x y:SpK}{a b:Addr}{Q:Bool->G6->Prop}(hu:A.units+4<HG)(p:fu P w s.heap x a)(p':fu P w s.heap y b)(q:Q (decide (x=y)) s):Gw (GG P w) A (eqBool (.ref a) (.ref b)) Q E s:=by obtain⟨as,r1⟩:=p.reads;obtain⟨bs,r2⟩:=p'.reads;have hd:min (oB x).depth (oB y).depth<=3:=HF (Nat.min_le_left _ _) (nbL rfl);have:=SeqAt.eqAt_reads (oB x) (oB y) A s (.ref a) (.ref b) as bs r1 r2 rfl rfl (by omega);rw[yx]at this;exact this P w E Q q
theorem rQ.quiet{A:Hr}{E:G0->G6->Prop}{s:G6}{n d:Int}{a:Addr}{Q:Bool->G6->Prop}(i:Nat)(p:rQ P w s.heap n d a)(q:Q true s):Gw (GG P w) A (eqIsQuiet (i+1) (.ref a)) Q E s:=by
 obtain⟨o,items,m,h1,h2,h3,h4⟩:=p;rw[eqIsQuiet.eq_2];refine cc (wpAny_specialOf ⟨o,h1,h2⟩ F.slot_tuple_eq.lookup ?_);refine cc (wpAny_isInstance ⟨o,h1,h2⟩ isSubtype_tuple_tuple ?_);simp only[Bool.not_true,Ia,if_false];refine cc (Iw h1 h3 ?_);simp only[Option.getD_some,<-Array.forIn_toList];generalize hl:items.toList=l at h4;cases h4 with
 |cons hx r=>
  cases r with
  |cons hy r=>
   cases r
   obtain⟨t1,rfl⟩:=iC hx
   obtain⟨t2,rfl⟩:=iC hy
   refine cc ?_
   simp only[List.forIn_cons,List.forIn_nil,pure_bind,bind_assoc,eqIsQuiet_byValue i (show carriedByValue (.int n t1)=true from rfl),eqIsQuiet_byValue i (show carriedByValue (.int d t2)=true from rfl),Bool.not_true,Ia,if_false]
   refine G7 ?_
   exact G7 q
theorem fu.quiet{A:Hr}{E:G0->G6->Prop}{s:G6}{k:SpK}{a:Addr}{Q:Bool->G6->Prop}(p:fu P w s.heap k a)(q:Q true s):Gw (GG P w) A (eqIsQuiet 8 (.ref a)) Q E s:=by obtain⟨o,b,c,m,h1,h2,h3,h4,h5⟩:=p;rw[eqIsQuiet.eq_2];refine cc (wpAny_specialOf ⟨o,h1,h2⟩ F.slot_tuple_eq.lookup ?_);refine cc (wpAny_isInstance ⟨o,h1,h2⟩ isSubtype_tuple_tuple ?_);simp only[Bool.not_true,Ia,if_false];refine cc (Iw h1 h3 ?_);simp only[Option.getD_some,<-Array.forIn_toList];refine cc ?_;simp only[List.forIn_cons,List.forIn_nil,pure_bind,bind_assoc];refine cc (h4.quiet 6 ?_);simp only[Bool.not_true,Ia,if_false,pure_bind];refine cc (h5.quiet 6 ?_);simp only[Bool.not_true,Ia,if_false,pure_bind];refine G7 ?_;exact G7 q
def dS(P:GL)(w:Hk):HeapKind P w SpK where
 is:=fu P w
 hash:=yk P w
 draws:=fun _=>7
 room:=fun A=>A.units+4<HG
 inj:=fun p q=>p.inj q
 keeps:=fun p hd he sb=>p.keeps hd he sb
 pyHash:=fun hu p q=>p.hash hu q
 eqBool:=fun hu p p' q=>p.eq hu p' q
 quiet:=fun p q=>p.quiet q
end
section
variable{X:Cx}{pins:List (Addr×Obj)}{σ:L2.St}{H:Hp}{s:G6}{a b:Addr}{k:SpK}
def cV(K:G5)(H:Hp)(b:Addr)(k:SpK):Prop:=∃f g,SqT K H b [.ref f,.ref g]/\SqT K H f [.int k.1,.int k.2.1]/\SqT K H g [.int k.2.2.1,.int k.2.2.2]
theorem AR{n d:Int}{f:Addr}(I:L2.Inv X pins σ H s)(h:SqT X.K H f [.int n,.int d]):rQ X.prog X.w s.heap n d f:=by
 obtain⟨its,r,ht,_⟩:=I.tuple h;cases r with
 |cons a1 r=>cases r with
  |cons a2 r=>
   cases r
   obtain⟨t1,rfl⟩:=a1
   obtain⟨t2,rfl⟩:=a2
   obtain⟨o,h1,h2,m,h3⟩:=ht
   exact⟨o,_,m,h1,h2,h3,.cons (by show((n==n)=true);simp) (.cons (by show((d==d)=true);simp) .nil)⟩
theorem oU(I:L2.Inv X pins σ H s)(h:cV X.K H b k):fu X.prog X.w s.heap k b:=by
 obtain⟨f,g,h1,h2,h3⟩:=h;obtain⟨its,r,ht,_⟩:=I.tuple h1;cases r with
 |cons a1 r=>cases r with
  |cons a2 r=>
   cases r
   cases a1
   cases a2
   obtain⟨o,q1,q2,m,q3⟩:=ht
   exact⟨o,f,g,m,q1,q2,q3,AR I h2,AR I h3⟩
abbrev SpE:=SpK×Addr×V
def bP(P:GL)(w:Hk)(a:Addr)(xs:List SpE):Heap->Prop:=fun h=>(a==Iq)=false/\xs.length<=GD/\(xs.map (·.1)).Nodup/\∃ys:List (SpK×Addr×G0),
 JF (fun(p:SpE) (q:SpK×Addr×G0)=>p.1=q.1/\p.2.1=q.2.1/\RelV p.2.2 q.2.2) xs ys/\∃o es ep,h.get? a=some o/\o.ExactDict/\o.data=.dict es ep/\es.toList=ys.map (entryOfKey (dS P w))
def fg(xs:List SpE)(k:SpK)(b:Addr)(v:V):List SpE:=if(xs.any fun x=>decide (x.1=k))=true then xs.map (fun x=>if x.1=k then(x.1,x.2.1,v)else x)else xs++[(k,b,v)]
abbrev PrS:=fun(p:SpE) (q:SpK×Addr×G0)=>p.1=q.1/\p.2.1=q.2.1/\RelV p.2.2 q.2.2
theorem iK{xs:List SpE}{ys:List (SpK×Addr×G0)}(r:JF PrS xs ys):ys.map (·.1)=xs.map (·.1):=by
 induction r with
 |nil=>rfl
 |cons h t ih=>rw[Gs,Gs,ih,h.1]
theorem yT{xs:List SpE}{ys:List (SpK×Addr×G0)}(r:JF PrS xs ys)(k:SpK):(xs.any fun x=>decide (x.1=k))=(atKey ys k).isSome:=by
 induction r with
 |nil=>rfl
 |@cons p q ps qs h t ih=>
  rw[J1]
  by_cases e:p.1=k
  ·have e':q.1=k:=h.1.symm.trans e;simp[atKey,Ha,e,e']
  ·have e':¬q.1=k:=fun z=>e (h.1.trans z);rw[decide_eq_false e,Bool.false_or,ih];simp[atKey,Ha,e']
theorem gc{xs:List SpE}{ys:List (SpK×Addr×G0)}(r:JF PrS xs ys)(k:SpK)(b:Addr){v:V}{u:G0}(rv:RelV v u):JF PrS (fg xs k b v) (storedH ys k b u):=by
 unfold fg storedH;rw[yT r k];by_cases e:(atKey ys k).isSome=true
 ·rw[if_pos e,if_pos e];clear e
  induction r with
  |nil=>exact .nil
  |@cons p q ps qs h t ih=>
   rw[Gs,Gs]
   refine .cons ?_ ih
   unfold putAt
   by_cases e:p.1=k
   ·rw[if_pos e,if_pos (h.1.symm.trans e)];exact⟨h.1,h.2.1,rv⟩
   ·rw[if_neg e,if_neg (fun z=>e (h.1.trans z))];exact h
 ·rw[if_neg e,if_neg e];exact Paired.snoc r ⟨rfl,rfl,rv⟩
theorem jS{xs:List SpE}{ys:List (SpK×Addr×G0)}(r:JF PrS xs ys):xs.length=ys.length:=by
 induction r with
 |nil=>rfl
 |cons h t ih=>rw[Hv,Hv,ih]
theorem zj{xs:List SpE}{ys:List (SpK×Addr×G0)}(r:JF PrS xs ys){q:SpK×Addr×G0}(h:q∈ys):∃p∈xs,p.1=q.1/\p.2.1=q.2.1:=by
 induction r with
 |nil=>cases h
 |cons h' t ih=>
  rcases Hf.mp h with z|z
  ·subst z;exact⟨_,by simp,h'.1,h'.2.1⟩
  ·obtain⟨p,hp,e⟩:=ih z;exact⟨p,by simp[hp],e⟩
theorem lD(xs:List SpE)(k:SpK)(b:Addr)(v:V):(fg xs k b v).length<=xs.length+1:=by
 unfold fg;split
 ·rw[Gx];omega
 ·simp
theorem nB{xs:List SpE}(I:L2.Inv X pins σ H s)(e:H a=some (.ext (bP X.prog X.w a xs)))(hk:∀x∈xs,cV X.K H x.2.1 x.1):(a==Iq)=false/\xs.length<=GD/\∃ys,JF PrS xs ys/\s.heap.DictOfH (dS X.prog X.w) a ys:=by obtain⟨⟨h1,h2,h3,ys,r,o,es,ep,q1,q2,q3,q4⟩,_⟩:=I.hok a _ e;refine⟨h1,h2,ys,r,o,es,ep,q1,q2,q3,q4,fun x hx=>?_,by rw[iK r];exact h3⟩;obtain⟨p,hp,e1,e2⟩:=zj r hx;rw[<-e1,<-e2];exact oU I (hk p hp)
theorem jO{P:GL}{w:Hk}{xs:List SpE}(h1 h2:Heap)(h:bP P w a xs h1)(k:∀o,h1.get? a=some o->h2.get? a=some o):bP P w a xs h2:=by obtain⟨p1,p2,p3,ys,r,o,es,ep,q1,q⟩:=h;exact⟨p1,p2,p3,ys,r,o,es,ep,k o q1,q⟩
theorem zK{A:Hr}{E:G0->G6->Prop}{Q:Unit->G6->Prop}{xs:List SpE}{v:V}{u:G0}(hu:A.units+8<HG)(I:L2.Inv X pins σ H s)(e:H a=some (.ext (bP X.prog X.w a xs)))(hk:∀x∈xs,cV X.K H x.2.1 x.1)(hb:cV X.K H b k)(rv:RelV v u)(hl:xs.length<GD)
 (h:∀s',L2.Inv X pins σ (upd H a (.ext (bP X.prog X.w a (fg xs k b v)))) s'->Q () s'):Gw (GG X.prog X.w) A (setItem (.ref a) (.ref b) u) Q E s:=by
 obtain⟨hd,hz,ys,r,dd⟩:=nB I e hk
 refine wpAny_setItem_heap (knd:=dS X.prog X.w) (hsz:=by rw[<-jS r];exact hz) (show A.in1.units+4<HG by show A.units+1+4<HG;omega) (oU I hb) dd fun h' dd' hs=>h _ ?_
 obtain⟨q,es,ep,hq,q2,q3,q4,_,q5⟩:=dd'
 refine gY I (by rw[e];exact True.intro) hs ⟨q,hq⟩ ⟨⟨hd,?_,?_,_,gc r k b rv,q,es,ep,hq,q2,q3,q4⟩,⟨q,hq⟩,fun h1 h2 x y=>jO h1 h2 x y⟩
 ·have:=lD xs k b v;omega
 ·rw[<-iK (gc r k b rv)];exact q5
theorem si(I:L2.Inv X pins σ H s):L2.Inv X pins σ (upd H s.heap.objs.size (.ext (bP X.prog X.w s.heap.objs.size []))) { s with heap:=s.heap.push { cls:=.type "dict",data:=.dict #[] } }:=
 I.laid (a:=s.heap.objs.size) (t':=s.toks) (fun _ _ q=>G9 _ q) (Gq _)
  ⟨⟨beq_eq_false_iff_ne.mpr (Ne.symm (Hh I.big)),HR _,List.nodup_nil,[],.nil,_,#[],0,Gv _ rfl,⟨rfl,rfl,rfl⟩,rfl,rfl⟩,⟨_,Gv _ rfl⟩,fun h1 h2 x y=>jO h1 h2 x y⟩
def dW(xs:List SpE)(k:SpK):Option V:=(xs.find? fun x=>decide (x.1=k)).map (·.2.2)
theorem oj{xs:List SpE}{ys:List (SpK×Addr×G0)}(r:JF PrS xs ys){v:V}(h:dW xs k=some v):∃p:Addr×G0,atKey ys k=some p/\RelV v p.2:=by
 induction r with
 |nil=>cases h
 |@cons p q ps qs h' t ih=>
  by_cases e:p.1=k
  ·have e':q.1=k:=h'.1.symm.trans e;simp[dW,Ha,e]at h;subst h;exact⟨q.2,by simp[atKey,Ha,e'],h'.2.2⟩
  ·have e':¬q.1=k:=fun z=>e (h'.1.trans z);have h2:dW ps k=some v:=by simpa[dW,Ha,e]using h
   obtain⟨p',h3,h4⟩:=ih h2;exact⟨p',by simpa[atKey,Ha,e']using h3,h4⟩
theorem yZ{A:Hr}{E:G0->G6->Prop}{Q:G0->G6->Prop}{xs:List SpE}{v:V}(hu:A.units+8<HG)(I:L2.Inv X pins σ H s)(e:H a=some (.ext (bP X.prog X.w a xs)))(hk:∀x∈xs,cV X.K H x.2.1 x.1)(hb:cV X.K H b k)(hv:dW xs k=some v) (h:∀u s',L2.Inv X pins σ H s'->RelV v u->Q u s'):Gw (GG X.prog X.w) A (getItem (.ref a) (.ref b)) Q E s:=by obtain⟨hd,hz,ys,r,dd⟩:=nB I e hk;obtain⟨p,h1,h2⟩:=oj r hv;exact wpAny_getItem_heap (knd:=dS X.prog X.w) (show A.in1.units+4<HG by show A.units+1+4<HG;omega) (oU I hb) dd h1 (h _ _ (I.tok _) h2)
end
section
variable{prog:GL}{w:Hk}{K:Type}[DecidableEq K]{knd:HeapKind prog w K}{A:Hr}{E:G0->G6->Prop}{s:G6}
theorem oE{d a:Addr}{xs:List (K×Addr×G0)}{k:K}{v:G0}{Q:G0->G6->Prop}(hu:knd.room A)(hkey:knd.is s.heap k a)(hm:s.heap.DictOfH knd d xs) (h1:∀p,atKey xs k=some p->Q p.2 { s with toks:=s.toks+knd.draws k }) (h2:atKey xs k=none->∀h',h'.DictOfH knd d (storedH xs k a v)->IJ d s.heap h'->Q v { s with heap:=h',toks:=s.toks+knd.draws k }) (hsz:xs.length<=GD) : Gw (GG prog w) A (dictSetDefault d (.ref a) v) Q E s:=by
 obtain⟨o,es,ep,ho,hc,hd,he,his,hn⟩:=hm;unfold dictSetDefault
 try with_reducible refine HP ?_
 refine cc (knd.pyHash hu hkey ?_);refine cc (wpAny_dictFind_heap (s:={ s with toks:=s.toks+knd.draws k }) hu hkey ho hd he his hn ?_ ?_)
 ·intro hno;have hnot:k∉xs.map (·.1):=not_mem_keys_of_get hno;have ha:=atKey_none_of_get hno
  refine cc (wpAny_rule (cc (wpAny_updateDictKeys (hz:=by have e:=size_of_entries he;omega) (s:={ s with toks:=s.toks+knd.draws k }) ho hd (G7 (h2 ha _ ⟨_,_,ep+1,HZ _ ho (Obj.isFreed_of_dict (Obj.data_mapDictKeys hd _)),
   hc.mapDictKeys _,Obj.data_mapDictKeys hd _,?_,?_,?_⟩ (IA ..))))))
  ·rw[storedH_new ha];simp[he,entryOfKey]
  ·rw[storedH_new ha];intro x hx;rcases GY.mp hx with hx|hx
   ·exact knd.keeps (his x hx) ho hd (IA ..)
   ·have:x=(k,a,v):=by simpa using hx
    subst this;exact knd.keeps hkey ho hd (IA ..)
  ·rw[storedH_new ha,GV,List.nodup_append];refine⟨hn,by simp,?_⟩;intro x hx y hy;have:y=k:=by simpa using hy
   subst this;exact fun e=>hnot (e▸hx)
 ·intro j p hj;have ha:=atKey_of_get hn hj;refine cc (wpAny_dictEntries (s:={ s with toks:=s.toks+knd.draws k }) ho hd ?_);rw[entry_at he j,hj];exact cc (wpAny_rule (G7 (h1 p ha)))
theorem oH{d a:Addr}{xs:List (K×Addr×G0)}{k:K}{v:G0}{Q:G0->G6->Prop}(hu:knd.room A.in1)(hkey:knd.is s.heap k a)(hm:s.heap.DictOfH knd d xs)(hd:(d==Iq)=false)
 (h1:∀p,atKey xs k=some p->Q p.2 { s with toks:=s.toks+knd.draws k })
 (h2:atKey xs k=none->∀h',h'.DictOfH knd d (storedH xs k a v)->IJ d s.heap h'->Q v { s with heap:=h',toks:=s.toks+knd.draws k }) (hsz:xs.length<=GD) :
 Gw (GG prog w) A (call (.builtin "dict.setdefault") [.ref d,.ref a,v]) Q E s:=by
 refine J7 PySem.F.slot_dict_setdefault hm.typeIs PySem.F.entry_dict_setdefault ?_ (PySem.F.args_dict_setdefault_3 _ _ _)
 unfold JG.«dict.setdefault»
 refine cc ?_
 unfold Builtin.Dict.keyAndDefault
 refine cc (wpAny_notOrdered_dict hm.typeIs ?_)
 show Gw _ _ (pure (d,HS a,some v)) _ _ s
 refine G7 ?_
 show Gw _ _ (if(d==Iq)=true then _ else(dictSetDefault d (.ref a) v >>= _)) _ _ s
 rw[if_neg (by rw[hd];exact GA)]
 exact cc (oE hu hkey hm (fun p hp=>G7 ⟨p.2,rfl,h1 p hp⟩) (fun hn h' hm' hs'=>G7 ⟨v,rfl,h2 hn h' hm' hs'⟩) hsz)
end
section
variable{X:Cx}{pins:List (Addr×Obj)}{σ:L2.St}{H:Hp}{s:G6}{a b:Addr}{k:SpK}
theorem xC{xs:List SpE}{ys:List (SpK×Addr×G0)}(r:JF PrS xs ys)(h:dW xs k=none):atKey ys k=none:=by
 induction r with
 |nil=>rfl
 |@cons p q ps qs h' t ih=>
  by_cases e:p.1=k
  ·simp[dW,Ha,e]at h
  ·have e':¬q.1=k:=fun z=>e (h'.1.trans z);have h2:dW ps k=none:=by simpa[dW,Ha,e]using h
   have:=ih h2;simpa[atKey,Ha,e']using this
theorem ql{A:Hr}{E:G0->G6->Prop}{Q:G0->G6->Prop}{xs:List SpE}{v:V}{u:G0}(hu:A.units+8<HG)(I:L2.Inv X pins σ H s)(e:H a=some (.ext (bP X.prog X.w a xs)))(hk:∀x∈xs,cV X.K H x.2.1 x.1)(hb:cV X.K H b k)(rv:RelV v u)(hl:xs.length<GD)
 (h1:∀v' u' s',dW xs k=some v'->L2.Inv X pins σ H s'->RelV v' u'->Q u' s')
 (h2:dW xs k=none->∀s',L2.Inv X pins σ (upd H a (.ext (bP X.prog X.w a (fg xs k b v)))) s'->Q u s'):Gw (GG X.prog X.w) A (call (.builtin "dict.setdefault") [.ref a,.ref b,u]) Q E s:=by
 obtain⟨hd,hz,ys,r,dd⟩:=nB I e hk
 refine oH (knd:=dS X.prog X.w) (show A.in1.units+4<HG by show A.units+1+4<HG;omega) (oU I hb) dd hd (fun p hp=>?_) (fun hn h' dd' hs=>?_) (by rw[<-jS r];exact hz)
 ·cases ev:dW xs k with
  |none=>rw[xC r ev]at hp;cases hp
  |some v'=>
   obtain⟨p',h3,h4⟩:=oj r ev
   rw[hp]at h3
   cases h3
   exact h1 v' _ _ ev (I.tok _) h4
 ·have ev:dW xs k=none:=by
   cases ev:dW xs k with
   |none=>rfl
   |some v'=>
    obtain⟨p',h3,_⟩:=oj r ev
    rw[hn]at h3;cases h3
  refine h2 ev _ ?_
  obtain⟨q,es,ep,hq,q2,q3,q4,_,q5⟩:=dd'
  refine gY I (by rw[e];exact True.intro) hs ⟨q,hq⟩ ⟨⟨hd,?_,?_,_,gc r k b rv,q,es,ep,hq,q2,q3,q4⟩,⟨q,hq⟩,fun h1 h2 x y=>jO h1 h2 x y⟩
  ·have:=lD xs k b v;omega
  ·rw[<-iK (gc r k b rv)];exact q5
end
section
variable{X:Cx}
def Bi(X:Cx):TE:=fun _ H Q=>∀p,H p=none->Q (.ref p) (upd H p (.ext (bP X.prog X.w p [])))
theorem yj{pos:Pos}:PE X (.Dict [] [] pos) (Bi X):=fun pins s σ H Q I h=>wpAny_Dict_empty ⟨.ref s.heap.objs.size,_,si I,rfl,h _ (I.hok.fresh (Gq _))⟩
structure DsAt(X:Cx)(H:Hp)(a b:Addr)(xs:List SpE)(k:SpK):Prop where
 d:H a=some (.ext (bP X.prog X.w a xs))
 ks:∀x∈xs,cV X.K H x.2.1 x.1
 key:cV X.K H b k
def Cw(X:Cx)(td ty:TE):TE:=fun σ H Q=>td σ H fun x H1=>ty σ H1 fun y H2=>∃a b xs k v,x=.ref a/\y=.ref b/\DsAt X H2 a b xs k/\dW xs k=some v/\Q v H2
theorem wy{pins:List (Addr×Obj)}{σ:L2.St}{H:Hp}{s:G6}{a:Addr}{xs:List SpE}(I:L2.Inv X pins σ H s)(e:H a=some (.ext (bP X.prog X.w a xs))):s.TypeIs (.ref a) "dict"/\∀b,HS a=.ref b->∃o,s.heap.get? b=some o/\o.dict=none:=by obtain⟨⟨_,_,_,_,_,o,_,_,q1,q2,_⟩,_⟩:=I.hok a _ e;exact⟨⟨o,q1,q2.1⟩,fun b z=>by cases z;exact⟨o,q1,q2.2.1⟩⟩
theorem yt{o i:Expr}{td ty:TE}{pos:Pos}(hu:X.A.units+8<HG)(ho:PE X o td)(hi:PE X i ty)(hs:Fe i):PE X (.Subscript o i pos) (Cw X td ty):=by intro pins s σ H Q I h;refine Subscript_ (thn (ho pins s σ H _ I h) fun v s1 ⟨x,H1,I1,r1,q1⟩=>thn (hi pins s1 σ H1 _ I1 q1) fun u s2 zz1_0=>?_);obtain⟨y,H2,I2,r2,a,b,xs,k,w',ex,ey,D,hv,q⟩:=zz1_0;subst ex ey;cases r1;cases r2;exact tail_any (wy I2 D.d).1 PySem.F.slot_dict_getitem.lookup (yZ hu I2 D.d D.ks D.key hv fun u' s' I' r'=>⟨w',H2,I',r',q⟩) (hs _ _)
def BB(X:Cx)(td ty tv:TE):TS:=fun D σ H=>tv σ H fun v H1=>td σ H1 fun x H2=>ty σ H2 fun y H3=>∃a b xs k,x=.ref a/\y=.ref b/\DsAt X H3 a b xs k/\xs.length<GD/\D.nx σ (upd H3 a (.ext (bP X.prog X.w a (fg xs k b v))))
theorem xI{o i value:Expr}{td ty tv:TE}{pos pos':Pos}(hu:X.A.units+8<HG)(ho:PE X o td)(hi:PE X i ty)(hv:PE X value tv)(hs:J5 value (some (.Subscript o i pos')) pos.line X.env=pure false) : PS X (.Assign [.Subscript o i pos'] value pos) (BB X td ty tv):=by intro pins s σ H D I h;refine wpAny_Assign_Subscript (thn (hv pins s σ H _ I h) fun r s1 ⟨v,H1,I1,rv,q1⟩=>thn (ho pins s1 σ H1 _ I1 q1) fun u s2 ⟨x,H2,I2,rx,q2⟩=>thn (hi pins s2 σ H2 _ I2 q2) fun iv s3 zz2_0=>?_) hs;obtain⟨y,H3,I3,ry,a,b,xs,k,ex,ey,A,hl,q3⟩:=zz2_0;subst ex ey;cases rx;cases ry;exact zK hu I3 A.d A.ks A.key rv hl fun s4 I4=>⟨σ,_,I4,q3⟩
def Fi(X:Cx)(to:TE)(t:TA):TE:=fun σ H Q=>to σ H fun x H1=>∃a xs0,x=.ref a/\H1 a=some (.ext (bP X.prog X.w a xs0))/\t σ H1 fun vs H2=>∃b v xs k,vs=[.ref b,v]/\DsAt X H2 a b xs k/\xs.length<GD/\
 (∀v',dW xs k=some v'->Q v' H2)/\(dW xs k=none->Q v (upd H2 a (.ext (bP X.prog X.w a (fg xs k b v)))))
theorem zO{o e1 e2:Expr}{to:TE}{t:TA}{apos a9:Pos}(hu:X.A.units+8<HG)(ho:PE X o to)(ha:PA X [e1,e2] t)
 (hbase:attributeBase o "setdefault" X.env (eval o X.env)=eval o X.env:=by rfl)
 (hfew:((Ij a9 (GH [e1,e2] X.env)).all (fun x=>!x.1)&&(backToKw a9 (Jm [] X.env)).all (fun x=>x.1.isSome)
  && decide ([e1,e2].length+([]:List Keyword).length+(if([]:List Keyword).isEmpty then 0 else 1)<30))=true:=by rfl)
 (hline:(apos.endLine==a9.line)=true:=by rfl) (hs:GH [e1,e2] X.env=(false,eval e1 X.env)::GH [e2] X.env:=by rfl) (hplain:(Ij a9 (GH [e2] X.env)).any (·.1)=false:=by rfl) :
 PE X (.Call (.Attribute o "setdefault" apos) [e1,e2] [] a9) (Fi X to t):=by
 intro pins s σ H Q I h
 refine wpAny_Call_method_late hbase hfew hline rfl (thn (ho pins s σ H _ I h) fun v s1 zz3_0=>?_)
 obtain⟨x,H1,I1,r1,a,xs0,ex,e0,q1⟩:=zz3_0
 subst ex
 cases r1
 obtain⟨h1,h2⟩:=wy I1 e0
 refine⟨"dict","dict.setdefault",PySem.F.plainAttrs_dict,PySem.F.slot_dict_setdefault,PySem.F.type_dict_setdefault,h1,h2,?_⟩
 have hA:=ha a9 pins s1 σ H1 _ I1 q1
 rw[hs]at hA ⊢
 refine Calls.callWith_builtin (by show(false||(Ij a9 (GH [e2] X.env)).any (·.1))=false;rw[hplain]<;>rfl) (Calls.evalArgs_plain ?_)
 refine thn hA fun us s2 zz4_0=>?_
 obtain⟨vs,H2,I2,r2,b,w',xs,k,ev,D,hl,k1,k2⟩:=zz4_0
 subst ev
 obtain⟨u1,u2,rfl,ru1,ru2⟩:=r2.two
 cases ru1
 exact ql hu I2 D.d D.ks D.key ru2 hl (fun v' u' s' ev I' r'=>⟨v',H2,I',r',k1 v' ev⟩) (fun hn s' I'=>⟨w',_,I',ru2,k2 hn⟩)
end
def spD(k:SpK):D:=.tup [.tup [.int k.1,.int k.2.1],.tup [.int k.2.2.1,.int k.2.2.2]]
section
variable{K:G5}{H H':Hp}{M:MH}{a b:Addr}{k:SpK}
theorem pC{v:V}(r:Rep K H (spD k) v):∃b,v=.ref b/\cV K H b k:=by unfold spD at r;rw[Rep]at r;obtain⟨b,xs,rfl,hx,rs⟩:=r;obtain⟨v1,v2,rfl,r1,r2⟩:=fM rs;rw[Rep]at r1 r2;obtain⟨f,fs,rfl,hf,rf⟩:=r1;obtain⟨g,gs,rfl,hg,rg⟩:=r2;obtain⟨w1,w2,rfl,q1,q2⟩:=fM rf;obtain⟨w3,w4,rfl,q3,q4⟩:=fM rg;rw[Rep]at q1 q2 q3 q4;subst q1 q2 q3 q4;exact⟨b,rfl,f,g,hx,hf,hg⟩
theorem yn(h:cV K H b k):Rep K H (spD k) (.ref b):=by
 obtain⟨f,g,hx,hf,hg⟩:=h;unfold spD;rw[Rep];refine⟨b,_,rfl,hx,?_⟩;have i2:∀(m n:Int),aD K H [D.int m,D.int n] [V.int m,V.int n]:=fun m n=>jj [m,n];rw[aD];refine⟨_,_,rfl,?_,?_⟩
 ·rw[Rep];exact⟨f,_,rfl,hf,i2 _ _⟩
 ·rw[aD];refine⟨_,_,rfl,?_,?_⟩
  ·rw[Rep];exact⟨g,_,rfl,hg,i2 _ _⟩
  ·rw[aD]
theorem cV.mono(g:Grow K H H')(h:cV K H b k):cV K H' b k:=by obtain⟨b',e,r⟩:=pC ((yn h).mono g);cases e;exact r
abbrev SpT:=List (SpK×D)
def dsA(kvs:SpT):G5->Hp->Addr->Prop:=fun K H a=>∃xs:List SpE,(∀P w,H a=some (.ext (bP P w a xs)))/\xs.map (·.1)=kvs.map (·.1)/\(∀x∈xs,cV K H x.2.1 x.1)/\aD K H (kvs.map (·.2)) (xs.map (·.2.2))
theorem xD{kvs:SpT}(h:dsA kvs K H a)(g:Grow K H H')(e:H' a=H a):dsA kvs K H' a:=by obtain⟨xs,h1,h2,h3,h4⟩:=h;exact⟨xs,fun P w=>e.trans (h1 P w),h2,fun x hx=>(h3 x hx).mono g,h4.mono g⟩
def dsM(kvs:SpT):MO:=.gen (dsA kvs)
theorem Abs.dsp{kvs:SpT}(h:Abs K H M)(e:M a=some (dsM kvs)):dsA kvs K H a:=(h a _ e).1
theorem dsA.wq{kvs:SpT}(h:dsA kvs K H a)(ne:H a≠none):pK K H a (dsM kvs):=⟨h,ne,fun H' g e=>xD h g e⟩
theorem Abs.AS{p:Addr}(P:GL)(w:Hk)(h:Abs K H M)(hp:H p=none):Abs K (upd H p (.ext (bP P w p []))) (ax M p (dsM [])):=fun a u e=>by
 by_cases ne:a=p
 ·subst ne;rw[af]at e;cases e;exact dsA.wq ⟨[],(fun P w=>aW),rfl,(fun x hx=>by simp at hx),(by simp[aD])⟩ (by rw[aW];simp)
 ·rw[aj ne]at e;exact(h a u e).gH (.new hp) (aS ne)
def dg(kvs:SpT)(k:SpK):Option D:=(kvs.find? fun x=>decide (x.1=k)).map (·.2)
def putD(kvs:SpT)(k:SpK)(d:D):SpT:=if(kvs.any fun x=>decide (x.1=k))=true then kvs.map (fun x=>if x.1=k then(x.1,d)else x)else kvs++[(k,d)]
theorem nY(k:SpK):∀{kvs:SpT} {xs:List SpE},xs.map (·.1)=kvs.map (·.1)->aD K H (kvs.map (·.2)) (xs.map (·.2.2))->(∀d,dg kvs k=some d->∃v,dW xs k=some v/\Rep K H d v)/\(dg kvs k=none->dW xs k=none)/\((xs.any fun x=>decide (x.1=k))=kvs.any fun x=>decide (x.1=k))
 |[],[],_,_=>⟨(fun d h=>by simp[dg]at h),(fun _=>rfl),rfl⟩
 |[],x::xs,h,_=>by cases h
 |y::kvs,[],h,_=>by cases h
 |y::kvs,x::xs,h,r=>by
  rw[Gs,Gs]at h
  injection h with h1 h2
  rw[Gs,Gs,aD]at r
  obtain⟨v,vs,e,r1,r2⟩:=r
  injection e with e1 e2
  subst e1 e2
  obtain⟨i1,i2,i3⟩:=nY k h2 r2
  by_cases e:y.1=k
  ·have e':x.1=k:=h1.trans e
   refine⟨fun d hd=>?_,fun hn=>?_,?_⟩
   ·simp[dg,Ha,e]at hd
    subst hd
    exact⟨x.2.2,by simp[dW,Ha,e'],r1⟩
   ·simp[dg,Ha,e]at hn
   ·simp[e,e']
  ·have e':¬x.1=k:=fun z=>e (h1.symm.trans z)
   refine⟨fun d hd=>?_,fun hn=>?_,?_⟩
   ·obtain⟨v,q1,q2⟩:=i1 d (by simpa[dg,Ha,e]using hd)
    exact⟨v,by simpa[dW,Ha,e']using q1,q2⟩
   ·have:=i2 (by simpa[dg,Ha,e]using hn)
    simpa[dW,Ha,e']using this
   ·rw[J1,J1,i3,decide_eq_false e,decide_eq_false e']
theorem sR(k:SpK){d:D}{v:V}(r:Rep K H d v):∀{kvs:SpT} {xs:List SpE},xs.map (·.1)=kvs.map (·.1)->aD K H (kvs.map (·.2)) (xs.map (·.2.2))->
 (xs.map fun x=>if x.1=k then(x.1,x.2.1,v)else x).map (·.1)=(kvs.map fun x=>if x.1=k then(x.1,d)else x).map (·.1)/\aD K H ((kvs.map fun x=>if x.1=k then(x.1,d)else x).map (·.2)) ((xs.map fun x=>if x.1=k then(x.1,x.2.1,v)else x).map (·.2.2))
 |[],[],_,h=>⟨rfl,h⟩
 |[],x::xs,h,_=>by cases h
 |y::kvs,[],h,_=>by cases h
 |y::kvs,x::xs,h,q=>by
  rw[Gs,Gs]at h
  injection h with h1 h2
  rw[Gs,Gs,aD]at q
  obtain⟨v',vs,e,r1,r2⟩:=q
  injection e with e1 e2
  subst e1 e2
  obtain⟨i1,i2⟩:=sR k r h2 r2
  by_cases e:y.1=k
  ·have e':x.1=k:=h1.trans e
   simp only[Gs,if_pos e,if_pos e']
   exact⟨by rw[i1];exact congrArg (·::_) h1,by rw[aD];exact⟨_,_,rfl,r,i2⟩⟩
  ·have e':¬x.1=k:=fun z=>e (h1.symm.trans z)
   simp only[Gs,if_neg e,if_neg e']
   exact⟨by rw[i1];exact congrArg (·::_) h1,by rw[aD];exact⟨_,_,rfl,r1,i2⟩⟩
theorem AW{kvs:SpT}{xs:List SpE}{d:D}{v:V}(h1:xs.map (·.1)=kvs.map (·.1))(h2:aD K H (kvs.map (·.2)) (xs.map (·.2.2)))(h3:∀x∈xs,cV K H x.2.1 x.1)(hb:cV K H b k)(r:Rep K H d v) : (fg xs k b v).map (·.1)=(putD kvs k d).map (·.1)/\aD K H ((putD kvs k d).map (·.2)) ((fg xs k b v).map (·.2.2))/\∀x∈fg xs k b v,cV K H x.2.1 x.1:=by
 unfold fg putD;rw[(nY k h1 h2).2.2];by_cases e:(kvs.any fun x=>decide (x.1=k))=true
 ·rw[if_pos e,if_pos e];obtain⟨i1,i2⟩:=sR k r h1 h2;refine⟨i1,i2,fun x hx=>?_⟩;obtain⟨y,hy,rfl⟩:=Hi.mp hx;have:=h3 y hy;by_cases e:y.1=k
  ·rw[if_pos e];exact this
  ·rw[if_neg e];exact this
 ·rw[if_neg e,if_neg e];refine⟨by rw[GV,GV,h1];rfl,?_,fun x hx=>?_⟩
  ·rw[GV,GV];exact h2.append (by rw[Gs,Gs,Ig,Ig,aD];exact⟨_,_,rfl,r,by rw[aD]⟩)
  ·rcases GY.mp hx with z|z
   ·exact h3 x z
   ·have:x=(k,b,v):=by simpa using z
    subst this;exact hb
theorem Grow.ext{φ:Heap->Prop}{o:HO}(h:H a=some (.ext φ)):Grow K H (upd H a o):=.put (fun xs e=>by rw[h]at e;cases e) (fun u xs e=>by rw[h]at e;cases e)
theorem Abs.vN{kvs:SpT}{xs:List SpE}{d:D}{v:V}(P:GL)(w:Hk)(h:Abs K H M)(hx:∀P w,H a=some (.ext (bP P w a xs)))(h1:xs.map (·.1)=kvs.map (·.1))(h2:aD K H (kvs.map (·.2)) (xs.map (·.2.2)))(h3:∀x∈xs,cV K H x.2.1 x.1)(hb:cV K H b k)(r:Rep K H d v) :
 Abs K (upd H a (.ext (bP P w a (fg xs k b v)))) (ax M a (dsM (putD kvs k d))):=fun c u e=>by
 have g:Grow K H (upd H a (.ext (bP P w a (fg xs k b v)))):=.ext (hx P w)
 by_cases ne:c=a
 ·subst ne
  rw[af]at e;cases e
  obtain⟨q1,q2,q3⟩:=AW h1 h2 h3 hb r
  exact dsA.wq ⟨_,fun P w=>aW,q1,fun x hx=>(q3 x hx).mono g,q2.mono g⟩ (by rw[aW];simp)
 ·rw[aj ne]at e
  exact(h c u e).gH g (aS ne)
end
section
variable{X:Cx}
def zb:TD:=fun _ M Q=>∀p,M p=none->Q (.ref p) (ax M p (dsM []))
theorem pU{pos:Pos}:DE X (.Dict [] [] pos) zb:=aZ yj fun σ H Q zz1_0=>by obtain⟨δ,M,R,hs,hM,q,fin⟩:=zz1_0;exact(fun p hp=>fin _ _ _ _ (.new hp) (by rw[Rep]) (hM.AS _ _ hp) (q p (hM.fresh hp)))
def yH(td ty:TD):TD:=fun δ M Q=>td δ M fun x M1=>ty δ M1 fun y M2=>∃l kvs k d,x=.ref l/\y=spD k/\M2 l=some (dsM kvs)/\dg kvs k=some d/\Q d M2
theorem ph{o i:Expr}{td ty:TD}{pos:Pos}(hu:X.A.units+66<HG)(ho:DE X o td)(hi:DE X i ty)(hs:Fe i):DE X (.Subscript o i pos) (yH td ty):=
 aZ (yt (by omega) ho hi hs) fun σ H Q zz2_0=>by obtain⟨δ,M,R,hs,hM,q,fin⟩:=zz2_0;exact(⟨δ,M,_,hs,hM,q,fun x M1 v H1 g1 r1 a1 q1=>⟨δ,M1,_,hs.mono g1,a1,q1,fun y M2 u H2 g2 r2 a2 zz3_0=>by
  obtain⟨l,kvs,k,d,ex,ey,hl,hv,q2⟩:=zz3_0
  subst ex ey
  rw[Rep]at r1;subst r1
  obtain⟨b,rfl,sp⟩:=pC r2
  obtain⟨xs,h1,h2,h3,h4⟩:=a2.dsp hl
  obtain⟨v',q3,q4⟩:=(nY k h2 h4).1 d hv
  exact⟨l,b,xs,k,v',rfl,rfl,⟨h1 _ _,h3,sp⟩,q3,fin _ _ _ _ (g1.trans g2) q4 a2 q2⟩⟩⟩)
def zr(td ty tv:TD):TSD:=fun B δ M=>tv δ M fun d M1=>td δ M1 fun x M2=>ty δ M2 fun y M3=>∃l kvs k,x=.ref l/\y=spD k/\M3 l=some (dsM kvs)/\kvs.length<1000000/\B.nx δ (ax M3 l (dsM (putD kvs k d)))
theorem xA{o i value:Expr}{td ty tv:TD}{pos pos':Pos}(hu:X.A.units+66<HG)(ho:DE X o td)(hi:DE X i ty)(hv:DE X value tv)(hs:J5 value (some (.Subscript o i pos')) pos.line X.env=pure false:=by rfl):DSt X (.Assign [.Subscript o i pos'] value pos) (zr td ty tv):=
 cD (xI (by omega) ho hi hv hs) fun D σ H ⟨δ,M,hs,hM,B,ok,q⟩=>⟨δ,M,_,hs,hM,q,fun d M1 v H1 g1 r1 a1 q1=>⟨δ,M1,_,hs.mono g1,a1,q1,fun x M2 u H2 g2 r2 a2 q2=>⟨δ,M2,_,(hs.mono g1).mono g2,a2,q2,fun y M3 u3 H3 g3 r3 a3 ⟨l,kvs,k,ex,ey,hl,hn,q3⟩=>by
  subst ex ey
  rw[Rep]at r2;subst r2
  obtain⟨b,rfl,sp⟩:=pC r3
  obtain⟨xs,h1,h2,h3,h4⟩:=a3.dsp hl
  have hlen:xs.length=kvs.length:=by have:=congrArg List.length h2;simpa using this
  have sz:1000000<=GD:=nbL rfl
  refine⟨l,b,xs,k,rfl,rfl,⟨h1 _ _,h3,sp⟩,by omega,?_⟩
  have g4:Grow X.K H3 (upd H3 l (.ext (bP X.prog X.w l (fg xs k b v)))):=.ext (h1 X.prog X.w)
  exact ok.nx _ _ _ _ (((g1.trans g2).trans g3).trans g4) (hs.mono (((g1.trans g2).trans g3).trans g4)) (a3.vN _ _ h1 h2 h4 h3 sp (r1.mono (g2.trans g3))) q3⟩⟩⟩
def A6(to:TD)(t:TAD):TD:=fun δ M Q=>to δ M fun x M1=>∃l kvs0,x=.ref l/\M1 l=some (dsM kvs0)/\t δ M1 fun ds M2=>∃kvs k d,ds=[spD k,d]/\M2 l=some (dsM kvs)/\kvs.length<1000000/\(∀d',dg kvs k=some d'->Q d' M2)/\(dg kvs k=none->Q d (ax M2 l (dsM (putD kvs k d))))
theorem yR{o e1 e2:Expr}{to:TD}{t:TAD}{apos a9:Pos}(hu:X.A.units+66<HG)(ho:DE X o to)(ha:DA X [e1,e2] t)
 (hbase:attributeBase o "setdefault" X.env (eval o X.env)=eval o X.env:=by rfl)
 (hfew:((Ij a9 (GH [e1,e2] X.env)).all (fun x=>!x.1)&&(backToKw a9 (Jm [] X.env)).all (fun x=>x.1.isSome)
  && decide ([e1,e2].length+([]:List Keyword).length+(if([]:List Keyword).isEmpty then 0 else 1)<30))=true:=by rfl)
 (hline:(apos.endLine==a9.line)=true:=by rfl) (hs:GH [e1,e2] X.env=(false,eval e1 X.env)::GH [e2] X.env:=by rfl) (hplain:(Ij a9 (GH [e2] X.env)).any (·.1)=false:=by rfl) :
 DE X (.Call (.Attribute o "setdefault" apos) [e1,e2] [] a9) (A6 to t):=
 aZ (zO (by omega) ho ha hbase hfew hline hs hplain) fun σ H Q ⟨δ,M,R,hs,hM,q,fin⟩=>⟨δ,M,_,hs,hM,q,fun x M1 v H1 g1 r1 a1 ⟨l,kvs0,ex,hl0,q1⟩=>by
  subst ex
  rw[Rep]at r1;subst r1
  obtain⟨xs0,h0,_⟩:=a1.dsp hl0
  refine⟨l,xs0,rfl,h0 _ _,δ,M1,_,hs.mono g1,a1,q1,fun ds M2 vs H2 g2 r2 a2 zz4_0=>?_⟩
  obtain⟨kvs,k,d,ed,hl,hn,k1,k2⟩:=zz4_0
  subst ed
  obtain⟨v1,v2,rfl,rv1,rv2⟩:=fM r2
  obtain⟨b,rfl,sp⟩:=pC rv1
  obtain⟨xs,h1,h2,h3,h4⟩:=a2.dsp hl
  have hlen:xs.length=kvs.length:=by have:=congrArg List.length h2;simpa using this
  have sz:1000000<=GD:=nbL rfl
  have dv:=nY k h2 h4
  refine⟨b,v2,xs,k,rfl,⟨h1 _ _,h3,sp⟩,by omega,fun v' hv'=>?_,fun hv'=>?_⟩
  ·cases ed:dg kvs k with
   |none=>rw[dv.2.1 ed]at hv';cases hv'
   |some d'=>
    obtain⟨v'',q3,q4⟩:=dv.1 d' ed
    rw[hv']at q3;cases q3
    exact fin _ _ _ _ (g1.trans g2) q4 a2 (k1 d' ed)
  ·have ed:dg kvs k=none:=by
    cases ed:dg kvs k with
    |none=>rfl
    |some d'=>
     obtain⟨v'',q3,_⟩:=dv.1 d' ed
     rw[hv']at q3;cases q3
   have g4:Grow X.K H2 (upd H2 l (.ext (bP X.prog X.w l (fg xs k b v2)))):=.ext (h1 X.prog X.w)
   exact fin _ _ _ _ ((g1.trans g2).trans g4) (rv2.mono g4) (a2.vN _ _ h1 h2 h4 h3 sp rv2) (k2 ed)⟩
end
theorem CK(t b X m x:Int):Ma.ut t b X m x=Ma.ut t (b*m) (X*m) 1 x:=by unfold Ma.ut;rw[Int.mul_one,Int.mul_one]
theorem sH{t b X m:Int}(ht:0<t)(hb:0<b)(hm:0<m)(a:Int):Ma.ut t b X 1 a=Ma.ut t (b*m) (X*m) 1 (m*a):=by rw[<-CK,Ma.dz ht hb (by decide) hm];omega
theorem tI{t b X Y m:Int}(ht:0<t)(hb:0<b)(hm:0<m)(w:Wl)(p q:Int):Ma.sgn (Ma.cr (Ma.ut t b X 1 w.1) (Ma.ut t b Y 1 w.2.1) (Ma.ut t b X 1 w.2.2.1) (Ma.ut t b Y 1 w.2.2.2) (Ma.ut t b X m p) (Ma.ut t b Y m q))=GS (sd (uby m w) p q):=by rw[sH ht hb hm,sH ht hb hm,sH ht hb hm,sH ht hb hm,CK t b X m p,CK t b Y m q];exact ji ht (GF hb hm) (uby m w) p q
theorem wK{t b X Y m p q a c:Int}(ht:0<t)(hb:0<b)(hm:0<m/\m<=4)(hq:-10<=q/\q<=85)(hc:0<=c/\c<=20):Ma.ah (Ma.ut t b X m p) (Ma.ut t b Y m q) (Ma.ut t b X 1 a) (Ma.ut t b Y 1 c)↔la p q<m*la a c:=by have e1:=Je (show 0<=m by omega) hc.1;have e2:=Int.mul_le_mul hm.2 hc.2 hc.1 (show(0:Int)<=4 by decide);rw[Ma.mX ht hb hm.1 (by decide),Int.one_mul,Int.one_mul,yL hq ⟨by omega,by omega⟩,decide_eq_true_eq,Bl]
def bB(ws:List Wl)(m p q:Int)(j:Nat):Bool:=spB ws m (la p q) j&&decide (GS (sd (uby m (wAt ws (j:Int))) p q)=1)
def bK(ws:List Wl)(m p q:Int):List Int:=((GR ws.length).filter (bB ws m p q)).map fun j:Nat=>(j:Int)
theorem jf{ws:List Wl}{m p q k:Int}(h:k∈bK ws m p q):k∈spK ws m (la p q):=by unfold bK at h;obtain⟨j,hj,rfl⟩:=Hi.mp h;rw[GQ]at hj;have:=hj.2;unfold bB at this;rw[GN]at this;exact Hi.mpr ⟨j,GQ.mpr ⟨hj.1,this.1⟩,rfl⟩
theorem pG(ws:List Wl)(m p q:Int):(bK ws m p q).Nodup:=by unfold bK List.Nodup;rw[List.pairwise_map];have h:List.Pairwise (fun x y:Nat=>x≠y) ((GR ws.length).filter (bB ws m p q)):=Jq _ List.nodup_range;refine List.Pairwise.imp (R:=fun x y:Nat=>x≠y) ?_ h;intro a b hab e;exact hab (by omega)
theorem vH{t b X Y:Int}(ht:0<t)(hb:0<b){U V:Wl}(hU:Un5 U)(hV:Un5 V)(ne:¬(l1 U=l1 V/\l2 U=l2 V)):Hu (rwP t b X Y U) (rwP t b X Y V)=false:=by have h1:=ia (X:=X) (Y:=Y) (p:=U.1) (q:=U.2.1) (e:=V.1) (f:=V.2.1) ht hb hU.b hV.b;have h2:=ia (X:=X) (Y:=Y) (p:=U.2.2.1) (q:=U.2.2.2) (e:=V.2.2.1) (f:=V.2.2.2) ht hb hU.d hV.d;unfold rwP frP;rw[Hu,HX,HX,HX,Ma.iD,Ma.iD,Bool.and_true,<-Jj,decide_eq_false_iff_not,h1,h2];exact ne
abbrev Vc:=Int×Int
def vc(a b:Vc):Int:=crs a.1 a.2 b.1 b.2
def vl(a:Vc):Int:=la a.1 a.2
theorem dJ(a b:Vc):vc b a=-vc a b:=by unfold vc crs;grind
theorem D1(b x y z:Vc):vc b y*vc x z=vc b x*vc y z+vc b z*vc x y:=by unfold vc crs;grind
theorem CH(a b c:Vc)(h:vc a b=0):vc b c*vl a=vc a c*vl b:=by unfold vc crs at *;unfold vl la;grind
def Ray(a b:Vc):Prop:=vc a b=0->vl a*vl b<0
theorem ft(z:Int):(z<0/\GS z=-1)\/(z=0/\GS z=0)\/(0<z/\GS z=1):=by
 rcases Gy z 0 with h|h|h
 ·exact .inl ⟨h,Hm h⟩
 ·exact .inr (.inl ⟨h,by subst h;rfl⟩)
 ·exact .inr (.inr ⟨h,HH h⟩)
theorem eO{p q:Int}(h:p*q<0):(p<0/\0<q)\/(0<p/\q<0):=by
 rcases Gy p 0 with a|a|a
 ·rcases Gy q 0 with b|b|b
  ·have:=He a b;omega
  ·subst b;simp at h
  ·exact .inl ⟨a,b⟩
 ·subst a;simp at h
 ·rcases Gy q 0 with b|b|b
  ·exact .inr ⟨a,b⟩
  ·subst b;simp at h
  ·have:=GF a b;omega
theorem opp{a b:Vc}(c:Vc)(z:vc a b=0)(h:vl a*vl b<0):GS (vc b c)=-GS (vc a c):=by
 have e:=CH a b c z;generalize vc b c=p at *;generalize vc a c=q at *;have m1:∀{x y:Int},0<x->0<y->0<x*y:=fun h1 h2=>GF h1 h2
 rcases eO h with⟨h1,h2⟩|⟨h1,h2⟩<;>rcases ft p with⟨a1,e1⟩|⟨a1,e1⟩|⟨a1,e1⟩<;>rcases ft q with⟨a2,e2⟩|⟨a2,e2⟩|⟨a2,e2⟩<;>rw[e1,e2]<;>first|rfl|(exfalso;subst_vars;first
  |(have k1:=He a1 h1;have k2:=GU a2 h2;omega)
  |(have k1:=GU a1 h1;have k2:=He a2 h2;omega)
  |(have k1:=GK a1 h1;have k2:=GF a2 h2;omega)
  |(have k1:=GF a1 h1;have k2:=GK a2 h2;omega)
  |(have k1:=He a1 h1;omega)
  |(have k1:=GU a1 h1;omega)
  |(have k1:=GK a1 h1;omega)
  |(have k1:=GF a1 h1;omega)
  |(have k2:=He a2 h2;omega)
  |(have k2:=GU a2 h2;omega)
  |(have k2:=GK a2 h2;omega)
  |(have k2:=GF a2 h2;omega))
def snr(b x y:Vc):Bool:=if GS (vc b x)=GS (vc b y)then decide (vc x y<0)else decide (GS (vc b x)<GS (vc b y))
theorem fW(b x y:Vc):snr b x y=true↔GS (vc b x)<GS (vc b y)\/(GS (vc b x)=GS (vc b y)/\vc x y<0):=by
 unfold snr;split
 ·rename_i h;simp;omega
 ·rename_i h;simp;omega
theorem uh{b x y:Vc}(h1:Ray b x)(h2:Ray b y)(h3:Ray x y):snr b x y=true\/snr b y x=true:=by
 rw[fW,fW];rcases Gy (vc x y) 0 with h|h|h
 ·omega
 ·have o:=h3 h;have e:=opp b h o;have e1:vc x b=-vc b x:=dJ b x;have e2:vc y b=-vc b y:=dJ b y;rw[e1,e2,Int.sign_neg,Int.sign_neg]at e;by_cases ne:GS (vc b x)=GS (vc b y)
  ·have z1:GS (vc b x)=0:=by omega
   have z2:GS (vc b y)=0:=by omega
   have p1:=eO (h1 (Int.sign_eq_zero_iff_zero.mp z1));have p2:=eO (h2 (Int.sign_eq_zero_iff_zero.mp z2));have p3:=eO o;omega
  ·omega
 ·have:=dJ x y;omega
theorem uL{b x y z:Vc}(h1:Ray b x)(h2:Ray b y)(h3:Ray b z)(a1:snr b x y=true)(a2:snr b y z=true):snr b x z=true:=by
 rw[fW]at *;rcases a1 with a1|⟨a1,b1⟩
 ·left;rcases a2 with a2|⟨a2,b2⟩<;>omega
 ·rcases a2 with a2|⟨a2,b2⟩
  ·left;omega
  ·right;refine⟨by omega,?_⟩;have i:=D1 b x y z;rcases ft (vc b y)with⟨k,e⟩|⟨k,e⟩|⟨k,e⟩
   ·have kx:vc b x<0:=by rcases ft (vc b x)with q|q|q<;>omega
    have kz:vc b z<0:=by rcases ft (vc b z)with q|q|q<;>omega
    have u1:=He kx b2;have u2:=He kz b1;rcases Gy (vc x z) 0 with q|q|q
    ·exact q
    ·rw[q]at i;simp at i;omega
    ·have:=GU k q;omega
   ·exfalso;have kx:vc b x=0:=by rcases ft (vc b x)with q|q|q<;>omega
    have p1:=h1 kx;have e:=opp y kx p1;have:GS (vc x y)=-1:=Hm b1;rw[k]at e;simp at e;omega
   ·have kx:0<vc b x:=by rcases ft (vc b x)with q|q|q<;>omega
    have kz:0<vc b z:=by rcases ft (vc b z)with q|q|q<;>omega
    have u1:=GK kx b2;have u2:=GK kz b1;rcases Gy (vc x z) 0 with q|q|q
    ·exact q
    ·rw[q]at i;simp at i;omega
    ·have:=GF k q;omega
theorem zw{a b c:Vc}(h:Ray a b)(s1:snr a c b=true)(s2:snr b c a=true):False:=by
 rw[fW]at s1 s2;have e1:vc b a=-vc a b:=dJ a b;have e2:vc c b=-vc b c:=dJ b c;have e3:vc c a=-vc a c:=dJ a c;rw[e1,Int.sign_neg]at s2;rw[e2]at s1;rw[e3]at s2;by_cases z:vc a b=0
 ·have o:=opp c z (h z);rw[z]at s1 s2;simp at s1 s2;rcases ft (vc a c)with q|q|q<;>rcases ft (vc b c)with r|r|r<;>omega
 ·rcases ft (vc a b)with p|p|p<;>rcases ft (vc a c)with q|q|q<;>rcases ft (vc b c)with r|r|r<;>omega
def rev(w:Wl):Wl:=(w.2.2.1,w.2.2.2,w.1,w.2.1)
def fw(ws:List Wl)(f:Nat):Wl:=if f%2=0 then wAt ws ((f/2:Nat):Int)else rev (wAt ws ((f/2:Nat):Int))
def fa(ws:List Wl)(f:Nat):Vc:=((fw ws f).1,(fw ws f).2.1)
def fb(ws:List Wl)(f:Nat):Vc:=((fw ws f).2.2.1,(fw ws f).2.2.2)
def fd(ws:List Wl)(f:Nat):Vc:=((fw ws f).2.2.1-(fw ws f).1,(fw ws f).2.2.2-(fw ws f).2.1)
def fx(f:Nat):Nat:=if f%2=0 then f+1 else f-1
theorem jJ(f:Nat):fx f/2=f/2/\(fx f)%2=1-f%2:=by unfold fx;split<;>omega
theorem AJ(f:Nat):fx (fx f)=f:=by unfold fx;split<;>split<;>omega
theorem jz{f n:Nat}(h:f<2*n):fx f<2*n:=by unfold fx;split<;>omega
theorem we(ws:List Wl)(f:Nat):fw ws (fx f)=rev (fw ws f):=by
 unfold fw;rw[(jJ f).1,(jJ f).2];by_cases h:f%2=0
 ·rw[if_neg (by omega),if_pos h]
 ·rw[if_pos (by omega),if_neg h];rfl
theorem ez(ws:List Wl)(f:Nat):fa ws (fx f)=fb ws f:=by unfold fa fb;rw[we];rfl
theorem wH(ws:List Wl)(f:Nat):fb ws (fx f)=fa ws f:=by unfold fa fb;rw[we];rfl
theorem f6{ws:List Wl}(hU:∀w∈ws,Un5 w)(hF:PF ws){g h:Nat}(hg:g<2*ws.length)(hh:h<2*ws.length)(ne:g≠h)(e:fa ws g=fa ws h):Ray (fd ws g) (fd ws h):=by
 obtain⟨g1,_,g3⟩:=aV (ws:=ws) (k:=((g/2:Nat):Int)) (by omega) (by omega);obtain⟨h1,_,h3⟩:=aV (ws:=ws) (k:=((h/2:Nat):Int)) (by omega) (by omega);have U:=hU _ g3;have V:=hU _ h3;rw[HQ]at g1 h1;unfold fa at e;have e1:=congrArg Prod.fst e;have e2:=congrArg Prod.snd e;unfold fd;unfold fw at *;by_cases same:g/2=h/2
 ·exfalso;rw[<-same]at e1 e2;have lt:=U.lt;unfold l1 l2 la at lt;by_cases p:g%2=0
  ·rw[if_pos p,if_neg (show ¬h%2=0 by omega)]at e1 e2;unfold rev at e1 e2;dsimp only at e1 e2;omega
  ·rw[if_neg p,if_pos (show h%2=0 by omega)]at e1 e2;unfold rev at e1 e2;dsimp only at e1 e2;omega
 ·have F:=hF _ _ _ _ same g1 h1;generalize wAt ws ((g/2:Nat):Int)=u at *;generalize wAt ws ((h/2:Nat):Int)=v at *;intro z;have lu:=U.lt;have lv:=V.lt;unfold vc crs at z;have q2:=F.e2;have q4:=F.e4;have q1:=F.e1;have q3:=F.e3;have qn:=F.ne;unfold bg at q1 q2 q3 q4;unfold vl;by_cases p:g%2=0<;>by_cases q:h%2=0
  ·rw[if_pos p,if_pos q]at z e1 e2 ⊢;exfalso;simp only[]at z e1 e2;have s2:sd2 u v=0:=by unfold sd2 sd crs;grind
   have s4:sd2 v u=0:=by unfold sd2 sd crs;grind
   have el:l1 u=l1 v:=by unfold l1;rw[e1,e2]
   omega
  ·rw[if_pos p,if_neg q]at z e1 e2 ⊢;unfold rev at *;simp only[]at z e1 e2 ⊢;have d1:la (u.2.2.1-u.1) (u.2.2.2-u.2.1)=l2 u-l1 u:=by unfold l1 l2 la;omega
   have d2:la (v.1-v.2.2.1) (v.2.1-v.2.2.2)=-(l2 v-l1 v):=by unfold l1 l2 la;omega
   rw[d1,d2];exact GK (by omega) (by omega)
  ·rw[if_neg p,if_pos q]at z e1 e2 ⊢;unfold rev at *;simp only[]at z e1 e2 ⊢;have d1:la (u.1-u.2.2.1) (u.2.1-u.2.2.2)=-(l2 u-l1 u):=by unfold l1 l2 la;omega
   have d2:la (v.2.2.1-v.1) (v.2.2.2-v.2.1)=l2 v-l1 v:=by unfold l1 l2 la;omega
   rw[d1,d2];exact GU (by omega) (by omega)
  ·rw[if_neg p,if_neg q]at z e1 e2 ⊢;unfold rev at *;exfalso;simp only[]at z e1 e2;have s2:sd1 u v=0:=by unfold sd1 sd crs;grind
   have s4:sd1 v u=0:=by unfold sd1 sd crs;grind
   have el:l2 u=l2 v:=by unfold l2;rw[e1,e2]
   omega
def c8(R:Nat->Nat->Bool)(o:Option Nat)(g:Nat):Option Nat:=match o with
 |none=>some g
 |some h=>if R g h=true then some g else some h
theorem fold_min{R:Nat->Nat->Bool}{S:Nat->Prop}(tot:∀x y,S x->S y->x≠y->R x y=true\/R y x=true)(tr:∀x y z,S x->S y->S z->R x y=true->R y z=true->R x z=true) :
 ∀(l:List Nat) (h:Nat),S h->(∀x∈l,S x)->∃m,l.foldl (c8 R) (some h)=some m/\S m/\(m=h\/m∈l)/\(h=m\/R m h=true)/\∀x∈l,x=m\/R m x=true
 |[],h,sh,_=>⟨h,rfl,sh,.inl rfl,.inl rfl,fun x hx=>by cases hx⟩
 |g::l,h,sh,hl=>by
  have sg:=hl g (by simp)
  rw[Ji]
  by_cases r:R g h=true
  ·obtain⟨m,e,sm,mem,h1,h2⟩:=fold_min tot tr l g sg (fun x hx=>hl x (by simp[hx]))
   have es:c8 R (some h) g=some g:=by unfold c8;simp[r]
   rw[es]
   refine⟨m,e,sm,?_,?_,?_⟩
   ·rcases mem with z|z
    ·right;simp[z]
    ·right;simp[z]
   ·right
    rcases h1 with z|z
    ·rw[<-z];exact r
    ·exact tr _ _ _ sm sg sh z r
   ·intro x hx
    rcases Hf.mp hx with z|z
    ·subst z;exact h1
    ·exact h2 x z
  ·obtain⟨m,e,sm,mem,h1,h2⟩:=fold_min tot tr l h sh (fun x hx=>hl x (by simp[hx]))
   have es:c8 R (some h) g=some h:=by unfold c8;simp[r]
   rw[es]
   refine⟨m,e,sm,?_,h1,?_⟩
   ·rcases mem with z|z
    ·exact .inl z
    ·right;simp[z]
   ·intro x hx
    rcases Hf.mp hx with z|z
    ·subst z
     by_cases ne:x=h
     ·subst ne;exact h1
     ·rcases tot x h sg sh ne with q|q
      ·exact absurd q r
      ·rcases h1 with z|z
       ·right;rw[<-z];exact q
       ·right;exact tr _ _ _ sm sh sg z q
    ·exact h2 x z
def vW(ws:List Wl)(f g:Nat):Bool:=decide (fa ws g=fb ws f)&&decide (g≠fx f)
def gI(ws:List Wl)(f:Nat):List Nat:=(GR (2*ws.length)).filter (vW ws f)
def snF(ws:List Wl)(f g h:Nat):Bool:=snr (fd ws (fx f)) (fd ws g) (fd ws h)
def bh(ws:List Wl)(f:Nat):Nat:=((gI ws f).foldl (c8 (snF ws f)) none).getD (fx f)
theorem bA{ws:List Wl}{f g:Nat}:g∈gI ws f↔g<2*ws.length/\fa ws g=fb ws f/\g≠fx f:=by unfold gI vW;simp[GQ]
theorem gb{ws:List Wl}(hU:∀w∈ws,Un5 w)(hF:PF ws){f:Nat}(hf:f<2*ws.length):(gI ws f=[]/\bh ws f=fx f)\/(bh ws f∈gI ws f/\∀x∈gI ws f,x=bh ws f\/snF ws f (bh ws f) x=true):=by
 unfold bh;cases c:gI ws f with
 |nil=>exact .inl ⟨rfl,rfl⟩
 |cons g l=>
  right
  have sub:∀x∈g::l,x<2*ws.length/\fa ws x=fb ws f/\x≠fx f:=fun x hx=>bA.mp (by rw[c];exact hx)
  have ry:∀x,(x<2*ws.length/\fa ws x=fb ws f/\x≠fx f)->Ray (fd ws (fx f)) (fd ws x):=fun x hx=>f6 hU hF (jz hf) hx.1 (fun z=>hx.2.2 z.symm) (by rw[ez,hx.2.1])
  obtain⟨m,e,sm,mem,h1,h2⟩:=fold_min (R:=snF ws f) (S:=fun x=>x<2*ws.length/\fa ws x=fb ws f/\x≠fx f) (fun x y hx hy ne=>uh (ry x hx) (ry y hy) (f6 hU hF hx.1 hy.1 ne (by rw[hx.2.1,hy.2.1]))) (fun x y z hx hy hz a b=>uL (ry x hx) (ry y hy) (ry z hz) a b) l g (sub g (by simp)) (fun x hx=>sub x (by simp[hx]))
  rw[Ji]
  have es:c8 (snF ws f) none g=some g:=rfl
  rw[es,e]
  simp only[Option.getD_some]
  refine⟨by rcases mem with z|z<;>simp[z],fun x hx=>?_⟩
  rcases Hf.mp hx with z|z
  ·subst z;exact h1
  ·exact h2 x z
theorem AM{ws:List Wl}(hU:∀w∈ws,Un5 w)(hF:PF ws){f:Nat}(hf:f<2*ws.length):bh ws f<2*ws.length:=by
 rcases gb hU hF hf with⟨_,e⟩|⟨h,_⟩
 ·rw[e];exact jz hf
 ·exact(bA.mp h).1
theorem ju{ws:List Wl}(hU:∀w∈ws,Un5 w)(hF:PF ws){f:Nat}(hf:f<2*ws.length):fa ws (bh ws f)=fb ws f:=by
 rcases gb hU hF hf with⟨_,e⟩|⟨h,_⟩
 ·rw[e,ez]
 ·exact(bA.mp h).2.1
theorem CM{ws:List Wl}(hU:∀w∈ws,Un5 w)(hF:PF ws){f g:Nat}(hf:f<2*ws.length)(hg:g<2*ws.length)(e:bh ws f=bh ws g):f=g:=by
 by_cases ne:fx f=fx g
 ·rw[<-AJ f,ne,AJ]
 ·exfalso;have c:fb ws f=fb ws g:=by rw[<-ju hU hF hf,<-ju hU hF hg,e]
  have m1:fx g∈gI ws f:=bA.mpr ⟨jz hg,by rw[ez,c],fun z=>ne z.symm⟩;have m2:fx f∈gI ws g:=bA.mpr ⟨jz hf,by rw[ez,c],ne⟩;rcases gb hU hF hf with⟨z,_⟩|⟨k1,k2⟩
  ·rw[z]at m1;cases m1
  ·rcases gb hU hF hg with⟨z,_⟩|⟨j1,j2⟩
   ·rw[z]at m2;cases m2
   ·have n1:=(bA.mp k1).2.2;have n2:=(bA.mp j1).2.2;have s1:=(k2 _ m1).resolve_left (fun z=>n2 (by rw[<-e,<-z]));have s2:=(j2 _ m2).resolve_left (fun z=>n1 (by rw[e,<-z]));rw[<-e]at s2;exact zw (f6 hU hF (jz hf) (jz hg) ne (by rw[ez,ez,c])) s1 s2
def itb(ws:List Wl)(f:Nat):Nat->Nat
 |0=>f
 |k+1=>bh ws (itb ws f k)
def rn(ws:List Wl)(f k:Nat):List Nat:=(GR (k+1)).map (itb ws f)
def NR(ws:List Wl)(f k:Nat):Prop:=∀i j,i<j->j<=k->itb ws f i≠itb ws f j
theorem iV(ws:List Wl)(f k:Nat):(rn ws f k).length=k+1:=by simp[rn]
theorem ox(ws:List Wl)(f k:Nat):rn ws f (k+1)=rn ws f k++[itb ws f (k+1)]:=by unfold rn;rw[IU,GV];rfl
theorem tL(ws:List Wl)(f:Nat):rn ws f 0=[f]:=rfl
theorem vC:∀(m:Nat) (l:List Nat),l.Nodup->(∀x∈l,x<m)->l.length<=m
 |0,l,_,h=>by
  cases l with
  |nil=>simp
  |cons a l=>exact absurd (h a (by simp)) (by omega)
 |m+1,l,nd,h=>by
  have h1:=vC m (l.erase m) (nd.erase m) (fun x hx=>by
   have:=h x (List.mem_of_mem_erase hx)
   have ne:x≠m:=fun z=>by
    subst z
    exact absurd hx (nd.not_mem_erase)
   omega)
  have:=List.length_erase_le (a:=m) (l:=l)
  by_cases hm:m∈l
  ·have:=List.length_erase_of_mem hm;omega
  ·rw[List.erase_of_not_mem hm]at h1;omega
section
variable{ws:List Wl}(hU:∀w∈ws,Un5 w)(hF:PF ws){f:Nat}(hf:f<2*ws.length)
include hU hF hf
theorem cY:∀k,itb ws f k<2*ws.length
 |0=>hf
 |k+1=>AM hU hF (cY k)
theorem yI{k:Nat}(h:NR ws f k)(ne:bh ws (itb ws f k)≠f):NR ws f (k+1):=fun i j hij hj e=>by
 by_cases q:j<=k
 ·exact h i j hij q e
 ·have:j=k+1:=by omega
  subst this;cases i with
  |zero=>exact ne e.symm
  |succ i=>exact h i k (by omega) (Gq _) (CM hU hF (cY hU hF hf i) (cY hU hF hf k) e)
theorem tP{k:Nat}(h:NR ws f k):k+1<=2*ws.length:=by
 rw[<-iV ws f k];refine vC _ _ ?_ (fun x hx=>?_)
 ·unfold rn;rw[List.nodup_iff_pairwise_ne,List.pairwise_map];refine List.Pairwise.imp_of_mem ?_ (List.pairwise_lt_range (n:=k+1));intro a b ha hb hab;exact h a b hab (by have:=Hq.mp hb;omega)
 ·unfold rn at hx;obtain⟨i,_,rfl⟩:=Hi.mp hx;exact cY hU hF hf i
end
structure Rng(ws:List Wl)(r:List Nat):Prop where
 ex:∃f k,f<2*ws.length/\k+1<=2*ws.length/\r=rn ws f k/\bh ws (itb ws f k)=f
theorem zk(ws:List Wl)(f:Nat):NR ws f 0:=fun i j hij hj=>by omega
theorem round0{ws:List Wl}(hU:∀w∈ws,Un5 w)(hF:PF ws){f k:Nat}(hf:f<2*ws.length)(c:bh ws (itb ws f k)=f)(φ:Vc->Rat):((rn ws f k).map fun g=>φ (fb ws g)-φ (fa ws g)).sum=0:=by
 have key:∀k,((rn ws f k).map fun g=>φ (fb ws g)-φ (fa ws g)).sum=φ (fb ws (itb ws f k))-φ (fa ws f):=fun k=>by
  induction k with
  |zero=>rw[tL];simp only[Gs,Ig,Hz,List.sum_nil,Rat.add_zero];rfl
  |succ k ih=>
   rw[ox,GV,List.sum_append,ih]
   simp only[Gs,Ig,Hz,List.sum_nil]
   have:fa ws (itb ws f (k+1))=fb ws (itb ws f k):=ju hU hF (cY hU hF hf k)
   rw[this]
   grind
 rw[key,<-ju hU hF (cY hU hF hf k),c];grind
def twT(ws:List Wl)(g:Nat):Int:=(fa ws g).1*(fb ws g).2-(fb ws g).1*(fa ws g).2
def arT(t b X Y:Int)(ws:List Wl)(g:Nat):Rat:=Ma.ut t b X 1 (fa ws g).1*Ma.ut t b Y 1 (fb ws g).2-Ma.ut t b X 1 (fb ws g).1*Ma.ut t b Y 1 (fa ws g).2
theorem t9(a c d:Rat)(u v w:Nat->Rat):∀l:List Nat,(l.map fun g=>a*u g+(c*v g+d*w g)).sum=a*(l.map u).sum+(c*(l.map v).sum+d*(l.map w).sum)
 |[]=>by simp;grind
 |g::l=>by
  rw[Gs,Hz,t9 a c d u v w l,Gs,Hz,Gs,Hz,Gs,Hz]
  grind
theorem pM(u:Nat->Int):∀l:List Nat,(l.map fun g=>((u g:Int):Rat)).sum=(((l.map u).sum:Int):Rat)
 |[]=>by simp
 |g::l=>by
  rw[Gs,Hz,pM u l,Gs,Hz,IV]
theorem DX{ws:List Wl}(hU:∀w∈ws,Un5 w)(hF:PF ws){r:List Nat}(h:Rng ws r){t b X Y:Int}(hb:0<b):(r.map (arT t b X Y ws)).sum=((t:Rat)/b)*((t:Rat)/b)*(((r.map (twT ws)).sum:Int):Rat):=by
 obtain⟨f,k,hf,_,rfl,c⟩:=h.ex;have z1:=round0 hU hF hf c (fun p=>((p.1:Int):Rat));have z2:=round0 hU hF hf c (fun p=>((p.2:Int):Rat))
 have e:(arT t b X Y ws)=fun g=>(((t:Rat)/b)*((t:Rat)/b))*((twT ws g:Int):Rat)+((-(((t:Rat)/b)*((Y:Rat)/b)))*((((fb ws g).1:Int):Rat)-(((fa ws g).1:Int):Rat))+(((t:Rat)/b)*((X:Rat)/b))*((((fb ws g).2:Int):Rat)-(((fa ws g).2:Int):Rat))):=by
  funext g
  unfold arT twT;rw[cS hb,cS hb,cS hb,cS hb,IC,Hj,Hj];grind
 rw[e,t9,pM];rw[z1,z2];grind
theorem tJ(q:Rat)(B:Int)(h:(q.den:Int) ∣ B):((q.num*B.fdiv (q.den:Int):Int):Rat)=q*(B:Rat):=by
 obtain⟨k,rfl⟩:=h;have hd:(q.den:Int)≠0:=by have:=q.den_nz;omega
 have e:((q.den:Int)*k).fdiv (q.den:Int)=k:=by rw[HD _ (by omega)];exact Int.mul_ediv_cancel_left k hd
 rw[e,Hj,Hj];have hd':((q.den:Int):Rat)≠0:=fun z=>hd (by exact_mod_cast z)
 have m:q*((q.den:Int):Rat)=(q.num:Rat):=by
  have e:=Rat.num_divInt_den q
  rw[Rat.divInt_eq_div]at e
  rw[<-e]
  have e3:((q.num:Rat)/((q.den:Int):Rat))*((q.den:Int):Rat)=(q.num:Rat):=by grind
  rw[e]at e3 ⊢
  exact e3
 rw[<-m];grind
theorem yE{n d:Int}(hd:0<d):((Rat.divInt n d).den:Int) ∣ d:=by rw[Rat.den_divInt,if_neg (by omega)];have h1:d.natAbs/d.gcd n ∣ d.natAbs:=Nat.div_dvd_of_dvd (Int.ofNat_dvd_left.mp (Int.gcd_dvd_left d n));exact Int.ofNat_dvd_left.mpr h1
section
variable{X:Cx}
def DJ:R2D:=rI2 (fun _ _=>True) fun i j=>.int (Builtin.bitXor i j)
theorem Bv:OpD X (IF .BitXor) DJ:=cT (ri0 Df) fun _ _ _=>by rw[Rep]
variable{o:Expr}{to:TD}{apos a9:Pos}
end
theorem B2:∀f:Nat,f<80->Builtin.bitXor (f:Int) 1=((fx f:Nat):Int):=by decide
def diA(n:Nat)(S:Int->Bool):G5->Hp->Addr->Prop:=fun K H a=>∃kvs:List (Key×V),H a=some (.dK kvs)/\kvs.length<=n/\∀i:Int,(kvs.any fun kv=>decide (kv.1=Sum.inl i))=S i
def diM(n:Nat)(S:Int->Bool):MO:=.gen (diA n S)
section
variable{K:G5}{H H':Hp}{M:MH}{a:Addr}
theorem diA.wq{n:Nat}{S:Int->Bool}(h:diA n S K H a):pK K H a (diM n S):=⟨h,(by obtain⟨kvs,h1,_⟩:=h;rw[h1];simp),fun H' g e=>let⟨kvs,h1,h2⟩:=h;⟨kvs,e.trans h1,h2⟩⟩
theorem Abs.di{n:Nat}{S:Int->Bool}(h:Abs K H M)(e:M a=some (diM n S)):diA n S K H a:=(h a _ e).1
theorem Abs.Ds{p:Addr}(h:Abs K H M)(hp:H p=none):Abs K (upd H p (.dK [])) (ax M p (diM 0 fun _=>false)):=fun a u e=>by
 by_cases ne:a=p
 ·subst ne;rw[af]at e;cases e;exact diA.wq ⟨[],aW,Gq _,fun _=>rfl⟩
 ·rw[aj ne]at e;exact(h a u e).gH (.new hp) (aS ne)
theorem Grow.dK{kvs:List (Key×V)}{o:HO}(h:H a=some (.dK kvs)):Grow K H (upd H a o):=.put (fun xs e=>by rw[h]at e;cases e) (fun u xs e=>by rw[h]at e;cases e)
theorem Abs.EK{n:Nat}{S:Int->Bool}{kvs:List (Key×V)}{i:Int}{v:V}(h:Abs K H M)(hx:H a=some (.dK kvs))(hn:kvs.length<=n)(hS:∀i:Int,(kvs.any fun kv=>decide (kv.1=Sum.inl i))=S i) : Abs K (upd H a (.dK (putK kvs (.inl i) v))) (ax M a (diM (n+1) fun j=>decide (j=i)||S j)):=fun c u e=>by
 by_cases ne:c=a
 ·subst ne;rw[af]at e;cases e;refine diA.wq ⟨_,aW,by have:=fH kvs (.inl i) v;omega,fun j=>?_⟩;rw[dF,x9];by_cases z:j=i
  ·subst z;rw[if_pos rfl];simp
  ·rw[if_neg (fun q=>z (by injection q)),<-dF,hS];simp[z]
 ·rw[aj ne]at e;exact(h c u e).gH (.dK hx) (aS ne)
end
section
variable{X:Cx}{pos:Pos}
def BQ:TD:=fun _ M Q=>∀p,M p=none->Q (.ref p) (ax M p (diM 0 fun _=>false))
theorem yl:DE X (.Dict [] [] pos) BQ:=aZ v9 fun σ H Q zz1_0=>by obtain⟨δ,M,R,hs,hM,q,fin⟩:=zz1_0;exact(fun p hp=>fin _ _ _ _ (.new hp) (by rw[Rep]) (hM.Ds hp) (q p (hM.fresh hp)))
def AU(g:Bool->Bool)(ty td:TD):TD:=fun δ M Q=>ty δ M fun y M1=>td δ M1 fun x M2=>∃i l n S,y=.int i/\x=.ref l/\M2 l=some (diM n S)/\Q (.bl (g (S i))) M2
theorem yX{K:G5}{g:Bool->Bool}{ty td:TD}{σ:L2.St}{H:Hp}{Q:VK}(h:lift K (AU g ty td) σ H Q) : (lift K ty) σ H fun y H1=>(lift K td) σ H1 fun x H2=>∃a o,x=.ref a/\BG H2 a y o/\Q (.bl (g o.isSome)) H2:=by obtain⟨δ,M,R,hs,hM,q,fin⟩:=h;refine⟨δ,M,_,hs,hM,q,fun y M1 v H1 g1 r1 a1 q1=>⟨δ,M1,_,hs.mono g1,a1,q1,fun x M2 u H2 g2 r2 a2 zz2_0=>?_⟩⟩;obtain⟨i,l,n,S,ey,ex,hl,q2⟩:=zz2_0;subst ey ex;rw[Rep]at r1;rw[Rep]at r2;subst r1 r2;obtain⟨kvs,h1,h2,h3⟩:=a2.di hl;refine⟨l,eC kvs (.inl i),rfl,.inl ⟨kvs,.inl i,.inl h1,rfl,rfl⟩,?_⟩;rw[<-dF,h3];exact fin _ _ _ _ (g1.trans g2) (by rw[Rep]) a2 q2
variable{e1 e2:Expr}{ty td:TD}
theorem qp(hu:X.A.units+66<HG)(h1:DE X e1 ty)(h2:DE X e2 td)(hm:Jt .NotIn e2=false:=by rfl):DT X (.Compare e1 [.NotIn] [e2] pos) (tBD (AU (fun b=>!b) ty td)):=
 lQ (CN (uW (by omega) h1 h2) hm) fun σ H Q zz5_0=>by obtain⟨δ,M,R,hs,hM,q,fin⟩:=zz5_0;exact(yX (g:=fun b=>!b) (Q:=fun x H'=>∃c,x=.bl c/\Q c H') ⟨δ,M,_,hs,hM,q,fun d M' v H' g r a zz6_0=>by
  obtain⟨c,ec,z⟩:=zz6_0
  subst ec
  rw[Rep]at r;subst r
  exact⟨c,rfl,fin _ _ _ g a z⟩⟩)
def AX(td ty tv:TD):TSD:=fun B δ M=>tv δ M fun d M1=>td δ M1 fun x M2=>ty δ M2 fun y M3=>∃l i n S,x=.ref l/\y=.int i/\M3 l=some (diM n S)/\n<1000000/\B.nx δ (ax M3 l (diM (n+1) fun j=>decide (j=i)||S j))
theorem xT{o i value:Expr}{tv:TD}{pos':Pos}(hu:X.A.units+66<HG)(ho:DE X o td)(hi:DE X i ty)(hv:DE X value tv)(hs:J5 value (some (.Subscript o i pos')) pos.line X.env=pure false:=by rfl):DSt X (.Assign [.Subscript o i pos'] value pos) (AX td ty tv):=
 cD (yz (by omega) ho hi hv hs) fun D σ H zz7_0=>by obtain⟨δ,M,hs,hM,B,ok,q⟩:=zz7_0;exact(⟨δ,M,_,hs,hM,q,fun d M1 v H1 g1 r1 a1 q1=>⟨δ,M1,_,hs.mono g1,a1,q1,fun x M2 u H2 g2 r2 a2 q2=>⟨δ,M2,_,(hs.mono g1).mono g2,a2,q2,fun y M3 u3 H3 g3 r3 a3 zz8_0=>by
  obtain⟨l,i,n,S,ex,ey,hl,hn,q3⟩:=zz8_0
  subst ex ey
  rw[Rep]at r2;rw[Rep]at r3;subst r2 r3
  obtain⟨kvs,h1,h2,h3⟩:=a3.di hl
  have sz:1000000<=GD:=nbL rfl
  have g4:Grow X.K H3 (upd H3 l (.dK (putK kvs (.inl i) v))):=.dK h1
  exact⟨l,_,rfl,.inl ⟨kvs,.inl i,h1,rfl,by omega,rfl⟩,ok.nx _ _ _ _ (((g1.trans g2).trans g3).trans g4) (hs.mono (((g1.trans g2).trans g3).trans g4)) (a3.EK h1 h2 h3) q3⟩⟩⟩⟩)
end
def gN(ws:List Wl)(f:Nat)(r:List Nat):Prop:=∃kk,NR ws f kk/\bh ws (itb ws f kk)=f/\r=rn ws f kk
theorem yP{ws:List Wl}{f:Nat}{r r':List Nat}(h:gN ws f r)(h':gN ws f r'):r=r':=by
 obtain⟨k,n,e,rfl⟩:=h;obtain⟨k',n',e',rfl⟩:=h';have no:∀{a b:Nat},NR ws f b->bh ws (itb ws f a)=f->¬a<b:=fun{a b} n e l=>n 0 (a+1) (by omega) (by omega) e.symm;have h1:=no n' e;have h2:=no n e';have:k=k':=by omega
 rw[this]
def Rgs(ws:List Wl):Nat->List (List Nat)->Prop
 |0,rs=>rs=[]
 |i+1,rs=>∃qs,Rgs ws i qs/\((i∈qs.flatten/\rs=qs)\/(i∉qs.flatten/\∃r,gN ws i r/\rs=qs++[r]))
theorem xq{ws:List Wl}:∀{i:Nat} {rs rs':List (List Nat)},Rgs ws i rs->Rgs ws i rs'->rs=rs'
 |0,rs,rs',h,h'=>by rw[show rs=[]from h,show rs'=[]from h']
 |i+1,rs,rs',⟨qs,h1,h2⟩,⟨qs',h1',h2'⟩=>by
  have:=xq h1 h1'
  subst this
  rcases h2 with⟨a,rfl⟩|⟨a,r,hr,rfl⟩
  ·rcases h2' with⟨a',rfl⟩|⟨a',_⟩
   ·rfl
   ·exact absurd a a'
  ·rcases h2' with⟨a',_⟩|⟨a',r',hr',rfl⟩
   ·exact absurd a' a
   ·rw[yP hr hr']
def RL(M:MH)(ps:List Addr)(rs:List (List Nat)):Prop:=JF (fun(p:Addr) (r:List Nat)=>M p=some (.lst (r.map fun g:Nat=>D.int (g:Int)))) ps rs
theorem RL.len{M:MH}{ps:List Addr}{rs:List (List Nat)}(h:RL M ps rs):ps.length=rs.length:=by
 unfold RL at h
 induction h with
 |nil=>rfl
 |cons _ _ ih=>rw[Hv,Hv,ih]
theorem RL.mono{M M':MH}{ps:List Addr}{rs:List (List Nat)}(h:RL M ps rs)(s:∀p∈ps,∀o,M p=some o->M' p=some o):RL M' ps rs:=by
 unfold RL at *
 induction h with
 |nil=>exact .nil
 |cons a _ ih=>exact .cons (s _ (by simp) _ a) (ih fun p hp o e=>s p (by simp[hp]) o e)
theorem RL.snoc{M:MH}{ps:List Addr}{rs:List (List Nat)}{p:Addr}{r:List Nat}(h:RL M ps rs)(e:M p=some (.lst (r.map fun g:Nat=>D.int (g:Int)))):RL M (ps++[p]) (rs++[r]):=Paired.snoc h e
section
variable{X:Cx}
def p0(us:List (Int×Int))(i:Nat):Int×Int:=us.getD i (0,0)
theorem qM{us:List (Int×Int)}{i:Nat}(h:i<us.length):p0 us i∈us:=by unfold p0;rw[List.getD_eq_getElem?_getD,G8 h];exact HC h
variable{prog:GL}{w:Hk}{A:Hr}{E:G0->G6->Prop}{s:G6}
end
section
variable{X:Cx}
def plt(u v:Int×Int):Prop:=100*u.1+u.2<100*v.1+v.2
end
def jC(h:Heap)(d:Addr)(es:Array HM)(ep:Nat):Prop:=∃o,h.get? d=some o/\o.ExactDict/\o.data=.dict es ep
section
variable{prog:GL}{w:Hk}{A:Hr}{E:G0->G6->Prop}{s:G6}{d it:Addr}{es:Array HM}{ep i:Nat}
theorem jC.ty(h:jC s.heap d es ep):s.TypeIs (.ref d) "dict":=let⟨o,a,b,_⟩:=h;⟨o,a,b.1⟩
theorem jC.kept{h h':Heap}(q:jC h d es ep)(k:∀o,h.get? d=some o->h'.get? d=some o):jC h' d es ep:=let⟨o,a,b⟩:=q;⟨o,k o a,b⟩
theorem jC.lt{h:Heap}(q:jC h d es ep):d<h.objs.size:=let⟨_,a,_⟩:=q;GC a
theorem vz{Q:G0->G6->Prop}(lo:(d==Iq)=false)(hm:jC s.heap d es ep)
 (q:Q (.ref s.heap.objs.size) { s with heap:=s.heap.push { cls:=.type "dict_keyiterator",data:=.fields #[.ref d,.int 0 0,.int es.size 0,.int ep 0] } }):Gw (GG prog w) A (pyIter (.ref d)) Q E s:=by
 have hT:=hm.ty
 obtain⟨o,g1,g2,g3⟩:=hm
 refine wpAny_pyIter_slot hT F.slot_dict_iter (J7 F.slot_dict_iter hT F.entry_dict_iter ?_ (F.args_dict_iter_1 _))
 unfold JG.«dict.__iter__»
 refine cc ?_
 unfold Builtin.Dict.dictSlotNone
 refine cc (wpAny_notOrdered_dict hT ?_)
 show Gw _ _ (pure (HS d)) _ _ s
 refine G7 ?_
 show Gw _ _ (Builtin.Dict.showsAll d >>= _) _ _ s
 unfold Builtin.Dict.showsAll
 rw[if_neg (by rw[lo];exact GA)]
 refine cc (G7 (cc (wpAny_dictEntries g1 g3 (cc (wpAny_dictEpoch g1 g3 ?_)))))
 refine cc (Hg (G7 ⟨_,rfl,"dict_keyiterator",_,⟨_,Gv _ rfl,rfl⟩,Ip.lookup,?_⟩))
 simpa[rawInt]using q
theorem xy{Q:Option G0->G6->Prop}(hit:s.heap.IsKeyIter it d i es.size ep)(hm:jC s.heap d es ep)(hi:i<es.size)
 (hQ:∀h':Heap,h'.IsKeyIter it d (i+1) es.size ep->IJ it s.heap h'->Q (some es[i].key) { s with heap:=h' }):Gw (GG prog w) A (pyNext (.ref it)) Q E s:=by
 obtain⟨o,ho,hc,hd⟩:=id hit
 obtain⟨od,g1,g2,g3⟩:=hm
 have hT:=hit.typeIs
 unfold pyNext
 refine cc (wpAny_attempt (IS (name:=Ie "__next__") hT Ip (J7 Ip hT F.entry_dict_keyiterator_next ?_ (F.args_dict_keyiterator_next_1 _))))
 refine cc (G7 (cc (cc ?_)))
 first|refine cc (IL hT (G7 ?_))|refine cc (wpAny_typeNameOf_keyiter hT (G7 ?_))
 refine cc (wpAny_fieldsOf ho hd ?_)
 simp only[show Builtin.Dict_items.ownsTuple "dict_keyiterator"=false by decide,Ia,if_false]
 show Gw _ _ (if(HS d==Iv)=true then _ else _) _ _ s
 rw[if_neg (show ¬((HS d==Iv)=true)from GA)]
 refine cc (G7 (cc (wpAny_dictEntries g1 g3 ?_)))
 rw[if_neg (by simp)]
 refine cc (G7 (cc (wpAny_dictEpoch g1 g3 ?_)))
 rw[if_neg (by simp)]
 refine G7 ?_
 simp only[show ¬((i:Int)<0)from by omega,if_false,HQ,Array.getElem?_eq_getElem hi]
 refine cc ?_
 first|refine cc (IL hT (G7 ?_))|refine cc (wpAny_typeNameOf_keyiter hT (G7 ?_))
 refine cc (wpAny_isOneOf_keyiter hT ?_)
 show Gw _ _ (setField (.ref it) 1 (rawInt ((i:Int)+1)) >>= _) _ _ s
 refine cc (wpAny_setField ho hd (by simp) ?_)
 have n1:(s.heap.update it (Obj.mapFields (·.setIfInBounds 1 (rawInt ((i:Int)+1))))).IsKeyIter it d (i+1) es.size ep:=
  ⟨_,HZ _ ho (Obj.isFreed_of_fields (Obj.data_mapFields hd _)),(Obj.cls_mapFields ..).trans hc,by rw[Obj.data_mapFields hd];simp[rawInt]⟩
 refine cc (HP (cc (wpAny_isOneOf_keyiter (s:={ s with heap:=s.heap.update it (Obj.mapFields (·.setIfInBounds 1 (rawInt ((i:Int)+1)))) }) n1.typeIs ?_)))
 show Gw _ _ (pure es[i].key) _ _ _
 exact G7 (G7 ⟨_,rfl,G7 (hQ _ n1 (IA ..))⟩)
theorem zW{Q:Option G0->G6->Prop}(hh:A.handled=none)(hit:s.heap.IsKeyIter it d es.size es.size ep)(hm:jC s.heap d es ep)
 (hQ:∀h',Heap.ExtBut it s.heap h'->Q none { s with heap:=h' }):Gw (GG prog w) A (pyNext (.ref it)) Q E s:=by
 obtain⟨o,ho,hc,hd⟩:=id hit
 obtain⟨od,g1,g2,g3⟩:=hm
 have hT:=hit.typeIs
 unfold pyNext
 refine cc (wpAny_attempt (IS (name:=Ie "__next__") hT Ip (J7 Ip hT F.entry_dict_keyiterator_next ?_ (F.args_dict_keyiterator_next_1 _))))
 refine cc (G7 (cc (cc ?_)))
 first|refine cc (IL hT (G7 ?_))|refine cc (wpAny_typeNameOf_keyiter hT (G7 ?_))
 refine cc (wpAny_fieldsOf ho hd ?_)
 simp only[show Builtin.Dict_items.ownsTuple "dict_keyiterator"=false by decide,Ia,if_false]
 show Gw _ _ (if(HS d==Iv)=true then _ else _) _ _ s
 rw[if_neg (show ¬((HS d==Iv)=true)from GA)]
 refine cc (G7 (cc (wpAny_dictEntries g1 g3 ?_)))
 rw[if_neg (by simp)]
 refine cc (G7 (cc (wpAny_dictEpoch g1 g3 ?_)))
 rw[if_neg (by simp)]
 refine G7 ?_
 simp only[show ¬((es.size:Int)<0)from by omega,if_false,HQ,Array.getElem?_eq_none (Gq es.size)]
 refine cc ?_
 first|refine cc (IL hT (G7 ?_))|refine cc (wpAny_typeNameOf_keyiter hT (G7 ?_))
 show Gw _ _ (setField (.ref it) 0 .none >>= _) _ _ s
 refine cc (wpAny_setField ho hd (by simp) ?_)
 show Gw _ _ (newExc (.type "StopIteration") [] >>= _) _ _ _
 refine cc ?_
 simp only[newExc,newTuple]
 refine cc (Hg ?_ (by size_fits))
 refine cc (m:=firstArgMember _ _) (wpAny_of_eq (a:=Iv) (by first|rfl|(simp only[firstArgMember];rfl)) ?_)
 refine Hg ?_ (by size_fits)
 simp only[raiseNew]
 refine cc (wpAny_handled ?_)
 rw[show A.in1.handled=none from hh]
 refine cc (G7 (wpAny_throw ?_))
 refine cc (wpAny_isInstance (T:="StopIteration") (b:=true) ⟨_,Gv _ rfl,rfl⟩ isSubtype_stop ?_)
 exact G7 (hQ _ (((IA ..).extBut.push _).push _))
theorem uG(hh:A.handled=none)(I d:Addr)(hne:d≠I)(es:Array HM)(ep:Nat):Walks prog w A I [I,d] [I] es.size (fun i v=>∃e,es[i]?=some e/\v=e.key) (fun i h=>h.IsKeyIter I d i es.size ep/\jC h d es ep) where
 sub:=fun b hb=>by simp at hb;simp[hb]
 frame:=fun _ _ _ st hk=>⟨st.1.at fun o e=>hk I (by simp) o e,st.2.kept fun o e=>hk d (by simp) o e⟩
 item:=fun i s Q E hi st hQ=>xy st.1 st.2 hi fun h' n1 sb=>hQ _ h' s.toks ⟨es[i],by simp[hi],rfl⟩ ⟨n1,st.2.kept fun o e=>(sb.2 d hne).trans e⟩ fun b o hb e=>sb.extBut b o (fun h=>hb (by simp[h])) e
 done:=fun s Q E st hQ=>zW hh st.1 st.2 fun h' he=>hQ h' s.toks fun b o hb e=>he b o (fun h=>hb (by simp[h])) e
 self:=fun _ _ _ _ st hQ=>wpAny_pyIter_keyiter st.1 hQ
theorem zg(lo:(d==Iq)=false):PySem.W.KdlSrc prog w "dict" d d es.size (fun i v=>∃e,es[i]?=some e/\v=e.key) (fun h=>jC h d es ep) where
 type:=fun _ hm=>hm.ty
 there:=fun _ hm=>⟨hm.lt,hm.lt⟩
 keep:=fun _ _ hm hk=>hm.kept fun o e=>hk d (.inl rfl) o e
 notList:=by decide
 notTuple:=by decide
 hint:=fun _ _ _ _ hm hq=>PySem.W.kdl_hint_dict hm.ty hq
 iter:=fun _ _ hh hm=>⟨_,_,(fun _ _ hq=>vz lo hm hq),uG hh _ d (Hh hm.lt) es ep,⟨⟨_,Gv _ rfl,rfl,rfl⟩,hm.kept fun o e=>G9 _ e⟩⟩
end
section
variable{X:Cx}
theorem ym{P:GL}{w:Hk}{xs:List SpE}{ys:List (SpK×Addr×G0)}(r:JF PrS xs ys):(ys.map (entryOfKey (dS P w))).map (·.key)=xs.map fun x=>HS x.2.1:=by
 induction r with
 |nil=>rfl
 |cons h t ih=>simp only[Gs,ih,h.2.1];rfl
theorem nh:∀xs:List SpE,Vals (xs.map fun x=>V.ref x.2.1) (xs.map fun x=>HS x.2.1)
 |[]=>.nil
 |x::xs=>.cons rfl (nh xs)
theorem qf(hc:X.calm=true):cu X (.type "list") (fun vs H Q=>∃p xs,vs=[.ref p]/\H p=some (.ext (bP X.prog X.w p xs))/\∀l,H l=none->Q (.ref l) (upd H l (.lst (xs.map fun x=>V.ref x.2.1)))):=by
 intro pins s σ H vs us Q I r z0;obtain⟨p,xs,ev,hp,q⟩:=z0;subst ev;obtain⟨u,rfl,ru⟩:=vals1 r;cases ru;obtain⟨⟨h1,h2,h3,ys,r1,o,es,ep,q1,q2,q3,q4⟩,_⟩:=I.hok p _ hp;have hz:es.size=xs.length:=by rw[<-Array.length_toList,q4,Gx,jS r1]
 refine PySem.W.kdl_call (zg (es:=es) (ep:=ep) h1) (I.ok.hd hc) ⟨o,q1,q2,q3⟩ (by rw[hz];exact h2) fun h' tk acc c kp hl it=>?_
 have ea:acc.toList=xs.map fun x=>HS x.2.1:=by
  rw[<-ym (P:=X.prog) (w:=X.w) r1,<-q4];apply List.ext_getElem?;intro i;by_cases hi:i<es.size
  ·have hi':i<acc.size:=by rw[it.1];exact hi
   obtain⟨e,e1,e2⟩:=it.2 i acc[i] (by simp[hi']);simp[hi',hi]at e1 ⊢;rw[e2,<-e1]
  ·have hi':¬i<acc.size:=by rw[it.1];exact hi
   simp[hi,hi']
 refine⟨.ref s.heap.objs.size,_,I.laid (t':=tk) kp (Gq _) (show cn X.prog X.w _ h' _ (.lst _)from⟨by rw[Gx];exact h2,_,c,nh xs,?_⟩),rfl,q _ (I.hok.fresh (Gq _))⟩;rw[<-ea,Array.toArray_toList];exact hl
def Cm:RC:=fun ds M Q=>wC ds M Q\/∃l kvs,ds=[.ref l]/\M l=some (dsM kvs)/\∀p,M p=none->Q (.ref p) (ax M p (.lst (kvs.map fun x=>spD x.1)))
theorem mB{K:G5}{H:Hp}:∀{kvs:SpT} {xs:List SpE},xs.map (·.1)=kvs.map (·.1)->(∀x∈xs,cV K H x.2.1 x.1)->aD K H (kvs.map fun x=>spD x.1) (xs.map fun x=>V.ref x.2.1)
 |[],[],_,_=>by rw[Ig,Ig];exact aD.nil
 |y::kvs,x::xs,h,k=>by
  rw[Gs,Gs]at h
  injection h with e1 e2
  rw[Gs,Gs]
  exact aD.cons (by rw[<-e1];exact yn (k x (by simp))) (mB e2 fun z hz=>k z (by simp[hz]))
 |[],_::_,h,_=>by cases h
 |_::_,[],h,_=>by cases h
theorem oX(hc:X.calm=true):eK X (.type "list") Cm:=by
 intro pins s σ H vs us Q I rv z0;obtain⟨ds,M,R,rs,a,q,fin⟩:=z0;rcases q with q|⟨l,kvs,ed,hl,q⟩
 ·exact ze pins s σ H vs us Q I rv ⟨ds,M,R,rs,a,q,fin⟩
 ·subst ed;obtain⟨v,rfl,r⟩:=cJ rs;rw[Rep]at r;subst r;obtain⟨xs,h1,h2,h3,h4⟩:=a.dsp hl;exact qf hc pins s σ H _ us Q I rv ⟨_,xs,rfl,h1 _ _,fun z hz=>fin (.ref z) _ _ _ (.new hz) (by rw[Rep]) (a.l9 hz (mB h2 h3)) (q z (a.fresh hz))⟩
end
def gsp(t b X Y:Int)(u:Vc):D:=Ma.spt (Ma.ut t b X 1 u.1) (Ma.ut t b Y 1 u.2)
def gk(t b X Y:Int)(u:Vc):SpK:=((Ma.ut t b X 1 u.1).num,((Ma.ut t b X 1 u.1).den:Int),(Ma.ut t b Y 1 u.2).num,((Ma.ut t b Y 1 u.2).den:Int))
theorem rN(t b X Y:Int)(u:Vc):gsp t b X Y u=spD (gk t b X Y u):=rfl
theorem qR{t b X Y:Int}(ht:0<t)(hb:0<b){p q:Vc}(h:gk t b X Y p=gk t b X Y q):p=q:=by unfold gk at h;injection h with h1 h;injection h with h2 h;injection h with h3 h4;have e1:Ma.ut t b X 1 p.1=Ma.ut t b X 1 q.1:=Rat.ext h1 (by exact_mod_cast h2);have e2:Ma.ut t b Y 1 p.2=Ma.ut t b Y 1 q.2:=Rat.ext h3 (by exact_mod_cast h4);have f1:=(Ma.dz ht hb (by decide) (by decide)).mp e1;have f2:=(Ma.dz ht hb (by decide) (by decide)).mp e2;exact Prod.ext (by omega) (by omega)
def B20(u:Vc):Prop:=(0<=u.1/\u.1<=20)/\(0<=u.2/\u.2<=20)
def ea(w:Wl):Vc:=(w.1,w.2.1)
def eb(w:Wl):Vc:=(w.2.2.1,w.2.2.2)
theorem Un5.ea{w:Wl}(h:Un5 w):B20 (ea w):=⟨h.a,h.b⟩
theorem Un5.eb{w:Wl}(h:Un5 w):B20 (eb w):=⟨h.c,h.d⟩
def fR(us:List Vc)(u:Vc):List Vc:=if u∈us then us else us++[u]
theorem qd{us:List Vc}{u v:Vc}:v∈fR us u↔v∈us\/v=u:=by
 unfold fR;split
 ·constructor
  ·exact .inl
  ·rintro(h|rfl)
   ·exact h
   ·assumption
 ·simp
theorem tF{us:List Vc}{u:Vc}(h:us.Nodup):(fR us u).Nodup:=by
 unfold fR;split
 ·exact h
 ·rename_i hn;rw[List.nodup_append];refine⟨h,by simp,fun a ha b hb e=>?_⟩;have:b=u:=by simpa using hb
  subst this;subst e;exact hn ha
theorem k5(us:List Vc)(u:Vc):(fR us u).length<=us.length+1:=by
 unfold fR;split
 ·omega
 ·simp
def cnr(ws:List Wl):Nat->List Vc
 |0=>[]
 |i+1=>match ws[i]? with
  |some w=>fR (fR (cnr ws i) (ea w)) (eb w)
  |none=>cnr ws i
theorem qX(ws:List Wl):∀i,(cnr ws i).Nodup
 |0=>List.nodup_nil
 |i+1=>by
  unfold cnr
  split
  ·exact tF (tF (qX ws i))
  ·exact qX ws i
theorem oo(ws:List Wl):∀i,(cnr ws i).length<=2*i
 |0=>Gq _
 |i+1=>by
  have ih:=oo ws i
  unfold cnr
  split
  ·have h1:=k5 (fR (cnr ws i) (ea ‹_›)) (eb ‹_›)
   have h2:=k5 (cnr ws i) (ea ‹_›)
   omega
  ·omega
theorem jL{ws:List Wl}{u:Vc}:∀i,u∈cnr ws i↔∃j w,j<i/\ws[j]?=some w/\(u=ea w\/u=eb w)
 |0=>by simp[cnr]
 |i+1=>by
  have ih:=jL (ws:=ws) (u:=u) i
  unfold cnr
  split
  ·rename_i w hw
   rw[qd,qd,ih]
   constructor
   ·rintro((⟨j,v,h1,h2,h3⟩|h)|h)
    ·exact⟨j,v,by omega,h2,h3⟩
    ·exact⟨i,w,by omega,hw,.inl h⟩
    ·exact⟨i,w,by omega,hw,.inr h⟩
   ·rintro⟨j,v,h1,h2,h3⟩
    by_cases e:j=i
    ·subst e
     rw[hw]at h2;cases h2
     rcases h3 with h3|h3
     ·exact .inl (.inr h3)
     ·exact .inr h3
    ·exact .inl (.inl ⟨j,v,by omega,h2,h3⟩)
  ·rename_i hw
   rw[ih]
   constructor
   ·rintro⟨j,v,h1,h2,h3⟩
    exact⟨j,v,by omega,h2,h3⟩
   ·rintro⟨j,v,h1,h2,h3⟩
    by_cases e:j=i
    ·subst e;rw[hw]at h2;cases h2
    ·exact⟨j,v,by omega,h2,h3⟩
theorem Ff{ws:List Wl}(hU:∀w∈ws,Un5 w){i:Nat}:∀u∈cnr ws i,B20 u:=fun u hu=>by
 obtain⟨j,w,_,h2,h3⟩:=(jL i).mp hu;have:=hU w (Gu h2);rcases h3 with rfl|rfl
 ·exact this.ea
 ·exact this.eb
def cdT(t b X Y:Int)(us:List Vc):SpT:=us.map fun u=>(gk t b X Y u,D.bl true)
theorem zU{t b X Y:Int}(ht:0<t)(hb:0<b)(us:List Vc)(u:Vc):putD (cdT t b X Y us) (gk t b X Y u) (.bl true)=cdT t b X Y (fR us u):=by
 have ea:((cdT t b X Y us).any fun x=>decide (x.1=gk t b X Y u))=decide (u∈us):=by
  rw[ID,List.any_eq_true,decide_eq_true_eq];constructor
  ·rintro⟨x,hx,e⟩;obtain⟨v,hv,rfl⟩:=Hi.mp hx;have:gk t b X Y v=gk t b X Y u:=by simpa using e
   rw[<-qR ht hb this];exact hv
  ·intro h;exact⟨_,Hi.mpr ⟨u,h,rfl⟩,by simp⟩
 unfold putD fR;rw[ea];by_cases h:u∈us
 ·rw[if_pos (by simpa using h),if_pos h];unfold cdT;rw[List.map_map];refine IX fun v hv=>?_;dsimp only[Function.comp];split
  ·rfl
  ·rfl
 ·rw[if_neg (by simpa using h),if_neg h];unfold cdT;rw[GV];rfl
theorem wQ{a c:List Vc}(hp:a.Perm c)(ha:a.Pairwise plt)(hc:c.Pairwise plt):a=c:=List.Perm.eq_of_pairwise (le:=plt) (fun x y _ _ h1 h2=>by unfold plt at h1 h2;omega) ha hc hp
theorem C6{ps:List Vc}{u:Vc}{j:Nat}(h:ps.Pairwise plt)(hj:j<=ps.length)(h1:∀i,i<j->plt (p0 ps i) u)(h2:∀i,j<=i->i<ps.length->plt u (p0 ps i)):(gi ps j u).Pairwise plt/\(gi ps j u).Perm (u::ps):=by
 constructor
 ·unfold gi;rw[List.pairwise_append]
  have lt:∀x∈ps.take j,plt x u:=fun x hx=>by
   obtain⟨i,hi,rfl⟩:=List.getElem_of_mem hx
   have hi':i<j/\i<ps.length:=by rw[J6]at hi;omega
   have:=h1 i hi'.1
   unfold p0 at this
   simpa[hi'.2]using this
  have gt:∀x∈ps.drop j,plt u x:=fun x hx=>by
   obtain⟨i,hi,rfl⟩:=List.getElem_of_mem hx
   have hi':j+i<ps.length:=by rw[List.length_drop]at hi;omega
   have:=h2 (j+i) (by omega) hi'
   unfold p0 at this
   simpa[hi']using this
  refine⟨h.sublist (List.take_sublist _ _),List.pairwise_cons.mpr ⟨gt,h.sublist (List.drop_sublist _ _)⟩,fun x hx y hy=>?_⟩;rcases Hf.mp hy with rfl|hy
  ·exact lt x hx
  ·have a1:=lt x hx;have a2:=gt y hy;unfold plt at a1 a2 ⊢;omega
 ·unfold gi;have:(ps.take j++u::ps.drop j).Perm (u::(ps.take j++ps.drop j)):=List.perm_middle
  rwa [List.take_append_drop]at this
theorem xU{t b X Y:Int}(ht:0<t)(hb:0<b){u v:Vc}(hu:B20 u)(hv:B20 v):Ma.ah (Ma.ut t b X 1 u.1) (Ma.ut t b Y 1 u.2) (Ma.ut t b X 1 v.1) (Ma.ut t b Y 1 v.2)↔plt u v:=lO ht hb hu.2 hv.2
theorem B20.bx{t b X Y:Int}(S:Scl t b X Y){u:Vc}(h:B20 u):Ma.Bq 200 (Ma.ut t b X 1 u.1):=S.bx (by decide) (by have:=h.1;omega)
theorem B20.by'{t b X Y:Int}(S:Scl t b X Y){u:Vc}(h:B20 u):Ma.Bq 200 (Ma.ut t b Y 1 u.2):=S.by' (by decide) (by have:=h.2;omega)
theorem yW{u v:Vc}(hu:B20 u)(hv:B20 v)(ne:u≠v)(h:¬plt u v):plt v u:=by
 have h1:=hu.2;have h2:=hv.2;unfold plt at h ⊢;by_cases e:100*u.1+u.2=100*v.1+v.2
 ·exact absurd (Prod.ext (by omega) (by omega)) ne
 ·omega
def gP(t b X Y:Int)(u:Vc):Jx:=oB (gk t b X Y u)
theorem tM{M:MH}(t b X Y:Int):∀us:List Vc,Pds M (us.map (gsp t b X Y)) (us.map (gP t b X Y))
 |[]=>.nil
 |u::us=>.cons (Pd.of rfl) (tM t b X Y us)
theorem sf(t b X Y:Int):∀us:List Vc,Jp (us.map (gP t b X Y))=true
 |[]=>rfl
 |u::us=>by rw[Gs,Jp,sf t b X Y us];rfl
section
variable{X:Cx}{pins:List (Addr×Obj)}{σ:L2.St}{H:Hp}{s:G6}{a b:Addr}{k:SpK}
theorem xN{A:Hr}{E:G0->G6->Prop}{Q:Unit->G6->Prop}{xs:List SpE}{v:V}{u:G0}(hu:A.units+8<HG)(I:L2.Inv X pins σ H s)(e:H a=some (.ext (bP X.prog X.w a xs)))(hk:∀x∈xs,cV X.K H x.2.1 x.1)(hb:cV X.K H b k)(rv:RelV v u)(hl:xs.length<GD)
 (h:∀s',L2.Inv X pins σ (upd H a (.ext (bP X.prog X.w a (fg xs k b v)))) s'->Q () s'):Gw (GG X.prog X.w) A (dictSet a (.ref b) u) Q E s:=by
 obtain⟨hd,hz,ys,r,dd⟩:=nB I e hk
 refine wpAny_dictSet_heap (knd:=dS X.prog X.w) (hsz:=by rw[<-jS r];exact hz) (show A.units+4<HG by omega) (oU I hb) dd fun h' dd' hs=>h _ ?_
 obtain⟨q,es,ep,hq,q2,q3,q4,_,q5⟩:=dd'
 refine gY I (by rw[e];exact True.intro) hs ⟨q,hq⟩ ⟨⟨hd,?_,?_,_,gc r k b rv,q,es,ep,hq,q2,q3,q4⟩,⟨q,hq⟩,fun h1 h2 x y=>jO h1 h2 x y⟩
 ·have:=lD xs k b v;omega
 ·rw[<-iK (gc r k b rv)];exact q5
end
theorem rL{prog:GL}{w:Hk}{A:Hr}{R:Result->G6->Prop}{s:G6}{kx vx target iter:Expr}{ifs:List Expr}{scope:Ja}{pos:Pos}{it:G0}{D:Addr}{env:Env}(J:Nat->G6->Prop)
 (step:∀n s,J n s->Gw (GG prog w) A (pyNext it) (fun r s1=>match r with
  |none=>R (.ok .next) s1
  |some v=>Gw (GG prog w) A (IB target it v) (fun _ s2=>Gw (GG prog w) A (Jw target env v) (fun _ s3=>
   Gw (GG prog w) A (forIn ifs true fun c r=>if r=true then do let ok <-isTrue c env (eval c env);pure (IT ok)else pure (IT r)) (fun ok s4=>
    if ok=true then Gw (GG prog w) A (eval kx env) (fun kv s5=>Gw (GG prog w) A (eval vx env) (fun vv s6=>Gw (GG prog w) A (dictSet D kv vv) (fun _ s7=>∃m,m<n/\J m s7) NoE s6) NoE s5) NoE s4
    else ∃m,m<n/\J m s4) NoE s3) NoE s2) NoE s1) NoE s)
 (n:Nat) (h:J n s):IQ (GG prog w) A (.compLoop (.DictComp kx vx [⟨target,iter,ifs,0⟩] scope pos) 0 it (.ref D) env) R s:=by
 have no:∀{E:G0->G6->Prop} e s',NoE e s'->E e s':=fun _ _ z=>z.elim
 refine codeAny_loop rfl J (fun n s hJ=>?_) n h
 show Gw _ _ (Sem.onRaise (compTurn (.DictComp kx vx [⟨target,iter,ifs,0⟩] scope pos) 0 it (.ref D) env) (fun x=>do noteFrame x env;theTreesLotGoes x)) _ _ s
 refine wpAny_noted ?_
 rw[compTurn_dict]
 refine cc (Ik (cc (GB (step n s hJ) (fun r s1 h1=>?_) no)))
 cases r with
 |none=>exact G7 h1
 |some v=>
  refine cc (GB h1 (fun _ s2 h2=>cc (GB h2 (fun _ s3 h3=>cc (GB h3 (fun ok s4 h4=>?_) no)) no)) no)
  cases ok with
  |false=>exact G7 ⟨rfl,h4⟩
  |true=>exact cc (cc (GB h4 (fun kv s5 h5=>cc (HP (GB h5 (fun vv s6 h6=>cc (Ik (HP (GB h6 (fun _ s7 h7=>G7 ⟨rfl,h7⟩) no)))) no))) no))
def xx(X:Cx)(js:List Nat)(own:Own)(tc:TT)(tk te:TE)(σ:L2.St)(J:It)(H1:Hp)(Q:VK):Prop:=∀D,H1 D=none->∃W:Nat->Nat->Hp->Prop,(∃m,W 0 m (upd H1 D (.ext (bP X.prog X.w D []))))/\∀i m H,W i m H->
 (J.stop i H/\Q (.ref D) H)\/(J.go i H/\∀y H',J.yld i H y H'->∃os,own y H' os/\tc (cσ os js σ) H' fun b H2=>if b=true then
  tk (cσ os js σ) H2 fun kv H3=>te (cσ os js σ) H3 fun v H4=>∃b k xs,kv=.ref b/\H4 D=some (.ext (bP X.prog X.w D xs))/\(∀x∈xs,cV X.K H4 x.2.1 x.1)/\cV X.K H4 b k/\xs.length<GD/\∃m',m'<m/\W (i+1) m' (upd H4 D (.ext (bP X.prog X.w D (fg xs k b v))))else ∃m',m'<m/\W (i+1) m' H2)
def r9(X:Cx)(js:List Nat)(own:Own)(wi:TI)(tc:TT)(tk te:TE):TE:=fun σ H Q=>wi σ H fun J H1=>xx X js own tc tk te σ J H1 Q
section
variable{X:Cx}{xs:List Str}{tg:Expr}{pos:Pos}{js:List Nat}{scope:Ja}{kx vx iter:Expr}{ifs:List Expr}{tk te:TE}{tc:TT}{g:TG}{own:Own}{wi:TI}{pins:List (Addr×Obj)}{σ:L2.St}{H:Hp}{s:G6}{fp:List Addr}{it:Addr}{tn:Nat->Heap->Prop}{J:It}
theorem uH(c:CScope X xs js scope)(hc:X.calm=true)(hG:TgOk xs.length g own)(hg:∀C s H fp,PG (cxC X xs js scope C s H fp) tg g)(ht:∀C s H fp,PTs (cxC X xs js scope C s H fp) ifs tc)(hk:∀C s H fp,PE (cxC X xs js scope C s H fp) kx tk)(he:∀C s H fp,PE (cxC X xs js scope C s H fp) vx te)(hu:X.A.units+8<HG)
 {R:G0->Addr->Result->G6->Prop} {E:G0->G6->Prop} {Q:VK}
 (I:Inv X pins σ H s) (T:Turn X.prog X.w X.K tg J fp it tn) (st:tn 0 s.heap) (hf:∀b∈fp,cC X pins H b) (wc:xx X js own tc tk te σ J H Q)
 (hR:∀D C H' s',Inv X pins σ H' s'->cC X pins H' C->(∃m,s'.heap.Ns C m)->Q (.ref D) H'->R (.ref D) C (.ok .next) s') :
 Gw (GG X.prog X.w) X.A newDict (fun acc s₃=>Gw (GG X.prog X.w) X.A (newFunctionEnv scope X.env.globals (eD scope.names X.env) [] X.env.qual none .none (some X.env)) (fun cenv s₄=>
  IQ (GG X.prog X.w) X.A (.compStart (.DictComp kx vx [⟨tg,iter,ifs,0⟩] scope pos) 0 (.ref it) acc { cenv with scope:=relabel scope X.env }) (R acc cenv.locals) s₄) E s₃) E s:=by
 have hfp:∀b∈fp,b<s.heap.objs.size:=fun b hb=>let⟨o,e,_⟩:=T.obj 0 _ st b hb;GC e
 have hD:H s.heap.objs.size=none:=I.hok.fresh (Gq _)
 refine Hg (nV ?_)
 generalize hh:s.heap.push { cls:=.type "dict",data:=.dict #[] }=h3
 generalize hh1:pushCells (({ s with heap:=h3 }:G6).heap.push { cls:=.type "dict",data:=.dict #[] }) scope.names=h₁
 have k3:∀b o,s.heap.get? b=some o->h3.get? b=some o:=fun b o e=>by rw[<-hh];exact G9 _ e
 have I3:Inv X pins σ (upd H s.heap.objs.size (.ext (bP X.prog X.w s.heap.objs.size []))) { s with heap:=h3 }:=by
  rw[<-hh];exact si I
 have hf3:∀b∈fp,cC X pins (upd H s.heap.objs.size (.ext (bP X.prog X.w s.heap.objs.size []))) b:=fun b hb=>⟨by rw[aS (Hh (hfp b hb))];exact(hf b hb).1,(hf b hb).2⟩
 have hsz:h3.objs.size=s.heap.objs.size+1:=by rw[<-hh,I0]
 have hfp3:∀b∈fp,b<h3.objs.size:=fun b hb=>by rw[hsz];exact Nat.lt_succ_of_lt (hfp b hb)
 have k4:∀b o,h3.get? b=some o->h₁.get? b=some o:=fun b o e=>by rw[<-hh1];exact pushCells_keeps _ _ b o (G9 _ e)
 have I4:=kZ c I3 hf3 hfp3 (h':=h₁) hh1.symm k4
 obtain⟨W,⟨m0,w0⟩,turn⟩:=wc _ hD
 have st4:tn 0 h₁:=T.keep 0 _ _ st fun b hb o e=>k4 b o (k3 b o e)
 generalize hX:cxC X xs js scope h3.objs.size { s with heap:=h3 } (upd H s.heap.objs.size (.ext (bP X.prog X.w s.heap.objs.size []))) fp=X' at I4
 have fok:∀{pins':List (Addr×Obj)} {H':Hp} {σ':L2.St} {s':G6},Inv X' [] σ' H' s'->(∀b∈fp,H' b=none)->∀b∈fp,cC X' [] H' b:=fun{pins' H' σ' s'} J' hn b hb=>by
  subst hX
  obtain⟨a1,a2⟩:=J'.ok.exf b hb
  exact⟨hn b hb,a1,J'.ok.exfs b hb,.inl hb,a2,fun p hp=>absurd (show p∈([]:List (Addr×Obj))from hp) (by simp)⟩
 have loop:IQ (GG X.prog X.w) X.A (.compLoop (.DictComp kx vx [⟨tg,iter,ifs,0⟩] scope pos) 0 (.ref it) (.ref s.heap.objs.size) (jD scope h3.objs.size X.env)) (R (.ref s.heap.objs.size) h3.objs.size)
  { s with heap:=h₁ }:=by
  refine rL (fun n s'=>∃i os H',os.length=xs.length/\Inv X' [] (cσ os js σ) H' s'/\tn i s'.heap/\(∀b∈fp,H' b=none)/\W i n H') ?_ m0 ⟨0,_,_,by simp,I4,st4,fun b hb=>(hf3 b hb).1,w0⟩
  rintro n s5 ⟨i,os,H5,hl5,I5,st5,fr5,w5⟩
  rcases turn i n H5 w5 with⟨stop,q⟩|⟨go,step⟩
  ·subst hX
   refine GB (T.done (cxC X xs js scope h3.objs.size { s with heap:=h3 } (upd H s.heap.objs.size (.ext (bP X.prog X.w s.heap.objs.size []))) fp) rfl rfl rfl hc i [] s5 _ H5 NoE I5 (fok (pins':=[]) I5 fr5) st5 stop) (fun r s6 zz1_0=>?_) fun _ _ z=>z
   obtain⟨hr,I6⟩:=zz1_0
   subst hr
   refine hR _ _ H5 s6 (I3.vF I6.os I6.base I6.hok I6.bare fun b hb=>⟨(hf3 b hb).2.2.2.1,(hf3 b hb).2.1,(hf3 b hb).2.2.2.2.1,(hf3 b hb).2.2.2.2.2⟩) (I3.oY (Gq _) I6.free) (let⟨m,hm,_⟩:=I6.loc;⟨m,hm⟩) q
  ·subst hX
   refine GB (T.item (cxC X xs js scope h3.objs.size { s with heap:=h3 } (upd H s.heap.objs.size (.ext (bP X.prog X.w s.heap.objs.size []))) fp) rfl rfl rfl hc i [] s5 _ H5 NoE I5 (fok (pins':=[]) I5 fr5) st5 go) (fun r s6 zz2_0=>?_) fun _ _ z=>z
   obtain⟨u,hr,h6⟩:=zz2_0
   subst hr
   refine GB h6 (fun _ s7 zz3_0=>?_) fun _ _ z=>z
   obtain⟨y,H7,I7,r7,y7,st7,fr7⟩:=zz3_0
   have I7':=I7.pinned (fok (pins':=[]) I7 fr7) (T.obj _ _ st7)
   obtain⟨os8,ow8,q8⟩:=step y H7 y7
   have l8:=hG.len _ _ _ ow8
   refine GB (hg _ _ _ _ _ s7 _ H7 y u (fun σ' H'=>σ'=cσ os8 js σ/\H'=H7) I7' r7 (hG.run y H7 os _ os8 _ hl5 ow8 ⟨rfl,rfl⟩)) (fun _ s8 zz4_0=>?_) fun _ _ z=>z
   obtain⟨σ8,H8,I8,e8,e8'⟩:=zz4_0
   subst e8 e8'
   refine GB (ht _ _ _ _ _ s8 _ _ _ I8 q8) (fun ok s9 zz5_0=>?_) fun _ _ z=>z
   obtain⟨H9,I9,q9⟩:=zz5_0
   have back:∀{m':Nat} {H10:Hp} {s10:G6},Inv (cxC X xs js scope h3.objs.size { s with heap:=h3 } (upd H s.heap.objs.size (.ext (bP X.prog X.w s.heap.objs.size []))) fp) ([]++fQ fp s7.heap) (cσ os8 js σ) H10 s10->m'<n->W (i+1) m' H10->
    ∃m,m<n/\∃i os H',os.length=xs.length/\Inv (cxC X xs js scope h3.objs.size { s with heap:=h3 } (upd H s.heap.objs.size (.ext (bP X.prog X.w s.heap.objs.size []))) fp) [] (cσ os js σ) H' s10/\tn i s10.heap/\(∀b∈fp,H' b=none)/\W i m H':=fun{m' H10 s10} I10 hm' w10=>by
    refine⟨m',hm',i+1,os8,H10,l8,I10.dN,T.keep _ _ _ st7 fun b hb o e=>(I10.pin (b,o) (GI _ (GI _ (bD hb e)))).1,fun b hb=>?_,w10⟩
    obtain⟨o',e,d⟩:=T.obj _ _ st7 b hb
    exact(I10.pin (b,o') (GI _ (GI _ (bD hb e)))).2.1
   cases ok with
   |false=>
    rw[if_neg GA]at q9 ⊢
    obtain⟨m',hm',w9⟩:=q9
    exact back I9 hm' w9
   |true=>
    rw[if_pos rfl]at q9 ⊢
    refine GB (hk _ _ _ _ _ s9 _ _ _ I9 q9) (fun kv s10 zz6_0=>?_) fun _ _ z=>z
    obtain⟨kk,H10,I10,r10,q10⟩:=zz6_0
    refine GB (he _ _ _ _ _ s10 _ _ _ I10 q10) (fun v s11 zz7_0=>?_) fun _ _ z=>z
    obtain⟨vv,H11,I11,r11,b,k,ys,ek,hd11,hks,hkb,hl11,m',hm',w11⟩:=zz7_0
    subst ek
    cases r10
    exact xN (X:=cxC X xs js scope h3.objs.size { s with heap:=h3 } (upd H s.heap.objs.size (.ext (bP X.prog X.w s.heap.objs.size []))) fp) hu I11 hd11 hks hkb r11 hl11 fun s12 I12=>back I12 hm' w11
 exact codeAny_compStart_dict loop (T.self X.A 0 _ _ _ st4 loop)
theorem yr{i:Nat}{y:Str}{py spos:Pos}(c:CScope X xs js scope)(hc:X.calm=true)(hN:X.N.Nodup)(hi:PI X tg iter wi)(hG:TgOk xs.length g own)(hg:∀C s H fp,PG (cxC X xs js scope C s H fp) tg g)(ht:∀C s H fp,PTs (cxC X xs js scope C s H fp) ifs tc)(hk:∀C s H fp,PE (cxC X xs js scope C s H fp) kx tk)(he:∀C s H fp,PE (cxC X xs js scope C s H fp) vx te)(hu:X.A.units+8<HG)(hy:X.N[i]?=some y)(hl:X.env.scope.names.lookup y=some .local)
 (hsw:J5 (.DictComp kx vx [⟨tg,iter,ifs,0⟩] scope pos) (some (.Name y py)) spos.line X.env=pure true) (hs:∀x,Hb iter X.env x=pure x:=by intro _;rfl) :
 PS X (.Assign [.Name y py] (.DictComp kx vx [⟨tg,iter,ifs,0⟩] scope pos) spos) (zA (r9 X js own wi tc tk te) (fo i)):=by
 intro pins s σ H B I h
 rw[exec_Assign_Name_used _ _ _ _ hsw]
 refine cc (Ik (cc ?_))
 show Gw _ X.A (do let _ <-comprehension (.DictComp kx vx [⟨tg,iter,ifs,0⟩] scope pos) scope X.env _ newDict false (eval iter X.env) (some (Jw (.Name y py) X.env))) _ _ s
 refine cc (GB (wpAny_comprehension_free (use:=some (Jw (.Name y py) X.env)) (Q:=fun _ s'=>SP X pins B .next s') rfl hs (c.yV I.ok) c.kind c.names
  (thn (hi pins s σ H _ I h) fun v s1 h1=>thn h1 fun itv s2 ⟨it,fp,tn,J,H2,e,I2,T,st,f2,w⟩=>?_)) (fun _ s' hq=>G7 (G7 hq)) fun _ _ e=>e)
 subst e
 refine uH (R:=fun acc C=>compPost (GG X.prog X.w) X.A X.xe (some (Jw (.Name y py) X.env)) (fun _ s'=>SP X pins B .next s') acc C) c hc hG hg ht hk he hu I2 T st f2 w fun D C H' s' I' fC zz10_0 q=>?_
 obtain⟨m,hm⟩:=zz10_0
 show Gw _ X.A (Jw (.Name y py) X.env (.ref D)) _ _ _
 refine wpAny_assign_Name (jd I' hN hy (.inl hl) (v:=.ref D) rfl (fun s9 I9 zz11_0=>?_) (.inr hl))
 obtain⟨a,sb,ha⟩:=zz11_0
 have hne:C≠a:=by
  rcases ha with z|z
  ·rw[z];exact fC.2.1
  ·exact fun e=>fC.2.2.2.2.1 y a z e.symm
 refine⟨m,hm.sameBut sb hne,fun h' hsb=>?_⟩
 exact⟨_,H',I9.turned (t':=s9.toks) (fun b o ne e=>hsb.extBut b o ne e) fC.1 fC.2.1 fC.2.2.2.1 fC.2.2.2.2.1 fC.2.2.2.2.2,q⟩
end
def Ci(I:ItD)(tk:Tgt)(js:List Nat)(tc:TTD)(tx te:TD)(δ:DS)(M1:MH)(Q:DK):Prop:=I.n<=900000/\∀p,M1 p=none->∃W:Nat->SpT->MH->Prop,W 0 [] (ax M1 p (dsM []))/\(∀i kvs M,i<=I.n->W i kvs M->I.C M)/\
 (∀i kvs d M,i<I.n->I.item i=some d->W i kvs M->∃os,xp tk d os/\tc (cδ os js δ) M fun b M2=>if b=true then tx (cδ os js δ) M2 fun y M3=>te (cδ os js δ) M3 fun e M4=>∃k,y=spD k/\M4 p=some (dsM kvs)/\kvs.length<=i/\W (i+1) (putD kvs k e) (ax M4 p (dsM (putD kvs k e)))else W (i+1) kvs M2)/\∀kvs M,W I.n kvs M->Q (.ref p) M
def nX(wd:TID)(tk:Tgt)(js:List Nat)(tc:TTD)(tx te:TD):TD:=fun δ M Q=>wd δ M fun I M1=>Ci I tk js tc tx te δ M1 Q
section
variable{X:Cx}
theorem rj{wd:TID}{tk:Tgt}{js:List Nat}{tc:TTD}{tx te:TD}{σ:L2.St}{H:Hp}{Q:VK}(h:lift X.K (nX wd tk js tc tx te) σ H Q):r9 X js (pX X.K tk) (ku X.K wd) (liftT X.K tc) (lift X.K tx) (lift X.K te) σ H Q:=by
 obtain⟨δ,M,R,hs,hM,q,fin⟩:=h;refine⟨δ,M,_,hs,hM,q,fun I M1 H1 J g1 a1 kc io p hp=>?_⟩;obtain⟨hn,kc⟩:=kc;obtain⟨W,w0,hC,turn,done⟩:=kc p (a1.fresh hp);refine⟨fun i m H2=>m=I.n-i/\i<=I.n/\Grow X.K H1 H2/\∃kvs M,Abs X.K H2 M/\W i kvs M,⟨I.n,by simp,HR _,.new hp,[],_,a1.AS _ _ hp,w0⟩,?_⟩;rintro i m H2 ⟨rfl,hi,g2,kvs,M2,a2,w2⟩;by_cases hin:i<I.n
 ·refine .inr ⟨io.go i H2 M2 hin g2 a2 (hC _ _ _ hi w2),fun v H3 hy=>?_⟩;obtain⟨g3,a3,d,ed,rd⟩:=io.yld i H2 M2 v H3 hin g2 a2 (hC _ _ _ hi w2) hy;obtain⟨os,ow,q3⟩:=turn i kvs d M2 hin ed w2;obtain⟨us,uv,su⟩:=oI rd ow;have s3:=jI (js:=js) (hs.mono ((g1.trans g2).trans g3)) su;refine⟨us,uv,cδ os js δ,M2,_,s3,a3,q3,fun b M4 H4 g4 a4 q4=>?_⟩;cases b with
  |false=>
   rw[if_neg GA]at q4 ⊢
   exact⟨I.n-(i+1),by omega,rfl,hin,(g2.trans g3).trans g4,kvs,M4,a4,q4⟩
  |true=>
   rw[if_pos rfl]at q4 ⊢
   refine⟨cδ os js δ,M4,_,s3.mono g4,a4,q4,fun y M5 u H5 g5 r5 a5 q5=>⟨cδ os js δ,M5,_,(s3.mono g4).mono g5,a5,q5,fun e M6 u6 H6 g6 r6 a6 zz12_0=>?_⟩⟩
   obtain⟨k,ey,e6,hl6,w6⟩:=zz12_0
   subst ey
   obtain⟨b,rfl,sp⟩:=pC (r5.mono g6)
   obtain⟨xs,h1,h2,h3,h4⟩:=a6.dsp e6
   have hlen:xs.length=kvs.length:=by have:=congrArg List.length h2;simpa using this
   have sz:1000000<=GD:=nbL rfl
   have g7:Grow X.K H6 (upd H6 p (.ext (bP X.prog X.w p (fg xs k b u6)))):=.ext (h1 X.prog X.w)
   exact⟨b,k,xs,rfl,h1 _ _,h3,sp,by omega,I.n-(i+1),by omega,rfl,hin,((((g2.trans g3).trans g4).trans g5).trans g6).trans g7,putD kvs k e,_,a6.vN _ _ h1 h2 h4 h3 sp r6,w6⟩
 ·obtain rfl:i=I.n:=by omega
  exact .inl ⟨io.stop H2 M2 g2 a2 (hC _ _ _ hi w2),fin _ _ _ _ (g1.trans g2) (by rw[Rep]) a2 (done kvs M2 w2)⟩
variable{xs:List Str}{tg:Expr}{pos:Pos}{js:List Nat}{scope:Ja}{kx vx iter:Expr}{ifs:List Expr}{tx te:TD}{tc:TTD}{g:TG}{tk:Tgt}{wd:TID}
theorem wk(i:Nat){y:Str}{py spos:Pos}(hN:X.N.Nodup)(hu:X.A.units+66<HG)(c:CScope X xs js scope)(hc:X.calm=true)(hi:DI X tg iter wd)(hG:TgOk xs.length g (pX X.K tk))(hg:∀C s H fp,PG (cxC X xs js scope C s H fp) tg g)(ht:∀C s H fp,DTs (cxC X xs js scope C s H fp) ifs tc)(hk:∀C s H fp,DE (cxC X xs js scope C s H fp) kx tx)(he:∀C s H fp,DE (cxC X xs js scope C s H fp) vx te) (hy:X.N[i]?=some y:=by rfl) (hl:X.env.scope.names.lookup y=some .local:=by rfl) (hsw:J5 (.DictComp kx vx [⟨tg,iter,ifs,0⟩] scope pos) (some (.Name y py)) spos.line X.env=pure true:=by rfl) (hs:∀x,Hb iter X.env x=pure x:=by intro _;rfl) : DSt X (.Assign [.Name y py] (.DictComp kx vx [⟨tg,iter,ifs,0⟩] scope pos) spos) (dX (nX wd tk js tc tx te) (br i)):=cD (yr (tk:=lift X.K tx) (te:=lift X.K te) (tc:=liftT X.K tc) c hc hN hi hG hg ht hk he (by omega) hy hl hsw hs) fun E σ H zz13_0=>by obtain⟨δ,M,hs,a,B,ok,q⟩:=zz13_0;exact(rj ⟨δ,M,_,hs,a,q,fun d M1 v H1 g1 r1 a1 q1=>ok.nx _ _ _ _ g1 ((hs.mono g1).set r1 i) a1 q1⟩)
theorem vd(i:Nat){x v:Str}{px pv spos:Pos}(hN:X.N.Nodup)(hu:X.A.units+66<HG)(c:CScope X [x] js scope)(hc:X.calm=true)(hi:DI X (.Name x px) iter wd)(ht:∀C s H fp,DTs (cxC X [x] js scope C s H fp) ifs tc)(hk:∀C s H fp,DE (cxC X [x] js scope C s H fp) kx tx)(he:∀C s H fp,DE (cxC X [x] js scope C s H fp) vx te) (hy:X.N[i]?=some v:=by rfl) (hl:X.env.scope.names.lookup v=some .local:=by rfl) (hsw:J5 (.DictComp kx vx [⟨.Name x px,iter,ifs,0⟩] scope pos) (some (.Name v pv)) spos.line X.env=pure true:=by rfl) (hs:∀x,Hb iter X.env x=pure x:=by intro _;rfl) : DSt X (.Assign [.Name v pv] (.DictComp kx vx [⟨.Name x px,iter,ifs,0⟩] scope pos) spos) (dX (nX wd .one js tc tx te) (br i)):=wk i hN hu c hc hi rp (fun _ _ _ _=>gT c 0 rfl) ht hk he hy hl hsw hs
end
section
variable{X:Cx}
def AE:R2D:=fun x y M Q=>match x,y with
 |.ref a,.int k=>∃d,M a=some (.lst [d])/\0<=k/\k<=1000/\∀z,M z=none->Q (.ref z) (ax M z (.lst (GZ k.toNat d)))
 |_,_=>False
theorem pS{K:G5}{H:Hp}{d:D}{v:V}(r:Rep K H d v):∀n,aD K H (GZ n d) (GZ n v)
 |0=>by rw[List.replicate_zero,List.replicate_zero];exact .nil
 |n+1=>by rw[Ii,Ii];exact .cons r (pS r n)
theorem oD{α:Type}(v:α):∀n,(GZ n [v]).flatten=GZ n v
 |0=>rfl
 |n+1=>by rw[Ii,Jn,oD v n];rfl
theorem zJ:OpD X (IF .Mult) AE:=gQ A7 fun v u H Q ⟨x,y,M,R,r1,r2,a,q,fin⟩=>by
 unfold AE at q;split at q
 ·obtain⟨d,hd,h0,h1,q⟩:=q;obtain rfl:v=.ref _:=r1;obtain rfl:u=.int _:=r2;obtain⟨xs,hx,rx⟩:=a _ _ hd;obtain⟨w,rfl,rw'⟩:=cJ rx;have sz:1000000<=GD:=nbL rfl;refine⟨_,_,_,rfl,rfl,hx,by omega,by omega,by simp;omega,fun z hz=>?_⟩;rw[oD];exact fin _ _ _ _ (.new hz) (by rw[Rep]) (a.l9 hz (pS rw' _)) (q z (a.fresh hz))
 ·exact q.elim
end
section
theorem kD(a u:G0):checkTypeCall "enumerate" ⟨[a],[("start",u)]⟩=pure ():=by kernel_rfl
theorem lX(a u:G0):checkBuiltinCall "enumerate.__new__" ⟨[.type "enumerate",a],[("start",u)]⟩=pure ():=by kernel_rfl
theorem qK(a b u:G0):argsOk "object.__init__" ⟨[a,b],[("start",u)]⟩:=by unfold argsOk;rw[PySem.signature?_of (id:="object.__init__") (n:=['_','_','t','i','n','i','_','_']) (o:=['t','c','e','j','b','o']) (by kernel_rfl) F.owner_object];kernel_rfl
def jZ(l it:Addr):Obj×Obj:=({ cls:=.type "list_iterator",data:=.fields #[.ref l,.int 0 0] },{ cls:=.type "enumerate",data:=.fields #[.none,.bool false,.ref it,rawInt 1,.none,.none] })
variable{prog:GL}{w:Hk}{A:Hr}{E:G0->G6->Prop}{s:G6}{l:Addr}{items:Array G0}{n:Nat}{t:Tok}{Q:G0->G6->Prop}
theorem vb(hl:s.heap.get? l=some { cls:=.type "list",dict:=none,data:=.seq items n,slots:=#[] })
 (h:Q (.ref (s.heap.push (jZ l 0).1).objs.size) { s with heap:=(s.heap.push (jZ l 0).1).push (jZ l s.heap.objs.size).2 }) :
 Gw (GG prog w) A (JG.«enumerate.__new__» ⟨[.type "enumerate",.ref l],[("start",.int 1 t)]⟩) (fun fin s'=>∃v,fin=.done (.ret v)/\Q v s') E s:=by
 obtain⟨hp,g,d,tk,os⟩:=s
 have e1:=sub_enumerate
 have e2:Heap.IsList (Shared.heap ⟨hp,g,d,tk,os⟩) l items:=⟨_,hl,rfl,n,rfl⟩
 wp_walk using AutoSeq1.wpAny_loadPart' hl
 refine wpAny_stack_any fun st=>G7 ?_
 split
 case h_1 c _ _ _ _ _=>cases (c==JC "enumerate")<;>(wp_walk using AutoSeq1.wpAny_loadPart' hl,wpAny_pyIter_list e2;exact⟨_,rfl,h⟩)
 all_goals (wp_walk using AutoSeq1.wpAny_loadPart' hl,wpAny_pyIter_list e2;exact⟨_,rfl,h⟩)
theorem rT:Meets (JG.«enumerate.__new__» ⟨[.type "enumerate",.ref l],[("start",.int 1 t)]⟩) (fun _ R s=>s.heap.get? l=some { cls:=.type "list",dict:=none,data:=.seq items n,slots:=#[] }/\R (.ok (.ret (.ref (s.heap.push (jZ l 0).1).objs.size))) { s with heap:=(s.heap.push (jZ l 0).1).push (jZ l s.heap.objs.size).2 }):=.of_wp fun prog w A R s z=>vb (Q:=fun v s'=>R (.ok (.ret v)) s') z.1 z.2
theorem oZ{e:G0}{u:G0}:Meets (JG.«object.__init__» ⟨[e,.ref l],[("start",u)]⟩) (fun _ R s=>s.TypeIs e "enumerate"/\R (.ok (.ret .none)) s):=
 .of_wp fun prog w A R s zz1_0=>by
  obtain⟨ty,r⟩:=zz1_0
  have e1:=F.called_enumerate.init.lookup
  have e2:=F.called_enumerate.made
  repeat (any_goals (first|assumption|wp_step))
  exact⟨_,rfl,r⟩
theorem qw(hl:s.heap.get? l=some { cls:=.type "list",dict:=none,data:=.seq items n,slots:=#[] })
 (h:∀h',IsEnum h' (s.heap.objs.size+1) s.heap.objs.size 1 .none->h'.IsListIter s.heap.objs.size l 0->(∀b o,s.heap.get? b=some o->h'.get? b=some o)->Q (.ref (s.heap.objs.size+1)) { s with heap:=h' }) :
 Gw (GG prog w) A (call (.type "enumerate") [.ref l] [("start",.int 1 t)]) Q E s:=by
 have C:=F.called_enumerate
 obtain⟨c,tl,c1⟩:=C.mro
 have c2:=C.made
 have c3:=C.sub
 have c4:=C.notType
 have c5:=C.canCreate
 have c6:=kD (.ref l) (.int 1 t)
 refine wpAny_call (codeAny_of_tree (G7 ⟨Code.quiet_builtin _ (by decide +kernel),Jk F.entry_type_call ?_⟩))
 rw[Around.under_plain rfl rfl]
 repeat (any_goals (first|assumption|wp_step))
 have hz:(s.heap.push (jZ l 0).1).objs.size=s.heap.objs.size+1:=I0 ..
 have g1:IsEnum ((s.heap.push (jZ l 0).1).push (jZ l s.heap.objs.size).2) (s.heap.objs.size+1) s.heap.objs.size 1 .none:=by
  have:=Gv (s.heap.push (jZ l 0).1) (o:=(jZ l s.heap.objs.size).2) rfl
  rw[hz]at this;exact this
 have q:=h _ g1 ⟨_,G9 _ (Gv _ rfl),rfl,rfl⟩ fun b o z=>G9 _ (G9 _ z)
 refine codeAny_mono (codeAny_call_builtin C.plain F.entry_enumerate_new (wpAny_of_eq (lX _ _) (rT prog w A.in1 (wants (fun v s'=>v=.ref (s.heap.objs.size+1)/\s'.TypeIs v "enumerate"/\Q v s') E) s ⟨hl,by rw[hz];exact⟨rfl,⟨_,g1,rfl⟩,q⟩⟩))) fun r s₁ hr=>?_
 match r,hr with
 |.error e,hr=>exact hr
 |.ok (.ret v),⟨ev,ty,qv⟩=>
  have d1:=C.init.lookup
  have d2:=C.init.bind v
  repeat (any_goals (first|assumption|wp_step))
  refine codeAny_mono (codeAny_call_builtin C.init.plain F.entry_object_init (C.init.check _ _ _ _ _ _ _ _ ty (qK _ _ _) (oZ prog w A.in1 (wants (fun r s₂=>r=.none/\Q v s₂) E) s₁ ⟨ty,rfl,qv⟩))) fun r₂ s₂ hr₂=>?_
  match r₂,hr₂ with
  |.error e,hr₂=>exact hr₂
  |.ok (.ret r),⟨er,q2⟩=>
   subst er
   repeat (any_goals (first|assumption|wp_step))
end
theorem p7{prog:GL}{w:Hk}{A:Hr}{it:Addr}{fp:List Addr}{n:Nat}{P:Nat->G0->Prop}{St:Nat->Heap->Prop}(D:Draws prog w A it fp n P St):Draws prog w A it fp (n+1) (fun j x=>∃i,j=i+1/\P i x) (fun j h=>∃i,j=i+1/\St i h) where
 live:=fun j h ⟨i,_,st⟩=>D.live i h st
 frame:=fun j h h' ⟨i,e,st⟩ k=>⟨i,e,D.frame i h h' st k⟩
 item:=fun j s Q E hj ⟨i,e,st⟩ hQ=>D.item i s Q E (by omega) st fun x h' tk p st' sb=>hQ x h' tk ⟨i,e,p⟩ ⟨i+1,by omega,st'⟩ sb
 done:=fun s Q E ⟨i,e,st⟩ hE=>by
  obtain rfl:i=n:=by omega
  exact D.done s Q E st hE
theorem rF{prog:GL}{w:Hk}{A:Hr}(hh:A.handled=none)(it l:Addr)(hne:l≠it)(items:Array G0){i:Nat}(hx:items[i]?=none):Draws prog w A it [it,l] i (fun _ _=>False) (fun j h=>j=i/\h.IsListIter it l i/\h.IsList l items) where
 live:=fun _ _ st=>let⟨o,ho,_⟩:=st.2.1;⟨o,ho⟩
 frame:=fun _ _ _ st hk=>⟨st.1,st.2.1.at fun o e=>hk it (by simp) o e,st.2.2.at fun o e=>hk l (by simp) o e⟩
 item:=fun j s Q E hj st _=>absurd st.1 (by omega)
 done:=fun s Q E st hE=>wpAny_nextOf_list_end hh st.2.1 st.2.2 hx hE
def EE(K:G5)(a:Addr):It:=
 ⟨fun i H=>∃xs x,SqL K H a xs/\xs[i]?=some x,fun i H x H'=>∃T y,x=.ref T/\H T=none/\H'=upd H T (.tup [.int ((i+1:Nat):Int),y])/\∀xs,SqL K H a xs->xs[i]?=some y,fun i H=>∃xs,SqL K H a xs/\xs.length<=i⟩
theorem qT{P:GL}{w:Hk}{K:G5}{elts:List Expr}{kt}{pt:Pos}(a e it:Addr)(hei:e≠it):Turn P w K (.Tuple elts kt pt) (EE K a) [e,it] e (fun i h=>(∃old,IsEnum h e it ((i+1:Nat):Int) old)/\h.IsListIter it a i) where
 mem:=by simp
 obj:=fun i h st b hb=>by
  rcases(show b=e\/b=it by simpa using hb)with rfl|rfl
  ·obtain⟨⟨old,q⟩,_⟩:=st
   exact⟨_,q,fun v z=>by
    have z':Data.fields _=Data.cell v:=z
    cases z'⟩
  ·obtain⟨o,q,c,d⟩:=st.2
   exact⟨o,q,fun v z=>by rw[d]at z;cases z⟩
 keep:=fun i h h' st k=>by
  obtain⟨⟨old,q⟩,st⟩:=st
  exact⟨⟨old,k e (by simp) _ q⟩,st.at fun o z=>k it (by simp) o z⟩
 item:=by
  intro X hP hw hK hc i pins s σ H E I hf st hg
  subst hP hw hK
  obtain⟨xs,x,hq,hx⟩:=hg
  obtain⟨its,rv,p,hz⟩:=I.list hq
  obtain⟨u,hu,ru⟩:=rv.get hx
  obtain⟨⟨old,he⟩,hit⟩:=st
  have le:e<s.heap.objs.size:=GC he
  have li:it<s.heap.objs.size:=by obtain⟨o,q,_⟩:=hit;exact GC q
  have hal:a≠it:=fun z=>by
   subst z
   obtain⟨o1,z1,z2,_⟩:=hit
   obtain⟨o2,y1,y2,_⟩:=p.isList
   rw[z1]at y1;cases y1
   rw[z2]at y2;exact absurd (JC.inj y2) (by decide)
  have hea:e≠a:=fun z=>by
   subst z
   obtain⟨o2,y1,y2,_⟩:=p.isList
   rw[show s.heap.get? e=_ from he]at y1;cases y1
   exact absurd (JC.inj y2) (by decide)
  have hhd:X.A.in1.handled=none:=I.ok.hd hc
  have hil:i<its.length:=(Gz.mp hu).1
  refine wpAny_pyNext_enum_itemD (i:=i+1) (p7 (Draws.list hhd it a hal its.toArray)) he ⟨i,rfl,hit,p.isList⟩ (by simp;omega) hei (by simp[hei,hea]) fun x0 h1 tk hx0 ho hit0 hT hsz hk=>?_
  obtain⟨i0,ei0,hx0⟩:=hx0
  obtain rfl:i=i0:=by omega
  obtain⟨i1,ei1,hit1⟩:=hit0
  obtain rfl:i1=i+1:=by omega
  obtain rfl:u=x0:=by
   have hx0:its[i]?=some x0:=by simpa using hx0
   rw[hu]at hx0;cases hx0;rfl
  refine⟨_,rfl,wpAny_letOwnedTupleGo_enum (s:={ s with heap:=h1,toks:=tk+1 }) ho fun h2 he2 hs2=>?_⟩
  have hs2:IJ e h1 h2:=hs2
  have fr:=I.fresh
  have I1:Inv X pins σ (upd H s.heap.objs.size (.tup [.int ((i+1:Nat):Int),x])) { s with heap:=s.heap.push { cls:=.type "tuple",data:=.seq #[.int ((i+1:Nat):Int) tk,u] },toks:=s.toks }:=
   I.laid (fun b v q=>G9 _ q) (Gq _) ⟨nbL rfl,[.int ((i+1:Nat):Int) tk,u],.cons ⟨_,rfl⟩ (.cons ru .nil),⟨_,Gv _ rfl,rfl,_,rfl⟩,⟨_,Gv _ rfl,rfl⟩⟩
  have fk:∀{b:Addr},b<s.heap.objs.size->cC X pins H b->cC X pins (upd H s.heap.objs.size (.tup [.int ((i+1:Nat):Int),x])) b:=fun{b} lt f=>⟨by rw[aS (Hh lt)];exact f.1,f.2⟩
  have fe:=fk le (hf e (by simp))
  have fi:=fk li (hf it (by simp))
  have I2:Inv X pins σ (upd H s.heap.objs.size (.tup [.int ((i+1:Nat):Int),x])) { s with heap:=h2,toks:=tk+1 }:=by
   refine j9 (s:={ s with heap:=s.heap.push { cls:=.type "tuple",data:=.seq #[.int ((i+1:Nat):Int) tk,u] },toks:=s.toks }) I1 (fun b o ne ni q=>?_) fe fi
   have q:(s.heap.push { cls:=.type "tuple",data:=.seq #[.int ((i+1:Nat):Int) tk,u] }).get? b=some o:=q
   refine(hs2.2 b ne).trans ?_
   rcases Heap.get?_push_cases q with⟨rfl,rfl⟩|q
   ·exact hT
   ·exact hk b o ne ni q
  refine⟨.ref s.heap.objs.size,_,I2,rfl,⟨_,x,rfl,fr,rfl,fun ys hy=>by rw[I.ir hy hq];exact hx⟩,⟨⟨u,?_⟩,hit1.1.at fun o z=>(hs2.2 it hei.symm).trans z⟩,fun b hb=>?_⟩
  ·exact he2
  ·rcases(show b=e\/b=it by simpa using hb)with rfl|rfl
   ·exact fe.1
   ·exact fi.1
 done:=by
  intro X hP hw hK hc i pins s σ H E I hf st hg
  subst hP hw hK
  obtain⟨xs,hq,hx⟩:=hg
  obtain⟨its,rv,p,hz⟩:=I.list hq
  obtain⟨⟨old,he⟩,hit⟩:=st
  obtain⟨f0,f1,f2,f3,f4,f5⟩:=hf it (by simp)
  have hl:=rv.length
  have hal:a≠it:=fun z=>by
   subst z
   obtain⟨o1,z1,z2,_⟩:=hit
   obtain⟨o2,y1,y2,_⟩:=p.isList
   rw[z1]at y1;cases y1
   rw[z2]at y2;exact absurd (JC.inj y2) (by decide)
  have hhd:X.A.in1.handled=none:=I.ok.hd hc
  exact wpAny_pyNext_enum_endD (rF hhd it a hal its.toArray (i:=i) (by simp;omega)) he ⟨rfl,hit,p.isList⟩ fun h' eb=>⟨rfl,I.turned (t':=s.toks) (fun b o hb q=>eb b o hb q) f0 f1 f3 f4 f5⟩
 self:=fun _ _ _ _ _ st h=>let⟨⟨_,he⟩,_⟩:=st;wpAny_pyIter_enum he h
section
variable{X:Cx}{elts:List Expr}{kt:Nat}{pt:Pos}
theorem kg{pos kp:Pos}{T:String}{e k:Expr}{name:Str}{env:Env}{M:Model}{A:Hr}{E:G0->G6->Prop}{s:G6}{Q:G0->G6->Prop}
 (h:Gw M A (spliced (Ij pos (GH [e] env))) (fun vs s₁=>Gw M A (eval k env) (fun u s₂=>Gw M A (call (.type T) vs [(name,u)]) Q E s₂) E s₁) E s)
 (he:Ij pos (GH [e] env)=(false,eval e env)::Ij pos (GH [] env):=by rfl) (hpl:(Ij pos (GH [e] env)).any (·.1)=false:=by rfl) :
 Gw M A (callWith pos (.type T) [] (Ij pos (GH [e] env)) (backToKw pos (Jm [⟨some name,k,kp⟩] env))) Q E s:=by
 have ev:Gw M A (evalArgs (.type T) true (Ij pos (GH [e] env)) (backToKw pos (Jm [⟨some name,k,kp⟩] env))) (fun a s₁=>Gw M A (call (.type T) a.pos a.kw) Q E s₁) E s:=by
  rw[he]at h ⊢
  refine evalArgs_kwB rfl (GB h (fun vs s₁ h₁=>?_) fun _ _ z=>z)
  exact kws_cons (GB h₁ (fun u s₂ h₂=>kws_nil h₂) fun _ _ z=>z)
 unfold callWith
 refine cc (HP (GB ev (fun a s₁ h₁=>cc (Ik ?_)) fun _ _ z=>z))
 have no:(backToKw pos (Jm [⟨some name,k,kp⟩] env)).any (·.1.isNone)=false:=rfl
 simp only[hpl,no,Bool.or_false]
 exact cc (G7 (cc (GB h₁ (fun r s₂ hr=>cc (HP (wpAny_point (G7 hr)))) fun _ _ z=>z)))
def BY(K:G5)(ta:TA):TI:=fun σ H R=>ta σ H fun vs H1=>∃a xs,vs=[.ref a]/\H1 a=some (.lst xs)/\R (EE K a) H1
theorem xS{a k:Expr}{ta:TA}{p pos kp:Pos}(hg:Gl X "enumerate")(hm:X.mg "enumerate"=none)(ha:PA X [a] ta)(hk:∀pins s σ H (Q:VK),Inv X pins σ H s->Q (.int 1) H->Gw (GG X.prog X.w) X.A (eval k X.env) (EP X pins σ Q) X.xe s)
 (hs:GH [a] X.env=[(false,eval a X.env)]:=by rfl):PI X (.Tuple elts kt pt) (.Call (.Name "enumerate" p) [a] [⟨some "start",k,kp⟩] pos) (BY X.K ta):=by
 intro pins s σ H R I h
 refine wpAny_Call_Name_kw (jc I hg hm g8 (kg (thn (ha pos pins s σ H _ I h) fun us s1 ⟨vs,H1,I1,r1,q1⟩=>?_) (by rw[hs];rfl) (by rw[hs];rfl)))
 obtain⟨l,xs,ev,hH,q⟩:=q1
 subst ev
 obtain⟨u,rfl,ru⟩:=r1.one
 cases ru
 refine thn (hk pins s1 σ H1 (fun v H'=>v=.int 1/\H'=H1) I1 ⟨rfl,rfl⟩) fun u s2 ⟨v,H2,I2,r2,e1,e2⟩=>?_
 subst e1 e2
 obtain⟨t,rfl⟩:=r2
 obtain⟨z,its,n,r,hl,e⟩:=I2.pN hH
 refine qw e fun h' he hit hk=>wpAny_pyIter_enum he ?_
 have fp:∀b∈[s2.heap.objs.size+1,s2.heap.objs.size],cC X pins H2 b:=fun b hb=>by
  have hb':s2.heap.objs.size<=b:=by
   rcases(show b=s2.heap.objs.size+1\/b=s2.heap.objs.size by simpa using hb)with rfl|rfl
   ·exact Nat.le_succ _
   ·exact Gq _
  exact I2.oY hb' (I2.hok.fresh hb')
 exact⟨_,[s2.heap.objs.size+1,s2.heap.objs.size],_,_,H2,rfl,I2.kept (t':=s2.toks) hk,qT l _ _ (Nat.succ_ne_self _),⟨⟨_,he⟩,hit⟩,fp,q⟩
def Dp(ta:TAD):TID:=fun δ M R=>ta δ M fun ds M1=>∃l es,ds=[.ref l]/\M1 l=some (.lst es)/\R ⟨es.length,fun i=>(es[i]?).map fun d=>.tup [.int ((i+1:Nat):Int),d],fun M=>M l=some (.lst es)⟩ M1
theorem xl{a:Expr}{ta:TAD}{p pos kp cp:Pos}{kc}(hg:Gl X "enumerate")(hm:X.mg "enumerate"=none)(ha:DA X [a] ta)(hs:GH [a] X.env=[(false,eval a X.env)]:=by rfl):DI X (.Tuple elts kt pt) (.Call (.Name "enumerate" p) [a] [⟨some "start",.Constant (.int 1) kc cp,kp⟩] pos) (Dp ta):=
 nO (xS hg hm ha (fun pins s σ H Q I q=>wB pins s σ H Q I q) hs) fun σ H R ⟨δ,M,RD,hs,hM,q,fin⟩=>⟨δ,M,_,hs,hM,q,fun ds M1 vs H1 g1 r1 a1 ⟨l,es,e,hl,q1⟩=>by
  subst e
  obtain⟨v,rfl,r⟩:=cJ r1
  rw[Rep]at r;subst r
  obtain⟨xs,hx,rs⟩:=a1 _ _ hl
  refine⟨l,xs,rfl,hx,fin _ M1 H1 _ g1 a1 q1 ⟨fun H2 M2 g2 a2 c2=>?_,fun i H2 M2 hi g2 a2 c2=>?_,?_⟩⟩
  ·obtain⟨ys,hy,ry⟩:=a2 _ _ (show M2 l=some (.lst es)from c2)
   exact⟨ys,SqL.of hy,by rw[<-ry.length];exact Gq _⟩
  ·obtain⟨ys,hy,ry⟩:=a2 _ _ (show M2 l=some (.lst es)from c2)
   have hi':i<ys.length:=by rw[<-ry.length];exact hi
   exact⟨ys,ys[i],SqL.of hy,by simp[hi']⟩
  ·rintro i H2 M2 v H3 hi g2 a2 c2 ⟨T,y,rfl,hT,rfl,hy⟩
   have hi:i<es.length:=hi
   obtain⟨ys,hys,ry⟩:=a2 _ _ (show M2 l=some (.lst es)from c2)
   obtain⟨x,e1,e2⟩:=ry.get (show es[i]?=some es[i] by simp[hi])
   have:=hy ys (SqL.of hys)
   rw[e1]at this;cases this
   exact⟨.new hT,a2.new hT,.tup [.int ((i+1:Nat):Int),es[i]],by simp[hi],by rw[Rep];exact⟨T,_,rfl,SqT.of aW,.cons (by rw[Rep]) (.cons (e2.mono (.new hT)) .nil)⟩⟩⟩
end
section
variable{X:Cx}{pins:List (Addr×Obj)}{σ:L2.St}{H:Hp}{s:G6}
theorem jw{h':Heap}{t':Nat}{ch:List Addr}(I:Inv X pins σ H s)(k:∀b o,b∉ch->s.heap.get? b=some o->h'.get? b=some o)(f:∀b∈ch,cC X pins H b):Inv X pins σ H { s with heap:=h',toks:=t' }:=by
 have ne:∀b u,H b=some u->b∉ch:=fun b u q hb=>by rw[(f b hb).1]at q;cases q
 refine I.step (g':=s.gens) (d':=s.drawn) (ch:=ch) (fun b hb=>?_) (fun b o _ _ hc q _=>k b o hc q) (fun b o _ _ hc q _=>⟨o.slots,k b o hc q⟩) (fun _ _ _ _ n=>n) (fun b o hc q=>⟨o,k b o hc q⟩) (fun _ _ q=>q) (fun _ _ _ q=>q) (fun b ps q=>⟨#[],by rw[q];simp⟩) (fun m hm=>?_) (fun b u q=>?_) I.bare
 ·obtain⟨e0,e1,_,e3,e4,e5⟩:=f b hb;exact⟨e3,e1,e4,e5⟩
 ·obtain⟨o,es,ep,ho,r⟩:=hm;exact⟨o,es,ep,k _ o (fun hb=>(f _ hb).2.1 rfl) ho,r⟩
 ·refine(I.hok b u q).gH (fun c v hc z=>?_) (fun _ z=>z) fun _ _ z=>z;rcases hc with y|y
  ·subst y;exact k _ v (ne _ u q) z
  ·exact k c v (ne c _ y) z
end
def Itz(K:G5)(a b:Addr):It:=
 ⟨fun i H=>∃xs ys x y,SqL K H a xs/\SqL K H b ys/\xs[i]?=some x/\ys[i]?=some y,fun i H x H'=>∃T y z,x=.ref T/\H T=none/\H'=upd H T (.tup [y,z])/\(∀xs,SqL K H a xs->xs[i]?=some y)/\∀ys,SqL K H b ys->ys[i]?=some z,fun i H=>∃xs ys,SqL K H a xs/\SqL K H b ys/\(xs.length<=i\/ys.length<=i)⟩
theorem xR{P:GL}{w:Hk}{K:G5}{elts:List Expr}{kt}{pt:Pos}(a b z TI TO i1 i2:Addr)(D:ZipApart z TI TO i1 i2 a b):Turn P w K (.Tuple elts kt pt) (Itz K a b) [z,TI,TO,i1,i2] z (fun i h=>IsZip h z TI TO .none/\IsPair h TI (.ref i1) (.ref i2)/\(∃p q,IsPair h TO p q)/\h.IsListIter i1 a i/\h.IsListIter i2 b i) where
 mem:=by simp
 obj:=fun i h st c hc=>by
  obtain⟨h1,h2,⟨p,q,h3⟩,h4,h5⟩:=st
  rcases(show c=z\/c=TI\/c=TO\/c=i1\/c=i2 by simpa using hc)with rfl|rfl|rfl|rfl|rfl
  ·exact⟨_,h1,fun v y=>by cases (show Data.fields _=Data.cell v from y)⟩
  ·exact⟨_,h2,fun v y=>by cases (show Data.seq _ _=Data.cell v from y)⟩
  ·exact⟨_,h3,fun v y=>by cases (show Data.seq _ _=Data.cell v from y)⟩
  ·obtain⟨o,q1,_,d⟩:=h4
   exact⟨o,q1,fun v y=>by rw[d]at y;cases y⟩
  ·obtain⟨o,q1,_,d⟩:=h5
   exact⟨o,q1,fun v y=>by rw[d]at y;cases y⟩
 keep:=fun i h h' st k=>by
  obtain⟨h1,h2,⟨p,q,h3⟩,h4,h5⟩:=st
  exact⟨k z (by simp) _ h1,k TI (by simp) _ h2,⟨p,q,k TO (by simp) _ h3⟩,h4.at fun o y=>k i1 (by simp) o y,h5.at fun o y=>k i2 (by simp) o y⟩
 item:=by
  intro X hP hw hK hc i pins s σ H E I hf st hg
  subst hP hw hK
  obtain⟨xs,ys,x,y,hq1,hq2,hx,hy⟩:=hg
  obtain⟨h1,h2,⟨p,q,h3⟩,h4,h5⟩:=st
  obtain⟨its1,rv1,p1,hz1⟩:=I.list hq1
  obtain⟨its2,rv2,p2,hz2⟩:=I.list hq2
  obtain⟨u1,hu1,ru1⟩:=rv1.get hx
  obtain⟨u2,hu2,ru2⟩:=rv2.get hy
  refine wpAny_pyNext_zip_item D h1 h2 h3 h4 h5 p1.isList p2.isList (x:=u1) (y:=u2) (by simpa using hu1) (by simpa using hu2) fun h' a1 a2 a3 a4 a5 a6 a7=>⟨_,rfl,wpAny_letOwnedTupleGo_zip (s:={ s with heap:=h' }) a1 fun h'' b1 b2=>?_⟩
  have b2:IJ z h' h'':=b2
  have fr:=I.fresh
  have lt:∀c∈[z,TI,TO,i1,i2],c<s.heap.objs.size:=fun c hc=>by
   rcases(show c=z\/c=TI\/c=TO\/c=i1\/c=i2 by simpa using hc)with rfl|rfl|rfl|rfl|rfl
   ·exact GC h1
   ·exact GC h2
   ·exact GC h3
   ·obtain⟨o,q1,_⟩:=h4;exact GC q1
   ·obtain⟨o,q1,_⟩:=h5;exact GC q1
  have I1:Inv X pins σ (upd H s.heap.objs.size (.tup [x,y])) { s with heap:=s.heap.push { cls:=.type "tuple",data:=.seq #[u1,u2] },toks:=s.toks }:=
   I.laid (fun b v q=>G9 _ q) (Gq _) ⟨nbL rfl,[u1,u2],.cons ru1 (.cons ru2 .nil),⟨_,Gv _ rfl,rfl,_,rfl⟩,⟨_,Gv _ rfl,rfl⟩⟩
  have fk:∀c∈[z,TI,TO,i1,i2],cC X pins (upd H s.heap.objs.size (.tup [x,y])) c:=fun c hc=>⟨by rw[aS (Hh (lt c hc))];exact(hf c hc).1,(hf c hc).2⟩
  have I2:Inv X pins σ (upd H s.heap.objs.size (.tup [x,y])) { s with heap:=h'',toks:=s.toks }:=by
   refine jw (ch:=[z,TO,i1,i2]) (s:={ s with heap:=s.heap.push { cls:=.type "tuple",data:=.seq #[u1,u2] },toks:=s.toks }) I1 (fun c o nc q=>?_) fun c hc=>fk c (by simp at hc ⊢;rcases hc with rfl|rfl|rfl|rfl<;>simp)
   have q:(s.heap.push { cls:=.type "tuple",data:=.seq #[u1,u2] }).get? c=some o:=q
   simp at nc
   refine(b2.2 c nc.1).trans ?_
   rcases Heap.get?_push_cases q with⟨rfl,rfl⟩|q
   ·exact a5
   ·exact a7 c o nc.1 nc.2.1 nc.2.2.1 nc.2.2.2 q
  have kz:∀c o,c≠z->h'.get? c=some o->h''.get? c=some o:=fun c o n e=>(b2.2 c n).trans e
  refine⟨.ref s.heap.objs.size,_,I2,rfl,⟨_,x,y,rfl,fr,rfl,fun zs hzs=>by rw[I.ir hzs hq1];exact hx,fun zs hzs=>by rw[I.ir hzs hq2];exact hy⟩,⟨b1,kz _ _ D.TIz (a7 _ _ D.TIz D.TITO D.TIi1 D.TIi2 h2),⟨_,_,kz _ _ D.TOz a2⟩,a3.at fun o e=>kz _ o D.i1z e,a4.at fun o e=>kz _ o D.i2z e⟩,fun c hc=>(fk c hc).1⟩
 done:=by
  intro X hP hw hK hc i pins s σ H E I hf st hg
  subst hP hw hK
  obtain⟨xs,ys,hq1,hq2,he⟩:=hg
  obtain⟨h1,h2,⟨p,q,h3⟩,h4,h5⟩:=st
  obtain⟨its1,rv1,p1,hz1⟩:=I.list hq1
  obtain⟨its2,rv2,p2,hz2⟩:=I.list hq2
  have l1:=rv1.length
  have l2:=rv2.length
  refine wpAny_pyNext_zip_end (I.ok.hd hc) D h1 h2 h3 h4 h5 p1.isList p2.isList (he.imp (fun e=>by simp;omega) fun e=>by simp;omega) fun h' k=>⟨rfl,?_⟩
  exact jw (t':=s.toks) (ch:=[z,TO,i1,i2]) I (fun c o nc q=>by simp at nc;exact k c o nc.1 nc.2.1 nc.2.2.1 nc.2.2.2 q) fun c hc=>hf c (by simp at hc ⊢;rcases hc with rfl|rfl|rfl|rfl<;>simp)
 self:=fun _ _ _ _ _ st h=>wpAny_pyIter_zip st.1 h
theorem B5{n l1 l2:Nat}(a1:l1<n)(a2:l2<n):ZipApart (n+4) (n+2) (n+3) n (n+1) l1 l2:=by constructor<;>exact fun e=>absurd (id e:@Eq Nat _ _) (by omega)
theorem Co:HL "zip"=some (.type "zip"):=by decide +kernel
section
variable{X:Cx}{elts:List Expr}{kt:Nat}{pt:Pos}
def Dt(K:G5)(ta:TA):TI:=fun σ H R=>ta σ H fun vs H1=>∃a b xs ys,vs=[.ref a,.ref b]/\H1 a=some (.lst xs)/\H1 b=some (.lst ys)/\R (Itz K a b) H1
theorem Cb{a b:Expr}{ta:TA}{p pos:Pos}(hg:Gl X "zip")(hm:X.mg "zip"=none)(ha:PA X [a,b] ta)(hs:GH [a,b] X.env=(false,eval a X.env)::GH [b] X.env:=by rfl)(hpl:(Ij pos (GH [b] X.env)).any (·.1)=false:=by rfl):PI X (.Tuple elts kt pt) (.Call (.Name "zip" p) [a,b] [] pos) (Dt X.K ta):=by
 intro pins s σ H R I h;refine Call_ (jc I hg hm Co (IY (thn (ha pos pins s σ H _ I h) fun us s1 zz1_0=>?_) hs hpl));obtain⟨vs,H1,I1,r1,q1⟩:=zz1_0;obtain⟨l1,l2,xs,ys,ev,hH1,hH2,q⟩:=q1;subst ev;obtain⟨u1,u2,rfl,ru1,ru2⟩:=vals2 r1;cases ru1;cases ru2;obtain⟨z1,its1,n1,rr1,hl1,e1⟩:=I1.pN hH1;obtain⟨z2,its2,n2,rr2,hl2,e2⟩:=I1.pN hH2;have L1:s1.heap.IsList l1 its1.toArray:=⟨_,e1,rfl,n1,rfl⟩;have L2:s1.heap.IsList l2 its2.toArray:=⟨_,e2,rfl,n2,rfl⟩;have lt1:=GC e1;have lt2:=GC e2;refine call_zip_2 L1 L2 fun h' hz hTI hTO hi1 hi2 hsz hk=>wpAny_pyIter_zip hz ?_
 have fp:∀b∈[s1.heap.objs.size+4,s1.heap.objs.size+2,s1.heap.objs.size+3,s1.heap.objs.size,s1.heap.objs.size+1],cC X pins H1 b:=fun b hb=>by
  have hb':s1.heap.objs.size<=b:=by simp at hb;rcases hb with rfl|rfl|rfl|rfl|rfl<;>first|exact Nat.le_add_right _ _|exact Gq _
  exact I1.oY hb' (I1.hok.fresh hb')
 have D:ZipApart (s1.heap.objs.size+4) (s1.heap.objs.size+2) (s1.heap.objs.size+3) s1.heap.objs.size (s1.heap.objs.size+1) l1 l2:=by exact B5 lt1 lt2
 exact⟨_,_,_,_,H1,rfl,I1.kept (t':=s1.toks) hk,xR l1 l2 _ _ _ _ _ D,⟨hz,hTI,⟨_,_,hTO⟩,hi1,hi2⟩,fp,q⟩
def Fq(ta:TAD):TID:=fun δ M R=>ta δ M fun ds M1=>∃a b es fs,ds=[.ref a,.ref b]/\M1 a=some (.lst es)/\M1 b=some (.lst fs)/\R ⟨min es.length fs.length,fun i=>(es[i]?).bind fun d=>(fs[i]?).map fun e=>.tup [d,e],fun M=>M a=some (.lst es)/\M b=some (.lst fs)⟩ M1
theorem xh{K:G5}{ta:TAD}:∀(σ:L2.St) (H:Hp) R,ku K (Fq ta) σ H R->Dt K (vZ K ta) σ H R:=
 fun σ H R ⟨δ,M,RD,hs,hM,q,fin⟩=>⟨δ,M,_,hs,hM,q,fun ds M1 vs H1 g1 r1 a1 ⟨l1,l2,es,fs,e,hl1,hl2,q1⟩=>by
  subst e
  obtain⟨v1,v2,rfl,r,r'⟩:=fM r1
  rw[Rep]at r r';subst r r'
  obtain⟨xs,hx,rs⟩:=a1 _ _ hl1
  obtain⟨ys,hy,rt⟩:=a1 _ _ hl2
  refine⟨l1,l2,xs,ys,rfl,hx,hy,fin _ M1 H1 _ g1 a1 q1 ⟨fun H2 M2 g2 a2 c2=>?_,fun i H2 M2 hi g2 a2 c2=>?_,?_⟩⟩
  ·obtain⟨c3,c4⟩:=(show M2 l1=some (.lst es)/\M2 l2=some (.lst fs)from c2)
   obtain⟨xs2,hx2,rx2⟩:=a2 _ _ c3
   obtain⟨ys2,hy2,ry2⟩:=a2 _ _ c4
   refine⟨xs2,ys2,SqL.of hx2,SqL.of hy2,?_⟩
   show xs2.length<=min es.length fs.length\/ys2.length<=min es.length fs.length
   rw[<-rx2.length,<-ry2.length];omega
  ·obtain⟨c3,c4⟩:=(show M2 l1=some (.lst es)/\M2 l2=some (.lst fs)from c2)
   obtain⟨xs2,hx2,rx2⟩:=a2 _ _ c3
   obtain⟨ys2,hy2,ry2⟩:=a2 _ _ c4
   have hi:i<min es.length fs.length:=hi
   have h1:i<xs2.length:=by rw[<-rx2.length];omega
   have h2:i<ys2.length:=by rw[<-ry2.length];omega
   exact⟨xs2,ys2,xs2[i],ys2[i],SqL.of hx2,SqL.of hy2,by simp[h1],by simp[h2]⟩
  ·rintro i H2 M2 v H3 hi g2 a2 c2 ⟨T,y,z,rfl,hT,rfl,hy,hz⟩
   obtain⟨c3,c4⟩:=(show M2 l1=some (.lst es)/\M2 l2=some (.lst fs)from c2)
   have hi:i<min es.length fs.length:=hi
   have he:i<es.length:=by omega
   have hf:i<fs.length:=by omega
   obtain⟨xs2,hx2,rx2⟩:=a2 _ _ c3
   obtain⟨ys2,hy2,ry2⟩:=a2 _ _ c4
   obtain⟨x,e1,e2⟩:=rx2.get (show es[i]?=some es[i] by simp[he])
   obtain⟨x',e1',e2'⟩:=ry2.get (show fs[i]?=some fs[i] by simp[hf])
   have t1:=hy xs2 (SqL.of hx2)
   have t2:=hz ys2 (SqL.of hy2)
   rw[e1]at t1;cases t1
   rw[e1']at t2;cases t2
   exact⟨.new hT,a2.new hT,.tup [es[i],fs[i]],by simp[he,hf],by rw[Rep];exact⟨T,_,rfl,SqT.of aW,.cons (e2.mono (.new hT)) (.cons (e2'.mono (.new hT)) .nil)⟩⟩⟩
theorem Bu{a b:Expr}{ta:TAD}{p pos:Pos}(hg:Gl X "zip")(hm:X.mg "zip"=none)(ha:DA X [a,b] ta)(hs:GH [a,b] X.env=(false,eval a X.env)::GH [b] X.env:=by rfl)(hpl:(Ij pos (GH [b] X.env)).any (·.1)=false:=by rfl):DI X (.Tuple elts kt pt) (.Call (.Name "zip" p) [a,b] [] pos) (Fq ta):=nO (Cb hg hm ha hs hpl) xh
end
theorem nS{ws:List Wl}:∀{i:Nat} {rs:List (List Nat)},Rgs ws i rs->rs.length<=i
 |0,rs,h=>by rw[show rs=[]from h];simp
 |i+1,rs,⟨qs,h1,h2⟩=>by
  have:=nS h1
  rcases h2 with⟨_,rfl⟩|⟨_,r,_,rfl⟩
  ·omega
  ·simp;omega
structure RgA(ws:List Wl)(r:List Nat):Prop where
 rng:Rng ws r
 len:r.length<=2*ws.length
 lt:∀g∈r,g<2*ws.length
 pos:0<r.length
theorem jQ{ws:List Wl}(hU:∀w∈ws,Un5 w)(hF:PF ws):∀{i:Nat} {rs:List (List Nat)},i<=2*ws.length->Rgs ws i rs->∀r∈rs,RgA ws r
 |0,rs,_,h,r,hr=>by rw[show rs=[]from h]at hr;cases hr
 |i+1,rs,hi,⟨qs,h1,h2⟩,r,hr=>by
  rcases h2 with⟨_,rfl⟩|⟨_,r',⟨kk,n,e,rfl⟩,rfl⟩
  ·exact jQ hU hF (by omega) h1 r hr
  ·rcases GY.mp hr with z|z
   ·exact jQ hU hF (by omega) h1 r z
   ·have:r=rn ws i kk:=by simpa using z
    subst this
    have hl:=tP hU hF (show i<2*ws.length by omega) n
    refine⟨⟨i,kk,by omega,hl,rfl,e⟩,by rw[iV];omega,fun g hg=>?_,by rw[iV];omega⟩
    unfold rn at hg
    obtain⟨j,_,rfl⟩:=Hi.mp hg
    exact cY hU hF (by omega) j
def aM(ws:List Wl)(r:List Nat):Bool:=decide (0<(r.map (twT ws)).sum)
theorem xn{ws:List Wl}(hU:∀w∈ws,Un5 w)(hF:PF ws){r:List Nat}(R:Rng ws r){t b X Y tot B:Int}(ht:0<t)(hb:0<b)(hB:0<B)(e:(tot:Rat)=(r.map (arT t b X Y ws)).sum*(B:Rat)):decide (0<tot)=aM ws r:=by
 have cp:∀{z:Int},0<z->(0:Rat)<(z:Rat):=fun{z} h=>by exact_mod_cast h
 have kpos:(0:Rat)<(t:Rat)/b:=by rw[Jz];exact J4 (Ma.pos_int ht) (Rat.inv_pos.mpr (Ma.pos_int hb))
 have hk:(0:Rat)<((t:Rat)/b)*((t:Rat)/b)*(B:Rat):=J4 (J4 kpos kpos) (cp hB);rw[DX hU hF R hb]at e;have e1:(tot:Rat)=((t:Rat)/b)*((t:Rat)/b)*(B:Rat)*(((r.map (twT ws)).sum:Int):Rat):=by rw[e];grind
 have s1:=sgn_mul hk (r.map (twT ws)).sum;rw[<-e1]at s1;have s2:=sgn_mul (show(0:Rat)<1 by decide) tot;rw[Rat.one_mul]at s2;rw[s2]at s1;unfold aM;rw[decide_eq_decide,<-Int.sign_eq_one_iff_pos,s1,Int.sign_eq_one_iff_pos]
theorem RL.get{M:MH}{ps:List Addr}{rs:List (List Nat)}(h:RL M ps rs){i:Nat}(hi:i<ps.length):∃r,rs[i]?=some r/\M ps[i]=some (.lst (r.map fun g:Nat=>D.int (g:Int))):=by
 unfold RL at h
 induction h generalizing i with
 |nil=>simp at hi
 |@cons p r ps rs a _ ih=>
  cases i with
  |zero=>exact⟨r,rfl,a⟩
  |succ i=>simpa using ih (by simpa using hi)
theorem jA{α:Type}(f:α->Bool)(l:List α){i:Nat}{r:α}(e:l[i]?=some r):(l.take (i+1)).filter f=(l.take i).filter f++(if f r=true then[r]else[]):=by
 rw[IM,e,List.filter_append]
 congr 1
 simp[List.filter_cons]
def mn(a c:Vc):Vc:=if la a.1 a.2<la c.1 c.2 then a else c
theorem Du{t b X Y:Int}(ht:0<t)(hb:0<b){u v:Vc}(hu:B20 u)(hv:B20 v):(if Ma.ah (Ma.ut t b X 1 u.1) (Ma.ut t b Y 1 u.2) (Ma.ut t b X 1 v.1) (Ma.ut t b Y 1 v.2)then(Ma.ut t b X 1 u.1,Ma.ut t b Y 1 u.2)else(Ma.ut t b X 1 v.1,Ma.ut t b Y 1 v.2))=(Ma.ut t b X 1 (mn u v).1,Ma.ut t b Y 1 (mn u v).2):=by
 have h:=xU (X:=X) (Y:=Y) ht hb hu hv;unfold plt at h;unfold mn;by_cases z:la u.1 u.2<la v.1 v.2
 ·rw[if_pos (h.mpr z),if_pos z]
 ·rw[if_neg (fun q=>z (h.mp q)),if_neg z]
theorem C8{u v:Vc}(hu:B20 u)(hv:B20 v):B20 (mn u v):=by
 unfold mn;split
 ·exact hu
 ·exact hv
theorem nk{ws:List Wl}(hU:∀w∈ws,Un5 w){g:Nat}(hg:g<2*ws.length):B20 (fa ws g):=by
 obtain⟨_,_,w3⟩:=aV (ws:=ws) (k:=((g/2:Nat):Int)) (by omega) (by omega);have W:=hU _ w3;unfold fa fw;by_cases h:g%2=0
 ·rw[if_pos h];exact⟨W.a,W.b⟩
 ·rw[if_neg h];exact⟨W.c,W.d⟩
def fcI(ws:List Wl)(r:List Nat)(i:Nat):Vc:=(r.take i).foldl (fun a g=>mn a (fa ws g)) (fa ws (r.headD 0))
def fc(ws:List Wl)(r:List Nat):Vc:=fcI ws r r.length
theorem qg{ws:List Wl}{r:List Nat}{i g:Nat}(e:r[i]?=some g):fcI ws r (i+1)=mn (fcI ws r i) (fa ws g):=by unfold fcI;rw[IM,e,List.foldl_append];rfl
theorem om{ws:List Wl}(hU:∀w∈ws,Un5 w){r:List Nat}(hr:∀g∈r,g<2*ws.length)(hp:0<r.length):∀i,i<=r.length->B20 (fcI ws r i)
 |0,_=>by
  unfold fcI
  cases r with
  |nil=>simp at hp
  |cons g r=>exact nk hU (hr g (by simp))
 |i+1,h=>by
  rw[qg (G8 (show i<r.length by omega))]
  exact C8 (om hU hr hp i (by omega)) (nk hU (hr _ (HC _)))
def uC(ws:List Wl)(fs:List Int):Int:=(fs.filter fun k=>fs.all fun j=>!abv (wAt ws j) (wAt ws k)).headD 0
theorem zm{ws:List Wl}(hU:∀w∈ws,Un5 w)(hF:PF ws){p q tt:Int}(htt:tt∈bK ws 1 p q)(h:∀w∈(bK ws 1 p q).map (wAt ws),w=wAt ws tt\/(abv (wAt ws tt) w=true/\abv w (wAt ws tt)=false)):uC ws (bK ws 1 p q)=tt:=by
 obtain⟨t,h1,h2,h3⟩:=xc hU hF (show(0:Int)<1 by decide) (fun k hk=>jf hk) (II htt) (pG ws 1 p q);unfold uC;rw[h3];show t=tt
 have e:wAt ws t=wAt ws tt:=by
  rcases h _ (Hi.mpr ⟨t,h1,rfl⟩)with z|z
  ·exact z
  ·rcases h2 _ (Hi.mpr ⟨tt,htt,rfl⟩)with y|y
   ·exact y.symm
   ·rw[y.1]at z;exact absurd z.2 (by decide)
 have a:=ie (jf h1);have c:=ie (jf htt);by_cases ne:t.toNat=tt.toNat
 ·omega
 ·exact absurd ⟨by rw[e],by rw[e]⟩ (hF t.toNat tt.toNat _ _ ne (aV a.1 a.2.1).1 (aV c.1 c.2.1).1).ne
def laF(ws:List Wl)(L:List Int)(u:Vc):Int:=if bK ws 1 u.1 u.2=[]then 0 else(L[2*(uC ws (bK ws 1 u.1 u.2)).toNat]?).getD 0
def gy(L:List Int)(r:List Nat)(v:Int)(i:Nat):List Int:=(r.take i).foldl (fun L g=>L.set g v) L
def fill(L:List Int)(r:List Nat)(v:Int):List Int:=gy L r v r.length
theorem jV{L:List Int}{r:List Nat}{v:Int}{i g:Nat}(e:r[i]?=some g):gy L r v (i+1)=(gy L r v i).set g v:=by unfold gy;rw[IM,e,List.foldl_append];rfl
theorem ik(v:Int):∀(r:List Nat) (L:List Int),(r.foldl (fun L g=>L.set g v) L).length=L.length
 |[],L=>rfl
 |g::r,L=>by rw[Ji,ik v r,List.length_set]
theorem fY(L:List Int)(r:List Nat)(v:Int)(i:Nat):(gy L r v i).length=L.length:=ik v _ L
theorem tO{n j:Nat}(h:j<n):L2.ixN n (j:Int)=some j:=by unfold L2.ixN;rw[if_pos (by omega),if_pos (by omega)];rfl
def fO(m:Nat)(outs:List (List Nat)):Nat->List Int
 |0=>GZ m 0
 |i+1=>fill (fO m outs i) ((outs[i]?).getD []) ((i+1:Nat):Int)
theorem gK(m:Nat)(outs:List (List Nat)):∀i,(fO m outs i).length=m
 |0=>by simp[fO]
 |i+1=>by rw[fO,fill,fY,gK m outs i]
def bR(ws:List Wl)(ins:List (List Nat)):Nat->List Vc
 |0=>[]
 |i+1=>let c:=fc ws ((ins[i]?).getD []);if c∈bR ws ins i then bR ws ins i else bR ws ins i++[c]
def lx(ws:List Wl)(ins:List (List Nat))(c:Vc):Nat->Option Nat
 |0=>none
 |i+1=>if fc ws ((ins[i]?).getD [])=c then some i else lx ws ins c i
theorem jB(ws:List Wl)(ins:List (List Nat)):∀i,(bR ws ins i).Nodup
 |0=>List.nodup_nil
 |i+1=>by
  have ih:=jB ws ins i
  unfold bR
  dsimp only
  split
  ·exact ih
  ·rename_i h
   rw[List.nodup_append]
   refine⟨ih,by simp,fun a ha b hb=>?_⟩
   have:b=fc ws ((ins[i]?).getD []):=by simpa using hb
   subst this
   exact fun z=>h (z▸ha)
theorem iZ(ws:List Wl)(ins:List (List Nat)):∀i,(bR ws ins i).length<=i
 |0=>Gq _
 |i+1=>by
  have ih:=iZ ws ins i
  unfold bR
  dsimp only
  split
  ·omega
  ·simp;omega
theorem fX{ws:List Wl}{ins:List (List Nat)}{c:Vc}:∀{i},c∈bR ws ins i->∃j,lx ws ins c i=some j/\j<i/\fc ws ((ins[j]?).getD [])=c
 |0,h=>by cases h
 |i+1,h=>by
  unfold lx
  by_cases e:fc ws ((ins[i]?).getD [])=c
  ·exact⟨i,by rw[if_pos e],by omega,e⟩
  ·rw[if_neg e]
   have h':c∈bR ws ins i:=by
    unfold bR at h
    dsimp only at h
    split at h
    ·exact h
    ·rcases GY.mp h with z|z
     ·exact z
     ·exact absurd (by simpa using z:c=_).symm e
   obtain⟨j,a,b,d⟩:=fX h'
   exact⟨j,a,by omega,d⟩
def fS(ws:List Wl)(ins:List (List Nat))(L:List Int)(ps:List Vc):Nat->List Int
 |0=>L
 |i+1=>let c:=(ps[i]?).getD (0,0);fill (fS ws ins L ps i) ((ins[(lx ws ins c ins.length).getD 0]?).getD []) (laF ws (fS ws ins L ps i) c)
theorem iO(ws:List Wl)(ins:List (List Nat))(L:List Int)(ps:List Vc):∀i,(fS ws ins L ps i).length=L.length
 |0=>rfl
 |i+1=>by rw[fS,fill,fY,iO ws ins L ps i]
def cx(ws:List Wl)(L:List Int):Prop:=∃(rs:List (List Nat)) (ps:List Vc),Rgs ws (2*ws.length) rs/\ps.Perm (bR ws (rs.filter fun r=>!aM ws r) (rs.filter fun r=>!aM ws r).length)/\ps.Pairwise plt/\
 L=fS ws (rs.filter fun r=>!aM ws r) (fO (2*ws.length) (rs.filter (aM ws)) (rs.filter (aM ws)).length) ps ps.length
theorem lJ{ws:List Wl}{L L':List Int}(h:cx ws L)(h':cx ws L'):L=L':=by obtain⟨rs,ps,R,p1,p2,rfl⟩:=h;obtain⟨rs',ps',R',p1',p2',rfl⟩:=h';have:=xq R R';subst this;have:=wQ (p1.trans p1'.symm) p2 p2';subst this;rfl
theorem cx.len{ws:List Wl}{L:List Int}(h:cx ws L):L.length=2*ws.length:=by obtain⟨rs,ps,R,p1,p2,rfl⟩:=h;rw[iO,gK]
theorem ij(k:SpK)(d:D)(k':SpK):∀kvs:SpT,((kvs.map fun x=>if x.1=k then(x.1,d)else x).find? fun x=>decide (x.1=k')).map (·.2)=if k'=k/\(kvs.any fun x=>decide (x.1=k))=true then some d else(kvs.find? fun x=>decide (x.1=k')).map (·.2)
 |[]=>by simp
 |x::kvs=>by
  have ih:=ij k d k' kvs
  rw[Gs,Ha,Ha,J1]
  by_cases a:x.1=k
  ·rw[if_pos a]
   by_cases b:x.1=k'
   ·have e:k'=k:=b.symm.trans a
    simp[a,e]
   ·have ne:¬k'=k:=fun z=>b (a.trans z.symm)
    rw[if_neg (fun z=>ne z.1)]
    rw[if_neg (fun z=>ne z.1)]at ih
    simp only[decide_eq_false b]
    exact ih
  ·rw[if_neg a]
   by_cases b:x.1=k'
   ·have ne:¬k'=k:=fun z=>a (b.trans z)
    rw[if_neg (fun z=>ne z.1)]
    simp[b]
   ·simp only[decide_eq_false b,decide_eq_false a,Bool.false_or]
    exact ih
theorem vS(kvs:SpT)(k:SpK)(d:D)(k':SpK):dg (putD kvs k d) k'=if k'=k then some d else dg kvs k':=by
 unfold putD dg;by_cases h:(kvs.any fun x=>decide (x.1=k))=true
 ·rw[if_pos h,ij];by_cases e:k'=k
  ·rw[if_pos ⟨e,h⟩,if_pos e]
  ·rw[if_neg (fun z=>e z.1),if_neg e]
 ·rw[if_neg h,List.find?_append];by_cases e:k'=k
  ·subst e;have:(kvs.find? fun x=>decide (x.1=k'))=none:=by rw[List.find?_eq_none];intro x hx hq;exact h (List.any_eq_true.mpr ⟨x,hx,hq⟩)
   rw[this,if_pos rfl];simp
  ·rw[if_neg e];have:([(k,d)]:SpT).find? (fun x=>decide (x.1=k'))=none:=by simp;exact fun z=>e z.symm
   rw[this];simp
theorem xg(kvs:SpT)(k:SpK)(d:D):(putD kvs k d).map (·.1)=if k∈kvs.map (·.1)then kvs.map (·.1)else kvs.map (·.1)++[k]:=by
 unfold putD;have e:((kvs.any fun x=>decide (x.1=k))=true)↔k∈kvs.map (·.1):=by rw[List.any_eq_true,Hi];exact⟨fun zz1_0=>by obtain⟨x,a,b⟩:=zz1_0;exact(⟨x,a,by simpa using b⟩),fun zz2_0=>by obtain⟨x,a,b⟩:=zz2_0;exact(⟨x,a,by simpa using b⟩)⟩
 by_cases h:k∈kvs.map (·.1)
 ·rw[if_pos (e.mpr h),if_pos h,List.map_map];apply IX;intro x _;show(if x.1=k then(x.1,d)else x).1=x.1;split<;>rfl
 ·rw[if_neg (fun z=>h (e.mp z)),if_neg h,GV];rfl
structure RDt(t b X Y:Int)(ws:List Wl)(ins:List (List Nat))(qs:List Addr)(i:Nat)(kvs:SpT):Prop where
 ks:kvs.map (·.1)=(bR ws ins i).map (gk t b X Y)
 vs:∀c,dg kvs (gk t b X Y c)=(lx ws ins c i).bind fun j=>(qs[j]?).map D.ref
theorem RDt.nil(t b X Y:Int)(ws:List Wl)(ins:List (List Nat))(qs:List Addr):RDt t b X Y ws ins qs 0 []:=⟨rfl,fun c=>rfl⟩
theorem RDt.put{t b X Y:Int}{ws:List Wl}{ins:List (List Nat)}{qs:List Addr}{i:Nat}{kvs:SpT}{r:List Nat}{q:Addr}(ht:0<t)(hb:0<b)(h:RDt t b X Y ws ins qs i kvs)(er:ins[i]?=some r)(eq:qs[i]?=some q):RDt t b X Y ws ins qs (i+1) (putD kvs (gk t b X Y (fc ws r)) (.ref q)):=by
 have er':(ins[i]?).getD []=r:=by rw[er];rfl
 refine⟨?_,fun c=>?_⟩
 ·rw[xg,h.ks]
  have ek:bR ws ins (i+1)=if fc ws r∈bR ws ins i then bR ws ins i else bR ws ins i++[fc ws r]:=by
   conv=>lhs;unfold bR
   rw[er']
  rw[ek];by_cases z:fc ws r∈bR ws ins i
  ·rw[if_pos z,if_pos (Hi.mpr ⟨_,z,rfl⟩)]
  ·rw[if_neg z,if_neg (fun y=>by
    obtain⟨c,hc,ec⟩:=Hi.mp y
    exact z ((qR ht hb ec)▸hc)),GV]
   rfl
 ·rw[vS]
  have ea:lx ws ins c (i+1)=if fc ws r=c then some i else lx ws ins c i:=by
   conv=>lhs;unfold lx
   rw[er']
  rw[ea];by_cases z:fc ws r=c
  ·rw[if_pos (by rw[z]),if_pos z];show _=(qs[i]?).map D.ref;rw[eq];rfl
  ·rw[if_neg (fun y=>z (qR ht hb y).symm),if_neg z];exact h.vs c
def sg:Nat->(Nat->Int)->Int
 |0,_=>0
 |n+1,g=>sg n g+g n
theorem aJ{g h:Nat->Int}:∀{n:Nat},(∀k,k<n->g k=h k)->sg n g=sg n h
 |0,_=>rfl
 |n+1,e=>by rw[sg,sg,aJ fun k hk=>e k (by omega),e n (by omega)]
theorem cB(g h:Nat->Int):∀n,sg n (fun k=>g k+h k)=sg n g+sg n h
 |0=>rfl
 |n+1=>by rw[sg,sg,sg,cB g h n];omega
theorem fN(g h:Nat->Int):∀n,sg n (fun k=>g k-h k)=sg n g-sg n h
 |0=>rfl
 |n+1=>by rw[sg,sg,sg,fN g h n];omega
theorem sU:∀n,sg n (fun _=>0)=0
 |0=>rfl
 |n+1=>by rw[sg,sU n];rfl
theorem cg{g:Nat->Int}{n:Nat}(h:∀k,k<n->g k=0):sg n g=0:=by rw[aJ h,sU]
theorem dE(d:Nat->Int)(j:Nat):∀n,sg n (fun k=>if k=j then d k else 0)=if j<n then d j else 0
 |0=>rfl
 |n+1=>by
  rw[sg,dE d j n]
  by_cases e:n=j
  ·subst e;rw[if_neg (Nat.lt_irrefl _),if_pos rfl,if_pos (by omega)];omega
  ·rw[if_neg e]
   by_cases l:j<n
   ·rw[if_pos l,if_pos (by omega)];omega
   ·rw[if_neg l,if_neg (by omega)];rfl
def wn(ws:List Wl)(k:Nat):Wl:=wAt ws (k:Int)
section
variable{ws:List Wl}(hU:∀w∈ws,Un5 w)(hF:PF ws)
include hU in
theorem aF{k:Nat}(h:k<ws.length):Un5 (wn ws k):=hU _ (aV (ws:=ws) (k:=(k:Int)) (by omega) (by omega)).2.2
include hF in
theorem aL{i j:Nat}(hi:i<ws.length)(hj:j<ws.length)(ne:i≠j):Fair (wn ws i) (wn ws j):=by have a:=(aV (ws:=ws) (k:=(i:Int)) (by omega) (by omega)).1;have b:=(aV (ws:=ws) (k:=(j:Int)) (by omega) (by omega)).1;rw[HQ]at a b;exact hF i j _ _ ne a b
def sp(w:Wl)(t:Int):Bool:=decide (l1 w<=t)&&decide (t<l2 w)
theorem aK{w:Wl}{t:Int}:sp w t=true↔l1 w<=t/\t<l2 w:=by unfold sp;simp
def Phi(ws:List Wl)(d:Nat->Int)(q:Nat->Bool)(t:Int):Int:=sg ws.length fun k=>if(sp (wn ws k) t&&q k)=true then d k else 0
def Flow(ws:List Wl)(d:Nat->Int):Prop:=∀t:Int,sg ws.length (fun k=>if l2 (wn ws k)=t then d k else 0)=sg ws.length (fun k=>if l1 (wn ws k)=t then d k else 0)
include hU in
theorem vK{d:Nat->Int}(fl:Flow ws d){q:Nat->Bool}{t:Int}(β:Bool)(hq:∀k,k<ws.length->l1 (wn ws k)=t\/l2 (wn ws k)=t->q k=β):Phi ws d q t=Phi ws d q (t-1):=by
 unfold Phi
 have e:∀k,k<ws.length->(if(sp (wn ws k) t&&q k)=true then d k else 0)=(if(sp (wn ws k) (t-1)&&q k)=true then d k else 0)+(if β=true then((if l1 (wn ws k)=t then d k else 0)-(if l2 (wn ws k)=t then d k else 0))else 0):=fun k hk=>by
  have lt:=(aF hU hk).lt
  have h:=hq k hk
  unfold sp
  generalize l1 (wn ws k)=a at *
  generalize l2 (wn ws k)=b at *
  by_cases x:a=t
  ·have qb:=h (.inl x);rw[qb,decide_eq_true (show a<=t by omega),decide_eq_true (show t<b by omega),decide_eq_false (show ¬a<=t-1 by omega),if_pos x,if_neg (show ¬b=t by omega)];cases β<;>simp
  ·by_cases y:b=t
   ·have qb:=h (.inr y);rw[qb,decide_eq_false (show ¬t<b by omega),decide_eq_true (show a<=t-1 by omega),decide_eq_true (show t-1<b by omega),if_neg x,if_pos y];cases β
    ·simp
    ·simp;omega
   ·rw[if_neg x,if_neg y];have e1:decide (a<=t)=decide (a<=t-1):=by rw[decide_eq_decide];omega
    have e2:decide (t<b)=decide (t-1<b):=by rw[decide_eq_decide];omega
    rw[e1,e2];simp
 rw[aJ e,cB];cases β with
 |false=>rw[show sg ws.length (fun k=>if false=true then((if l1 (wn ws k)=t then d k else 0)-(if l2 (wn ws k)=t then d k else 0))else 0)=0 from cg fun _ _=>rfl];omega
 |true=>
  have z:sg ws.length (fun k=>if true=true then((if l1 (wn ws k)=t then d k else 0)-(if l2 (wn ws k)=t then d k else 0))else 0)=0:=by rw[aJ (h:=fun k=>(if l1 (wn ws k)=t then d k else 0)-(if l2 (wn ws k)=t then d k else 0)) fun k _=>if_pos rfl,fN,fl t];omega
  rw[z];omega
include hU in
theorem eA{d:Nat->Int}(fl:Flow ws d){q:Nat->Bool}:∀(n:Nat) (t:Int),(∀s,t<s->s<=t+n->∃β,∀k,k<ws.length->l1 (wn ws k)=s\/l2 (wn ws k)=s->q k=β)->Phi ws d q (t+n)=Phi ws d q t
 |0,t,_=>by rw[show t+((0:Nat):Int)=t by omega]
 |n+1,t,h=>by
  obtain⟨β,hβ⟩:=h (t+(n+1:Nat)) (by omega) (by omega)
  rw[vK hU fl β hβ,show t+((n+1:Nat):Int)-1=t+(n:Int) by omega]
  exact eA fl n t fun s h1 h2=>h s h1 (by omega)
include hU in
theorem zT{d:Nat->Int}(fl:Flow ws d)(t:Int):Phi ws d (fun _=>true) t=0:=by
 have z:∀s:Int,s<0->Phi ws d (fun _=>true) s=0:=fun s hs=>cg fun k hk=>by
  have U:=aF hU hk
  have:=U.a;have:=U.b
  rw[if_neg]
  intro q
  rw[Bool.and_true,aK]at q
  unfold l1 la at q
  omega
 by_cases h:t<0
 ·exact z t h
 ·have:=eA hU fl (q:=fun _=>true) (t+1).toNat (-1) fun s _ _=>⟨true,fun _ _ _=>rfl⟩;rw[show(-1:Int)+((t+1).toNat:Int)=t by omega,z (-1) (by omega)]at this;exact this
end
theorem F9{w:Wl}(h:Un5 w){t:Int}(e:l1 w=t):w.1=t/100/\w.2.1=t%100:=by
 have:=h.a;have:=h.b
 unfold l1 la at e;omega
theorem FT{w:Wl}(h:Un5 w){t:Int}(e:l2 w=t):w.2.2.1=t/100/\w.2.2.2=t%100:=by
 have:=h.c;have:=h.d
 unfold l2 la at e;omega
def sdc(w:Wl)(t:Int):Int:=sd w (t/100) (t%100)
theorem Gg{w v:Wl}(h:Un5 v){t:Int}(e:l1 v=t):sdc w t=sd1 w v:=by obtain⟨a,b⟩:=F9 h e;unfold sdc sd1;rw[a,b]
theorem FA{w v:Wl}(h:Un5 v){t:Int}(e:l2 v=t):sdc w t=sd2 w v:=by obtain⟨a,b⟩:=FT h e;unfold sdc sd2;rw[a,b]
theorem iG{U V:Wl}(hU:Un5 U)(hV:Un5 V)(F:Fair U V)(h1:l1 U<l2 V)(h2:l2 V<l2 U):abv U V=decide (sd2 U V<0):=by
 have lu:=hU.lt;have lv:=hV.lt;have nz:=F.e2.nz h1 h2;have ap:max (l1 U) (l1 V)<min (l2 U) (l2 V):=bE.mpr ⟨lu,h1,by omega,lv⟩;have pr:(¬(0<sd1 V U/\sd2 V U<0)/\¬(sd1 V U<0/\0<sd2 V U))\/(¬(0<sd1 U V/\sd2 U V<0)/\¬(sd1 U V<0/\0<sd2 U V)):=F.pr.elim (fun z=>.inr (sgp z)) (fun z=>.inl (sgp z));rcases Gy (l1 U) (l1 V)with h|h|h
 ·have n1:=F.e1.nz h (by omega);have q:=within (qa V U) (pA V U) h (by omega) (by omega) h2 pr.symm n1 nz;rw[lG ap h,decide_eq_decide];omega
 ·rw[oK ap h (by omega)]
 ·have n3:=F.e3.nz h (by omega);have q:=nA (pA U V) (qa V U) h (by omega) h2 pr n3 nz;rw[kO ap h,decide_eq_decide];exact q
theorem cO{U V:Wl}(hU:Un5 U)(hV:Un5 V)(F:Fair U V){t:Int}(h1:l1 U<t)(h2:t<l2 U)(e:l1 V=t\/l2 V=t):abv U V=decide (sdc U t<0)/\abv V U=decide (0<sdc U t):=by
 have lu:=hU.lt;have lv:=hV.lt
 have nz:sdc U t≠0/\abv U V=decide (sdc U t<0)/\max (l1 U) (l1 V)<min (l2 U) (l2 V):=by
  rcases e with e|e
  ·have ap:max (l1 U) (l1 V)<min (l2 U) (l2 V):=bE.mpr ⟨lu,by omega,by omega,lv⟩;rw[Gg hV e];exact⟨F.e1.nz (by omega) (by omega),lG ap (by omega),ap⟩
  ·have ap:max (l1 U) (l1 V)<min (l2 U) (l2 V):=bE.mpr ⟨lu,by omega,by omega,lv⟩;rw[FA hV e];exact⟨F.e2.nz (by omega) (by omega),iG hU hV F (by omega) (by omega),ap⟩
 refine⟨nz.2.1,?_⟩;rw[cX hU hV F nz.2.2,nz.2.1,rG nz.1,Bool.not_not]
section
variable{ws:List Wl}(hU:∀w∈ws,Un5 w)(hF:PF ws)
def Bw(ws:List Wl)(d:Nat->Int)(j:Nat):Int:=Phi ws d (fun k=>abv (wn ws j) (wn ws k)) (l1 (wn ws j))
include hU hF in
theorem dD{d:Nat->Int}(fl:Flow ws d){j:Nat}(hj:j<ws.length){t:Int}(h:sp (wn ws j) t=true):Phi ws d (fun k=>abv (wn ws j) (wn ws k)) t=Bw ws d j:=by
 rw[aK]at h;have:=eA hU fl (q:=fun k=>abv (wn ws j) (wn ws k)) (t-l1 (wn ws j)).toNat (l1 (wn ws j)) fun s h1 h2=>⟨decide (sdc (wn ws j) s<0),fun k hk e=>?_⟩
 ·rw[show l1 (wn ws j)+((t-l1 (wn ws j)).toNat:Int)=t by omega]at this;exact this
 ·have ne:j≠k:=fun z=>by subst z;omega
  exact(cO (aF hU hj) (aF hU hk) (aL hF hj hk ne) h1 (by omega) e).1
end
theorem gU(ws:List Wl)(k:Nat):fw ws (2*k)=wn ws k:=by unfold fw wn;rw[if_pos (by omega),show 2*k/2=k by omega]
theorem qj(ws:List Wl)(k:Nat):fw ws (2*k+1)=rev (wn ws k):=by unfold fw wn;rw[if_neg (by omega),show(2*k+1)/2=k by omega]
def prc(a b:Vc):Bool:=decide ((vl a<0/\0<vl b)\/(((vl a<0/\vl b<0)\/(0<vl a/\0<vl b))/\vc a b<0))
theorem d9{a b:Vc}:prc a b=true↔(vl a<0/\0<vl b)\/(((vl a<0/\vl b<0)\/(0<vl a/\0<vl b))/\vc a b<0):=by unfold prc;rw[decide_eq_true_eq]
theorem Ew(a b x:Vc):vl a*vc b x-vl b*vc a x+vl x*vc a b=0:=by unfold vl la vc crs;grind
def sc(z:Int):_root_.Fin 3:=if z<0 then 0 else if z=0 then 1 else 2
theorem sc0{z:Int}:sc z=0↔z<0:=by
 unfold sc;split
 ·simp[*]
 ·split<;>simp[*]
theorem sc1{z:Int}:sc z=1↔z=0:=by
 unfold sc;split
 ·simp;omega
 ·split<;>simp[*]
theorem sc2{z:Int}:sc z=2↔0<z:=by
 unfold sc;split
 ·simp;omega
 ·split
  ·simp;omega
  ·simp;omega
def yY(a r:_root_.Fin 3):_root_.Fin 3:=if a=0 then 2-r else if a=1 then 1 else r
theorem vA(z:Int):sc (-z)=2-sc z:=by
 rcases Gy z 0 with h|h|h
 ·rw[sc0.mpr h,sc2.mpr (by omega)];rfl
 ·rw[sc1.mpr h,sc1.mpr (by omega)];rfl
 ·rw[sc2.mpr h,sc0.mpr (by omega)];rfl
theorem qQ(a r:Int):sc (a*r)=yY (sc a) (sc r):=by
 rcases Gy a 0 with h|h|h
 ·rw[sc0.mpr h];rcases Gy r 0 with k|k|k
  ·rw[sc0.mpr k,sc2.mpr (He h k)];rfl
  ·rw[sc1.mpr k,sc1.mpr (by rw[k,HW])];rfl
  ·rw[sc2.mpr k,sc0.mpr (GU h k)];rfl
 ·rw[sc1.mpr h,sc1.mpr (by rw[h,Int.zero_mul])];rfl
 ·rw[sc2.mpr h];rcases Gy r 0 with k|k|k
  ·rw[sc0.mpr k,sc0.mpr (GK h k)];rfl
  ·rw[sc1.mpr k,sc1.mpr (by rw[k,HW])];rfl
  ·rw[sc2.mpr k,sc2.mpr (GF h k)];rfl
def ok3(a b c:_root_.Fin 3):Bool:=!(a != 0&&b != 0&&c != 0&&(a==2||b==2||c==2))&&!(a != 2&&b != 2&&c != 2&&(a==0||b==0||c==0))
theorem ja(z:Int):(z<0/\sc z=0)\/(z=0/\sc z=1)\/(0<z/\sc z=2):=by
 rcases Gy z 0 with h|h|h
 ·exact .inl ⟨h,sc0.mpr h⟩
 ·exact .inr (.inl ⟨h,sc1.mpr h⟩)
 ·exact .inr (.inr ⟨h,sc2.mpr h⟩)
theorem Dc{u v w:Int}(h:u+v+w=0):ok3 (sc u) (sc v) (sc w)=true:=by rcases ja u with x|x|x<;>rcases ja v with y|y|y<;>rcases ja w with z|z|z<;>rw[x.2,y.2,z.2]<;>first|rfl|(exfalso;omega)
def Ey(a b p:_root_.Fin 3):Bool:=(a==0&&b==2)||(((a==0&&b==0)||(a==2&&b==2))&&p==0)
theorem nT(a b:Vc):prc a b=Ey (sc (vl a)) (sc (vl b)) (sc (vc a b)):=by rw[ID,d9];unfold Ey;simp[sc0,sc2]
theorem vcn(a b:Vc):sc (vc b a)=2-sc (vc a b):=by rw[dJ a b,vA]
theorem Az(a b x:Vc):ok3 (yY (sc (vl a)) (sc (vc b x))) (2-yY (sc (vl b)) (sc (vc a x))) (yY (sc (vl x)) (sc (vc a b)))=true:=by rw[<-qQ,<-qQ,<-qQ,<-vA];exact Dc (by have:=Ew a b x;omega)
theorem iP{a b c:Vc}(h1:prc a b=true)(h2:prc b c=true):prc a c=true:=by
 rw[nT]at *;have id:=Az a b c
 revert h1 h2 id
 generalize sc (vl a)=A;generalize sc (vl b)=B;generalize sc (vl c)=C;generalize sc (vc a b)=p;generalize sc (vc a c)=q;generalize sc (vc b c)=r
 revert A B C p q r
 decide +kernel
theorem bc{a b:Vc}(h1:prc a b=true)(h2:prc b a=true):False:=by rw[d9]at *;have:=dJ a b;omega
theorem uI{a b:Vc}(ha:vl a≠0)(hb:vl b≠0)(h:Ray a b):prc a b=true\/prc b a=true:=by
 rw[d9,d9];have:=dJ a b;by_cases z:vc a b=0
 ·have:=eO (h z);omega
 ·omega
def Er(a b p:_root_.Fin 3):Bool:=p != 1||(a==0&&b==2)||(a==2&&b==0)
theorem qm{a b:Vc}(h:Ray a b):Er (sc (vl a)) (sc (vl b)) (sc (vc a b))=true:=by
 unfold Er;by_cases z:vc a b=0
 ·rcases eO (h z)with q|q
  ·rw[sc0.mpr q.1,sc2.mpr q.2];simp
  ·rw[sc2.mpr q.1,sc0.mpr q.2];simp
 ·have:sc (vc a b)≠1:=fun e=>z (sc1.mp e);simp[this]
def D0(p q r:_root_.Fin 3):Bool:=decide (p<q)||(p==q&&r==0)
theorem BP{b x y:Vc}(h:snr b x y=true):D0 (sc (vc b x)) (sc (vc b y)) (sc (vc x y))=true:=by rw[fW]at h;unfold D0;rcases ft (vc b x)with t|t|t<;>rcases ft (vc b y)with u|u|u<;>rw[t.2,u.2]at h<;>rcases ja (vc b x)with p|p|p<;>rcases ja (vc b y)with q|q|q<;>rcases ja (vc x y)with r|r|r<;>rw[p.2,q.2,r.2]<;>first|rfl|(exfalso;omega)
theorem zt{a b x:Vc}(ha:vl a≠0)(hb:vl b≠0)(hx:vl x≠0)(r1:Ray a b)(r2:Ray a x)(r3:Ray b x)(h:snr a b x=true):(prc a b=true/\prc b x=true)\/(prc b x=true/\prc x a=true)\/(prc x a=true/\prc a b=true):=by
 have h:=BP h;have id:=Az a b x;have r1:=qm r1;have r2:=qm r2;have r3:=qm r3;have ha:sc (vl a)≠1:=fun e=>ha (sc1.mp e);have hb:sc (vl b)≠1:=fun e=>hb (sc1.mp e);have hx:sc (vl x)≠1:=fun e=>hx (sc1.mp e);rw[nT,nT,nT,vcn a x]
 revert h id r1 r2 r3 ha hb hx
 generalize sc (vl a)=A;generalize sc (vl b)=B;generalize sc (vl x)=X;generalize sc (vc a b)=p;generalize sc (vc a x)=q;generalize sc (vc b x)=r
 revert A B X p q r
 decide +kernel
def dw(w:Wl):Vc:=(w.2.2.1-w.1,w.2.2.2-w.2.1)
def ng(v:Vc):Vc:=(-v.1,-v.2)
theorem gh(ws:List Wl)(k:Nat):fd ws (2*k)=dw (wn ws k):=by unfold fd dw;rw[gU]
theorem rS(ws:List Wl)(k:Nat):fd ws (2*k+1)=ng (dw (wn ws k)):=by unfold fd dw ng;rw[qj];unfold rev;exact Prod.ext (by dsimp only;omega) (by dsimp only;omega)
theorem kT(w:Wl):vl (dw w)=l2 w-l1 w:=by unfold vl dw l1 l2 la;dsimp only;omega
theorem sS(v:Vc):vl (ng v)=-vl v:=by unfold vl ng la;dsimp only;omega
theorem Ef(a b:Vc):vc (ng a) (ng b)=vc a b:=by unfold vc ng crs;dsimp only;rw[Int.neg_mul_neg,Int.neg_mul_neg]
theorem cf(ws:List Wl)(k:Nat):la (fa ws (2*k)).1 (fa ws (2*k)).2=l1 (wn ws k):=by unfold fa;rw[gU];rfl
theorem og(ws:List Wl)(k:Nat):la (fa ws (2*k+1)).1 (fa ws (2*k+1)).2=l2 (wn ws k):=by unfold fa;rw[qj];rfl
theorem f7{U V:Wl}(hU:Un5 U)(hV:Un5 V)(F:Fair U V)(e:l1 U=l1 V):abv U V=decide (vc (dw U) (dw V)<0)/\vc (dw U) (dw V)≠0:=by
 have lu:=hU.lt;have lv:=hV.lt;have ap:max (l1 U) (l1 V)<min (l2 U) (l2 V):=bE.mpr ⟨lu,by omega,by omega,lv⟩;obtain⟨a1,a2⟩:=eR hU.b hV.b (show la U.1 U.2.1=la V.1 V.2.1 from e);have s1:sd2 U V=vc (dw U) (dw V):=by unfold sd2 sd vc dw crs;rw[a1,a2]
 have s2:sd2 V U=-vc (dw U) (dw V):=by unfold sd2 sd vc dw crs;rw[a1,a2];grind
 rcases Gy (l2 U) (l2 V)with h|h|h
 ·have nz:=F.e4.nz (by omega) h;rw[sa ap e h,s2];refine⟨by rw[decide_eq_decide];omega,by omega⟩
 ·exact absurd ⟨e,h⟩ F.ne
 ·have nz:=F.e2.nz (by omega) h;rw[oK ap e (by omega),s1];exact⟨rfl,by omega⟩
theorem vR{U V:Wl}(hU:Un5 U)(hV:Un5 V)(F:Fair U V)(e:l2 U=l2 V):abv U V=decide (0<vc (dw U) (dw V))/\vc (dw U) (dw V)≠0:=by
 have lu:=hU.lt;have lv:=hV.lt;have ap:max (l1 U) (l1 V)<min (l2 U) (l2 V):=bE.mpr ⟨lu,by omega,by omega,lv⟩;obtain⟨a1,a2⟩:=eR hU.d hV.d (show la U.2.2.1 U.2.2.2=la V.2.2.1 V.2.2.2 from e);have s1:sd1 U V=-vc (dw U) (dw V):=by unfold sd1 sd vc dw crs;rw[a1,a2];grind
 have s2:sd1 V U=vc (dw U) (dw V):=by unfold sd1 sd vc dw crs;rw[a1,a2];grind
 rcases Gy (l1 U) (l1 V)with h|h|h
 ·have nz:=F.e1.nz h (by omega);rw[lG ap h,s1];refine⟨by rw[decide_eq_decide];omega,by omega⟩
 ·exact absurd ⟨h,e⟩ F.ne
 ·have nz:=F.e3.nz h (by omega);rw[kO ap h,s2];exact⟨rfl,by omega⟩
def Pf(ws:List Wl)(d:Nat->Int)(f:Nat):Int:=if f%2=0 then Bw ws d (f/2)+d (f/2)else Bw ws d (f/2)
theorem df(ws:List Wl)(d:Nat->Int)(k:Nat):Pf ws d (2*k)=Bw ws d k+d k:=by unfold Pf;rw[if_pos (by omega),show 2*k/2=k by omega]
theorem iU(ws:List Wl)(d:Nat->Int)(k:Nat):Pf ws d (2*k+1)=Bw ws d k:=by unfold Pf;rw[if_neg (by omega),show(2*k+1)/2=k by omega]
def Zc(ws:List Wl)(d:Nat->Int)(t:Int):Int:=sg ws.length fun k=>if l1 (wn ws k)<t/\t<l2 (wn ws k)/\0<sdc (wn ws k) t then d k else 0
def Es(ws:List Wl)(d:Nat->Int)(t:Int)(v:Vc):Int:=sg ws.length fun k=>(if l2 (wn ws k)=t/\prc (ng (dw (wn ws k))) v=true then d k else 0)-(if l1 (wn ws k)=t/\prc (dw (wn ws k)) v=true then d k else 0)
section
variable{ws:List Wl}(hU:∀w∈ws,Un5 w)(hF:PF ws){d:Nat->Int}(fl:Flow ws d)
include hU hF fl
theorem zh{j:Nat}(hj:j<ws.length):Pf ws d (2*j)=Zc ws d (l1 (wn ws j))+Es ws d (l1 (wn ws j)) (dw (wn ws j)):=by
 rw[df];have one:d j=sg ws.length (fun k=>if k=j then d k else 0):=by rw[dE,if_pos hj]
 have bal:=fl (l1 (wn ws j));have J:=aF hU hj;have jl:=J.lt;have vj:=kT (wn ws j);generalize et:l1 (wn ws j)=t at *;rw[one];unfold Bw Phi Zc Es;rw[et,<-cB,<-cB];have z:sg ws.length (fun k=>(if l1 (wn ws k)=t then d k else 0)-(if l2 (wn ws k)=t then d k else 0))=0:=by rw[fN];omega
 refine Eq.trans (aJ (h:=fun k=>((if l1 (wn ws k)<t/\t<l2 (wn ws k)/\0<sdc (wn ws k) t then d k else 0)+((if l2 (wn ws k)=t/\prc (ng (dw (wn ws k))) (dw (wn ws j))=true then d k else 0)-(if l1 (wn ws k)=t/\prc (dw (wn ws k)) (dw (wn ws j))=true then d k else 0)))+((if l1 (wn ws k)=t then d k else 0)-(if l2 (wn ws k)=t then d k else 0))) fun k hk=>?_) (by rw[cB (fun k=>(if l1 (wn ws k)<t/\t<l2 (wn ws k)/\0<sdc (wn ws k) t then d k else 0)+_),z];omega);dsimp only;show(if(sp (wn ws k) t&&abv (wn ws j) (wn ws k))=true then d k else 0)+(if k=j then d k else 0)=_;have K:=aF hU hk;have kl:=K.lt;by_cases ej:k=j
 ·subst ej;rw[if_pos rfl,bC J,Iy,if_neg (by decide),if_neg (by omega),if_neg (fun q=>by omega),et,if_pos rfl,if_neg (show ¬l2 (wn ws k)=t by omega)];have:¬(t=t/\prc (dw (wn ws k)) (dw (wn ws k))=true):=fun q=>bc q.2 q.2;rw[if_neg this];omega
 ·rw[if_neg ej];have F:=aL hF hj hk (fun q=>ej q.symm);have vk:=kT (wn ws k);rcases Gy (l1 (wn ws k)) t with x|x|x
  ·rcases Gy (l2 (wn ws k)) t with y|y|y
   ·have s:sp (wn ws k) t=false:=by unfold sp;rw[decide_eq_false (show ¬t<l2 (wn ws k) by omega),Iy]
    rw[s,Hd,if_neg (by decide),if_neg (by omega),if_neg (by omega),if_neg (by omega),if_neg (by omega),if_neg (by omega)];rfl
   ·have s:sp (wn ws k) t=false:=by unfold sp;rw[decide_eq_false (show ¬t<l2 (wn ws k) by omega),Iy]
    have p:prc (ng (dw (wn ws k))) (dw (wn ws j))=true:=d9.mpr (.inl ⟨by rw[sS];omega,by omega⟩);rw[s,Hd,if_neg (by decide),if_neg (by omega),if_pos ⟨y,p⟩,if_neg (by omega),if_neg (by omega),if_pos y];omega
   ·have s:sp (wn ws k) t=true:=aK.mpr ⟨by omega,y⟩;have T:=(cO K J F.swap x y (.inl et)).2;rw[s,Hw,T,if_neg (show ¬(l2 (wn ws k)=t/\_) by omega),if_neg (show ¬(l1 (wn ws k)=t/\_) by omega),if_neg (show ¬l1 (wn ws k)=t by omega),if_neg (show ¬l2 (wn ws k)=t by omega)];by_cases q:0<sdc (wn ws k) t
    ·rw[if_pos (by simpa using q),if_pos ⟨x,y,q⟩];omega
    ·rw[if_neg (by simpa using q),if_neg (fun z=>q z.2.2)];omega
  ·have s:sp (wn ws k) t=true:=aK.mpr ⟨by omega,by omega⟩;obtain⟨A,nz⟩:=f7 J K F (by omega)
   have P:prc (dw (wn ws k)) (dw (wn ws j))=decide (0<vc (dw (wn ws j)) (dw (wn ws k))):=by
    rw[ID,d9,decide_eq_true_eq]
    have:=dJ (dw (wn ws j)) (dw (wn ws k))
    omega
   rw[s,Hw,A,P,if_neg (show ¬(l1 (wn ws k)<t/\_) by omega),if_neg (show ¬(l2 (wn ws k)=t/\_) by omega),if_pos x,if_neg (show ¬l2 (wn ws k)=t by omega)];by_cases q:vc (dw (wn ws j)) (dw (wn ws k))<0
   ·rw[if_pos (by simpa using q),if_neg (fun z=>by have:=of_decide_eq_true z.2;omega)];omega
   ·rw[if_neg (by simpa using q),if_pos ⟨x,decide_eq_true (by omega)⟩];omega
  ·have s:sp (wn ws k) t=false:=by unfold sp;rw[decide_eq_false (show ¬l1 (wn ws k)<=t by omega),Hd]
   rw[s,Hd,if_neg (by decide),if_neg (by omega),if_neg (by omega),if_neg (by omega),if_neg (by omega),if_neg (by omega)];rfl
theorem C5{j:Nat}(hj:j<ws.length):Pf ws d (2*j+1)=Zc ws d (l2 (wn ws j))+Es ws d (l2 (wn ws j)) (ng (dw (wn ws j))):=by
 rw[iU];have J:=aF hU hj;have jl:=J.lt;have vj:=kT (wn ws j);have vnj:=sS (dw (wn ws j));rw[<-dD hU hF fl hj (t:=l2 (wn ws j)-1) (aK.mpr ⟨by omega,by omega⟩)];generalize et:l2 (wn ws j)=t at *;unfold Phi Zc Es;rw[<-cB];refine aJ fun k hk=>?_;dsimp only;show(if(sp (wn ws k) (t-1)&&abv (wn ws j) (wn ws k))=true then d k else 0)=_;have K:=aF hU hk;have kl:=K.lt;by_cases ej:k=j
 ·subst ej;rw[bC J,Iy,if_neg (by decide),if_neg (by omega),if_neg (fun q=>bc q.2 q.2),if_neg (by omega)];rfl
 ·have F:=aL hF hj hk (fun q=>ej q.symm);have vk:=kT (wn ws k);have vnk:=sS (dw (wn ws k));rcases Gy (l1 (wn ws k)) t with x|x|x
  ·rcases Gy (l2 (wn ws k)) t with y|y|y
   ·have s:sp (wn ws k) (t-1)=false:=by unfold sp;rw[decide_eq_false (show ¬t-1<l2 (wn ws k) by omega),Iy]
    rw[s,Hd,if_neg (by decide),if_neg (by omega),if_neg (by omega),if_neg (by omega)];rfl
   ·have s:sp (wn ws k) (t-1)=true:=aK.mpr ⟨by omega,by omega⟩;obtain⟨A,nz⟩:=vR J K F (by omega)
    have P:prc (ng (dw (wn ws k))) (ng (dw (wn ws j)))=decide (0<vc (dw (wn ws j)) (dw (wn ws k))):=by
     rw[ID,d9,decide_eq_true_eq,Ef]
     have:=dJ (dw (wn ws j)) (dw (wn ws k))
     omega
    rw[s,Hw,A,P,if_neg (show ¬(l1 (wn ws k)<t/\_) by omega),if_neg (show ¬(l1 (wn ws k)=t/\_) by omega)];by_cases q:0<vc (dw (wn ws j)) (dw (wn ws k))
    ·rw[if_pos (by simpa using q),if_pos ⟨y,decide_eq_true q⟩];omega
    ·rw[if_neg (by simpa using q),if_neg (fun z=>q (of_decide_eq_true z.2))];rfl
   ·have s:sp (wn ws k) (t-1)=true:=aK.mpr ⟨by omega,by omega⟩;have T:=(cO K J F.swap x y (.inr et)).2;rw[s,Hw,T,if_neg (show ¬(l2 (wn ws k)=t/\_) by omega),if_neg (show ¬(l1 (wn ws k)=t/\_) by omega)];by_cases q:0<sdc (wn ws k) t
    ·rw[if_pos (by simpa using q),if_pos ⟨x,y,q⟩];omega
    ·rw[if_neg (by simpa using q),if_neg (fun z=>q z.2.2)];omega
  ·have s:sp (wn ws k) (t-1)=false:=by unfold sp;rw[decide_eq_false (show ¬l1 (wn ws k)<=t-1 by omega),Hd]
   have p:¬(l1 (wn ws k)=t/\prc (dw (wn ws k)) (ng (dw (wn ws j)))=true):=fun q=>by
    have:=d9.mp q.2
    omega
   rw[s,Hd,if_neg (by decide),if_neg (by omega),if_neg (by omega),if_neg p];rfl
  ·have s:sp (wn ws k) (t-1)=false:=by unfold sp;rw[decide_eq_false (show ¬l1 (wn ws k)<=t-1 by omega),Hd]
   rw[s,Hd,if_neg (by decide),if_neg (by omega),if_neg (by omega),if_neg (by omega)];rfl
theorem tX{g:Nat}(hg:g<2*ws.length):Pf ws d g=Zc ws d (la (fa ws g).1 (fa ws g).2)+Es ws d (la (fa ws g).1 (fa ws g).2) (fd ws g):=by
 rcases Iz g with h|h
 ·obtain⟨k,rfl⟩:∃k,g=2*k:=⟨g/2,by omega⟩;rw[cf,gh];exact zh hU hF fl (by omega)
 ·obtain⟨k,rfl⟩:∃k,g=2*k+1:=⟨g/2,by omega⟩;rw[og,rS];exact C5 hU hF fl (by omega)
end
def eF(d:Nat->Int)(g:Nat):Int:=if g%2=0 then -d (g/2)else d (g/2)
theorem C0(d:Nat->Int){n g:Nat}(hg:g<2*n):eF d g=sg n fun k=>(if 2*k+1=g then d k else 0)-(if 2*k=g then d k else 0):=by
 rw[fN];unfold eF;by_cases h:g%2=0
 ·rw[if_pos h,show sg n (fun k=>if 2*k+1=g then d k else 0)=0 from cg fun k _=>if_neg (by omega),aJ (h:=fun k=>if k=g/2 then d k else 0) fun k _=>?_,dE,if_pos (by omega)]
  ·omega
  ·by_cases e:k=g/2
   ·rw[if_pos e,if_pos (by omega)]
   ·rw[if_neg e,if_neg (by omega)]
 ·rw[if_neg h,show sg n (fun k=>if 2*k=g then d k else 0)=0 from cg fun k _=>if_neg (by omega),aJ (h:=fun k=>if k=g/2 then d k else 0) fun k _=>?_,dE,if_pos (by omega)]
  ·omega
  ·by_cases e:k=g/2
   ·rw[if_pos e,if_pos (by omega)]
   ·rw[if_neg e,if_neg (by omega)]
theorem ET(ws:List Wl)(d:Nat->Int)(f:Nat):Pf ws d f=Pf ws d (fx f)+eF d (fx f):=by
 unfold Pf eF;rw[(jJ f).1,(jJ f).2];by_cases h:f%2=0
 ·rw[if_pos h,if_neg (by omega),if_neg (by omega)]
 ·rw[if_neg h,if_pos (by omega),if_pos (by omega)];omega
theorem iW{A B C:Prop}[Decidable A][Decidable B][Decidable C]{x:Int}(h:A↔B\/C)(n:¬(B/\C)):(if A then x else 0)=(if B then x else 0)+(if C then x else 0):=by
 by_cases b:B
 ·rw[if_pos (h.mpr (.inl b)),if_pos b,if_neg fun c=>n ⟨b,c⟩];omega
 ·by_cases c:C
  ·rw[if_pos (h.mpr (.inr c)),if_neg b,if_pos c];omega
  ·rw[if_neg fun a=>(h.mp a).elim b c,if_neg b,if_neg c];rfl
section
variable{ws:List Wl}(hU:∀w∈ws,Un5 w)(hF:PF ws)
include hU in
theorem pf{g:Nat}(hg:g<2*ws.length):vl (fd ws g)≠0:=by
 rcases Iz g with h|h
 ·obtain⟨k,rfl⟩:∃k,g=2*k:=⟨g/2,by omega⟩;have:=(aF hU (show k<ws.length by omega)).lt;rw[gh,kT];omega
 ·obtain⟨k,rfl⟩:∃k,g=2*k+1:=⟨g/2,by omega⟩;have:=(aF hU (show k<ws.length by omega)).lt;rw[rS,sS,kT];omega
include hU in
theorem EA{g:Nat}(hg:g<2*ws.length):0<=(fa ws g).2/\(fa ws g).2<=20:=by
 rcases Iz g with h|h
 ·obtain⟨k,rfl⟩:∃k,g=2*k:=⟨g/2,by omega⟩;unfold fa;rw[gU];exact(aF hU (show k<ws.length by omega)).b
 ·obtain⟨k,rfl⟩:∃k,g=2*k+1:=⟨g/2,by omega⟩;unfold fa;rw[qj];exact(aF hU (show k<ws.length by omega)).d
include hU in
theorem Ax{g h:Nat}(hg:g<2*ws.length)(hh:h<2*ws.length)(e:la (fa ws g).1 (fa ws g).2=la (fa ws h).1 (fa ws h).2):fa ws g=fa ws h:=by obtain⟨a,b⟩:=eR (EA hU hg) (EA hU hh) e;exact Prod.ext a b
def tf(ws:List Wl)(g:Nat):Int:=la (fa ws g).1 (fa ws g).2
variable{d:Nat->Int}(fl:Flow ws d)
include hU hF fl in
theorem Eh{f:Nat}(hf:f<2*ws.length):Pf ws d (bh ws f)=Pf ws d f:=by
 have h0:=jz hf;have h1:=AM hU hF hf;have e1:fa ws (bh ws f)=fa ws (fx f):=by rw[ju hU hF hf,ez]
 rw[ET ws d f,tX hU hF fl h1,tX hU hF fl h0,e1];have bal:=fl (la (fa ws (fx f)).1 (fa ws (fx f)).2);have inG:∀g,g<2*ws.length->la (fa ws g).1 (fa ws g).2=la (fa ws (fx f)).1 (fa ws (fx f)).2->fa ws g=fb ws f:=fun g hg e=>by rw[Ax hU hg h0 e,ez]
 have ne1:∀k,la (fa ws (2*k)).1 (fa ws (2*k)).2=l1 (wn ws k):=cf ws;have ne2:∀k,la (fa ws (2*k+1)).1 (fa ws (2*k+1)).2=l2 (wn ws k):=og ws;have pd1:∀k,fd ws (2*k)=dw (wn ws k):=gh ws;have pd2:∀k,fd ws (2*k+1)=ng (dw (wn ws k)):=rS ws;have gz:=C0 d h0;generalize et:la (fa ws (fx f)).1 (fa ws (fx f)).2=t at *;have G1:∀k,k<ws.length->l1 (wn ws k)=t->fa ws (2*k)=fb ws f:=fun k hk e=>inG _ (by omega) (by rw[ne1];exact e);have G2:∀k,k<ws.length->l2 (wn ws k)=t->fa ws (2*k+1)=fb ws f:=fun k hk e=>inG _ (by omega) (by rw[ne2];exact e);have own1:∀k,2*k=fx f->l1 (wn ws k)=t:=fun k e=>by rw[<-ne1,e,et]
 have own2:∀k,2*k+1=fx f->l2 (wn ws k)=t:=fun k e=>by rw[<-ne2,e,et]
 rcases gb hU hF hf with⟨c,e⟩|⟨m,all⟩
 ·-- the only one
  have only:∀g,g<2*ws.length->fa ws g=fb ws f->g=fx f:=fun g hg e=>Classical.byContradiction fun ne=>by
   have:g∈gI ws f:=bA.mpr ⟨hg,e,ne⟩
   rw[c]at this;cases this
  rw[e]
  have z:eF d (fx f)=0:=by
   rw[gz]
   have:=aJ (n:=ws.length) (g:=fun k=>(if 2*k+1=fx f then d k else 0)-(if 2*k=fx f then d k else 0)) (h:=fun k=>(if l2 (wn ws k)=t then d k else 0)-(if l1 (wn ws k)=t then d k else 0)) fun k hk=>by
    have a1:(2*k+1=fx f)↔l2 (wn ws k)=t:=⟨own2 k,fun e=>only _ (by omega) (G2 k hk e)⟩
    have a2:(2*k=fx f)↔l1 (wn ws k)=t:=⟨own1 k,fun e=>only _ (by omega) (G1 k hk e)⟩
    simp only[a1,a2]
   rw[this,fN,bal];omega
  rw[z];omega
 ·obtain⟨m1,m2,m3⟩:=bA.mp m;have ry:∀g h,g<2*ws.length->h<2*ws.length->fa ws g=fb ws f->fa ws h=fb ws f->g≠h->Ray (fd ws g) (fd ws h):=fun g h hg hh a b ne=>f6 hU hF hg hh ne (by rw[a,b]);have f0:fa ws (fx f)=fb ws f:=ez ws f;have cyc:∀x,x<2*ws.length->fa ws x=fb ws f->x≠fx f->x≠bh ws f->(prc (fd ws (fx f)) (fd ws (bh ws f))=true/\prc (fd ws (bh ws f)) (fd ws x)=true)\/(prc (fd ws (bh ws f)) (fd ws x)=true/\prc (fd ws x) (fd ws (fx f))=true)\/(prc (fd ws x) (fd ws (fx f))=true/\prc (fd ws (fx f)) (fd ws (bh ws f))=true):=fun x hx ex n0 n1=>zt (pf hU h0) (pf hU h1) (pf hU hx) (ry _ _ h0 h1 f0 m2 (fun z=>m3 z.symm)) (ry _ _ h0 hx f0 ex (fun z=>n0 z.symm)) (ry _ _ h1 hx m2 ex (fun z=>n1 z.symm)) ((all x (bA.mpr ⟨hx,ex,n0⟩)).resolve_left n1);rw[Int.add_assoc]
  congr 1
  rw[gz];unfold Es;rcases uI (pf hU h0) (pf hU h1) (ry _ _ h0 h1 f0 m2 (fun z=>m3 z.symm))with p|p
  ·have key:∀x,x<2*ws.length->fa ws x=fb ws f->(prc (fd ws x) (fd ws (bh ws f))=true↔prc (fd ws x) (fd ws (fx f))=true\/x=fx f):=fun x hx ex=>by
    by_cases n0:x=fx f
    ·subst n0;exact⟨fun _=>.inr rfl,fun _=>p⟩
    ·by_cases n1:x=bh ws f
     ·subst n1;exact⟨fun q=>(bc q q).elim,fun q=>q.elim (fun q=>(bc p q).elim) (fun q=>absurd q n0)⟩
     ·rcases cyc x hx ex n0 n1 with⟨_,q⟩|⟨q,r⟩|⟨q,_⟩
      ·exact⟨fun z=>(bc q z).elim,fun z=>z.elim (fun z=>(bc q (iP z p)).elim) fun z=>absurd z n0⟩
      ·exact(bc p (iP q r)).elim
      ·exact⟨fun _=>.inl q,fun _=>iP q p⟩
   rw[<-cB];refine aJ fun k hk=>?_
   have A:(l2 (wn ws k)=t/\prc (ng (dw (wn ws k))) (fd ws (bh ws f))=true)↔(l2 (wn ws k)=t/\prc (ng (dw (wn ws k))) (fd ws (fx f))=true)\/2*k+1=fx f:=by
    constructor
    ·rintro⟨a,b⟩;rw[<-pd2]at b;rcases(key _ (by omega) (G2 k hk a)).mp b with q|q
     ·rw[pd2]at q;exact .inl ⟨a,q⟩
     ·exact .inr q
    ·intro z;have a:l2 (wn ws k)=t:=z.elim (fun q=>q.1) (own2 k);refine⟨a,?_⟩;rw[<-pd2];exact(key _ (by omega) (G2 k hk a)).mpr (z.imp (fun q=>by rw[pd2];exact q.2) id)
   have B:(l1 (wn ws k)=t/\prc (dw (wn ws k)) (fd ws (bh ws f))=true)↔(l1 (wn ws k)=t/\prc (dw (wn ws k)) (fd ws (fx f))=true)\/2*k=fx f:=by
    constructor
    ·rintro⟨a,b⟩;rw[<-pd1]at b;rcases(key _ (by omega) (G1 k hk a)).mp b with q|q
     ·rw[pd1]at q;exact .inl ⟨a,q⟩
     ·exact .inr q
    ·intro z;have a:l1 (wn ws k)=t:=z.elim (fun q=>q.1) (own1 k);refine⟨a,?_⟩;rw[<-pd1];exact(key _ (by omega) (G1 k hk a)).mpr (z.imp (fun q=>by rw[pd1];exact q.2) id)
   have C:¬((l2 (wn ws k)=t/\prc (ng (dw (wn ws k))) (fd ws (fx f))=true)/\2*k+1=fx f):=fun zz1_0=>by obtain⟨⟨_,q⟩,e⟩:=zz1_0;rw[<-pd2,e]at q;exact bc q q
   have D:¬((l1 (wn ws k)=t/\prc (dw (wn ws k)) (fd ws (fx f))=true)/\2*k=fx f):=fun zz2_0=>by obtain⟨⟨_,q⟩,e⟩:=zz2_0;rw[<-pd1,e]at q;exact bc q q
   rw[iW A C,iW B D];omega
  ·have key:∀x,x<2*ws.length->fa ws x=fb ws f->prc (fd ws x) (fd ws (bh ws f))≠true/\(prc (fd ws x) (fd ws (fx f))=true\/x=fx f):=fun x hx ex=>by
    by_cases n0:x=fx f
    ·subst n0;exact⟨fun q=>bc p q,.inr rfl⟩
    ·by_cases n1:x=bh ws f
     ·subst n1;exact⟨fun q=>bc q q,.inl p⟩
     ·rcases cyc x hx ex n0 n1 with⟨q,_⟩|⟨q,r⟩|⟨_,q⟩
      ·exact(bc p q).elim
      ·exact⟨fun z=>bc q z,.inl r⟩
      ·exact(bc p q).elim
   rw[cg fun k hk=>by
    rw[if_neg fun z=>(key _ (by omega) (G2 k hk z.1)).1 (by rw[pd2];exact z.2),if_neg fun z=>(key _ (by omega) (G1 k hk z.1)).1 (by rw[pd1];exact z.2)];rfl]
   rw[<-cB,aJ (h:=fun k=>(if l2 (wn ws k)=t then d k else 0)-(if l1 (wn ws k)=t then d k else 0)) fun k hk=>?_,fN,bal]
   ·omega
   have A:(l2 (wn ws k)=t)↔(l2 (wn ws k)=t/\prc (ng (dw (wn ws k))) (fd ws (fx f))=true)\/2*k+1=fx f:=by
    constructor
    ·intro a;rcases(key _ (by omega) (G2 k hk a)).2 with q|q
     ·rw[pd2]at q;exact .inl ⟨a,q⟩
     ·exact .inr q
    ·exact fun z=>z.elim (fun q=>q.1) (own2 k)
   have B:(l1 (wn ws k)=t)↔(l1 (wn ws k)=t/\prc (dw (wn ws k)) (fd ws (fx f))=true)\/2*k=fx f:=by
    constructor
    ·intro a;rcases(key _ (by omega) (G1 k hk a)).2 with q|q
     ·rw[pd1]at q;exact .inl ⟨a,q⟩
     ·exact .inr q
    ·exact fun z=>z.elim (fun q=>q.1) (own1 k)
   have C:¬((l2 (wn ws k)=t/\prc (ng (dw (wn ws k))) (fd ws (fx f))=true)/\2*k+1=fx f):=fun zz3_0=>by obtain⟨⟨_,q⟩,e⟩:=zz3_0;rw[<-pd2,e]at q;exact bc q q
   have D:¬((l1 (wn ws k)=t/\prc (dw (wn ws k)) (fd ws (fx f))=true)/\2*k=fx f):=fun zz4_0=>by obtain⟨⟨_,q⟩,e⟩:=zz4_0;rw[<-pd1,e]at q;exact bc q q
   rw[iW A C,iW B D];omega
end
theorem wF{ws:List Wl}{f k:Nat}(h:NR ws f k):(rn ws f k).Nodup:=by unfold rn;rw[List.nodup_iff_pairwise_ne,List.pairwise_map];refine List.Pairwise.imp_of_mem ?_ (List.pairwise_lt_range (n:=k+1));intro a b ha hb hab;exact h a b hab (by have:=Hq.mp hb;omega)
theorem eQ{ws:List Wl}{f k g:Nat}:g∈rn ws f k↔∃i,i<=k/\itb ws f i=g:=by unfold rn;rw[Hi];exact⟨fun zz1_0=>by obtain⟨i,h,e⟩:=zz1_0;exact(⟨i,by have:=Hq.mp h;omega,e⟩),fun zz2_0=>by obtain⟨i,h,e⟩:=zz2_0;exact(⟨i,Hq.mpr (by omega),e⟩)⟩
theorem kQ(ψ:Nat->Int){n:Nat}:∀r:List Nat,r.Nodup->(∀g∈r,g<2*n)->(r.map ψ).sum=sg n fun k=>(if 2*k∈r then ψ (2*k)else 0)+(if 2*k+1∈r then ψ (2*k+1)else 0)
 |[],_,_=>by rw[cg fun k _=>by simp];rfl
 |g::r,nd,h=>by
  rw[List.nodup_cons]at nd
  rw[Gs,Hz,kQ ψ r nd.2 fun x hx=>h x (Ho _ hx)]
  have hg:=h g HK
  have e:ψ g=sg n fun k=>(if 2*k=g then ψ (2*k)else 0)+(if 2*k+1=g then ψ (2*k+1)else 0):=by
   rw[cB]
   by_cases p:g%2=0
   ·rw[show sg n (fun k=>if 2*k+1=g then ψ (2*k+1)else 0)=0 from cg fun k _=>if_neg (by omega),aJ (h:=fun k=>if k=g/2 then ψ (2*k)else 0) fun k _=>?_,dE (fun k=>ψ (2*k)),if_pos (by omega),show 2*(g/2)=g by omega]
    ·omega
    ·by_cases e:k=g/2
     ·rw[if_pos e,if_pos (by omega)]
     ·rw[if_neg e,if_neg (by omega)]
   ·rw[show sg n (fun k=>if 2*k=g then ψ (2*k)else 0)=0 from cg fun k _=>if_neg (by omega),aJ (h:=fun k=>if k=g/2 then ψ (2*k+1)else 0) fun k _=>?_,dE (fun k=>ψ (2*k+1)),if_pos (by omega),show 2*(g/2)+1=g by omega]
    ·omega
    ·by_cases e:k=g/2
     ·rw[if_pos e,if_pos (by omega)]
     ·rw[if_neg e,if_neg (by omega)]
  rw[e,<-cB]
  refine aJ fun k _=>?_
  have m:∀x:Nat,(x∈g::r)↔(x=g)\/x∈r:=fun x=>Hf
  have n1:∀x:Nat,¬(x=g/\x∈r):=fun x zz3_0=>by obtain⟨a,b⟩:=zz3_0;exact(nd.1 (a▸b))
  rw[iW (m (2*k)) (n1 (2*k)),iW (m (2*k+1)) (n1 (2*k+1))]
  omega
def dR(r:List Nat)(k:Nat):Int:=(if 2*k∈r then 1 else 0)-(if 2*k+1∈r then 1 else 0)
theorem xB(r:List Nat)(k:Nat)(x:Int):(if 2*k∈r then x else 0)+(if 2*k+1∈r then -x else 0)=dR r k*x:=by unfold dR;split<;>split<;>first|(simp;done)|(simp;omega)
section
variable{ws:List Wl}(hU:∀w∈ws,Un5 w)(hF:PF ws){f:Nat}(hf:f<2*ws.length){r:List Nat}(R:gN ws f r)
include hU hF hf R
theorem de:∀g∈r,g<2*ws.length:=fun g hg=>by obtain⟨k,n,e,rfl⟩:=R;obtain⟨i,_,rfl⟩:=eQ.mp hg;exact cY hU hF hf i
theorem sV:r.Nodup:=by obtain⟨k,n,e,rfl⟩:=R;exact wF n
theorem nI:∀g∈r,bh ws g∈r:=fun g hg=>by
 obtain⟨k,n,e,rfl⟩:=R;obtain⟨i,hi,rfl⟩:=eQ.mp hg;by_cases h:i=k
 ·subst h;rw[e];exact eQ.mpr ⟨0,by omega,rfl⟩
 ·exact eQ.mpr ⟨i+1,by omega,rfl⟩
theorem uX:f∈r:=by obtain⟨k,n,e,rfl⟩:=R;exact eQ.mpr ⟨0,by omega,rfl⟩
theorem m8(φ:Vc->Int):sg ws.length (fun k=>dR r k*(φ (fb ws (2*k))-φ (fa ws (2*k))))=0:=by
 have nd:=sV hU hF hf R;have lt:=de hU hF hf R;have key:=kQ (fun g=>φ (fb ws g)-φ (fa ws g)) r nd lt
 have z:(r.map fun g=>φ (fb ws g)-φ (fa ws g)).sum=0:=by
  obtain⟨k,n,e,rfl⟩:=R
  have key:∀k,((rn ws f k).map fun g=>φ (fb ws g)-φ (fa ws g)).sum=φ (fb ws (itb ws f k))-φ (fa ws f):=fun k=>by
   induction k with
   |zero=>rw[tL];simp only[Gs,Ig,Hz,List.sum_nil,Jr];rfl
   |succ k ih=>
    rw[ox,GV,List.sum_append,ih]
    simp only[Gs,Ig,Hz,List.sum_nil]
    have:fa ws (itb ws f (k+1))=fb ws (itb ws f k):=ju hU hF (cY hU hF hf k)
    rw[this]
    omega
  rw[key,<-ju hU hF (cY hU hF hf k),e]
  omega
 rw[z]at key;rw[key];refine aJ fun k _=>?_;have e2:fx (2*k)=2*k+1:=by unfold fx;rw[if_pos (by omega)]
 rw[<-e2,ez,wH,e2,<-xB,Int.neg_sub]
theorem qH(k:Nat):la (fb ws (2*k)).1 (fb ws (2*k)).2=l2 (wn ws k):=by unfold fb;rw[gU];rfl
theorem aX:Flow ws (dR r):=fun t=>by
 have h:=m8 hU hF hf R fun c=>if la c.1 c.2=t then 1 else 0;have e:=aJ (n:=ws.length) (g:=fun k=>dR r k*((if la (fb ws (2*k)).1 (fb ws (2*k)).2=t then 1 else 0)-(if la (fa ws (2*k)).1 (fa ws (2*k)).2=t then 1 else 0))) (h:=fun k=>(if l2 (wn ws k)=t then dR r k else 0)-(if l1 (wn ws k)=t then dR r k else 0)) fun k hk=>by rw[cf,qH hU hF hf R];split<;>split<;>simp
 rw[e,fN]at h;omega
theorem cL{d:Nat->Int}(fl:Flow ws d){g:Nat}(hg:g∈r):Pf ws d g=Pf ws d f:=by
 obtain⟨k,n,e,rfl⟩:=R;obtain⟨i,hi,rfl⟩:=eQ.mp hg;clear hi hg
 induction i with
 |zero=>rfl
 |succ i ih=>rw[<-ih];exact Eh hU hF fl (cY hU hF hf i)
end
def xi(w:Wl)(t:Int):Rat:=(Nm w (2*t+1):Rat)/(lam w:Rat)
theorem a9{z:Int}(h:0<z):(0:Rat)<(z:Rat):=by exact_mod_cast h
theorem Dz{U V:Wl}(hU:Un5 U)(hV:Un5 V){t:Int}:xi U t<xi V t↔0<Gh U V (2*t+1):=by
 have lu:0<lam U:=by have:=hU.lt;unfold lam;omega
 have lv:0<lam V:=by have:=hV.lt;unfold lam;omega
 unfold xi Gh;have e1:(Nm U (2*t+1):Rat)/(lam U:Rat)=Rat.divInt (Nm U (2*t+1)) (lam U):=(Rat.divInt_eq_div ..).symm;have e2:(Nm V (2*t+1):Rat)/(lam V:Rat)=Rat.divInt (Nm V (2*t+1)) (lam V):=(Rat.divInt_eq_div ..).symm;rw[e1,e2,Ma.mF lu lv];omega
theorem dG{U V:Wl}(hU:Un5 U)(hV:Un5 V)(F:Fair U V){t:Int}(h1:sp U t=true)(h2:sp V t=true):abv U V=true↔xi U t<xi V t:=by
 rw[aK]at h1 h2;have ap:max (l1 U) (l1 V)<min (l2 U) (l2 V):=bE.mpr ⟨by omega,by omega,by omega,by omega⟩;have pa:=ap;rw[Int.max_comm,Int.min_comm]at pa;rw[Dz hU hV];constructor
 ·exact p9 hU hV F ap (mx2.mpr ⟨by omega,by omega⟩) (mn2.mpr ⟨by omega,by omega⟩)
 ·intro g;cases z:abv U V with
  |true=>rfl
  |false=>
   have n:=cX hU hV F ap
   rw[z]at n
   have g4:=p9 (t:=2*t+1) hV hU F.swap pa (mx2.mpr ⟨by omega,by omega⟩) (mn2.mpr ⟨by omega,by omega⟩) n
   rw[tE]at g4
   omega
theorem Ao{U V:Wl}(hU:Un5 U)(hV:Un5 V)(F:Fair U V){t:Int}(h1:sp U t=true)(h2:sp V t=true):xi U t≠xi V t:=fun e=>by
 have a:¬abv U V=true:=fun z=>by have:=(dG hU hV F h1 h2).mp z;rw[e]at this;exact Rat.lt_irrefl this
 have c:¬abv V U=true:=fun z=>by have:=(dG hV hU F.swap h2 h1).mp z;rw[e]at this;exact Rat.lt_irrefl this
 rw[aK]at h1 h2;rw[cX hU hV F (bE.mpr ⟨by omega,by omega,by omega,by omega⟩)]at c;cases z:abv U V<;>simp_all
theorem rB(q:Nat->Rat):∀l:List Nat,l≠[]->∃m∈l,∀x∈l,q x<=q m
 |[],h=>absurd rfl h
 |[a],_=>⟨a,by simp,fun x hx=>by rw[HE.mp hx];exact Rat.le_refl⟩
 |a::b::l,_=>by
  obtain⟨m,hm,h⟩:=rB q (b::l) (by simp)
  rcases Rat.le_total (a:=q a) (b:=q m)with z|z
  ·exact⟨m,Ho _ hm,fun x hx=>(Hf.mp hx).elim (fun e=>e▸z) (h x)⟩
  ·exact⟨a,HK,fun x hx=>(Hf.mp hx).elim (fun e=>e▸Rat.le_refl) fun hx=>Rat.le_trans (h x hx) z⟩
theorem wL(q:Nat->Int):∀l:List Nat,l≠[]->∃m∈l,∀x∈l,q m<=q x
 |[],h=>absurd rfl h
 |[a],_=>⟨a,by simp,fun x hx=>by rw[HE.mp hx];exact JA _⟩
 |a::b::l,_=>by
  obtain⟨m,hm,h⟩:=wL q (b::l) (by simp)
  by_cases z:q m<=q a
  ·exact⟨m,Ho _ hm,fun x hx=>(Hf.mp hx).elim (fun e=>e▸z) (h x)⟩
  ·exact⟨a,HK,fun x hx=>(Hf.mp hx).elim (fun e=>e▸JA _) fun hx=>by have:=h x hx;omega⟩
structure Low(ws:List Wl)(r:List Nat)(t:Int)(k:Nat):Prop where
 k1:k<ws.length
 e:l1 (wn ws k)=t
 m:2*k∈r\/2*k+1∈r
 ge:∀j,2*j∈r\/2*j+1∈r->t<=l1 (wn ws j)
 low:∀j,2*j∈r\/2*j+1∈r->l1 (wn ws j)=t->abv (wn ws k) (wn ws j)=false
section
variable{ws:List Wl}(hU:∀w∈ws,Un5 w)(hF:PF ws){f:Nat}(hf:f<2*ws.length){r:List Nat}(R:gN ws f r)
include hU hF hf R
theorem iH:∃t k,Low ws r t k/\∃g∈r,tf ws g=t/\∀h∈r,t<=tf ws h:=by
 have ne:r≠[]:=II (uX hU hF hf R);obtain⟨g,hg,mn⟩:=wL (tf ws) r ne
 have ge:∀j,2*j∈r\/2*j+1∈r->tf ws g<=l1 (wn ws j):=fun j h=>by
  rcases h with h|h
  ·have:=mn _ h;unfold tf at this;rw[cf]at this;exact this
  ·have:=mn _ (nI hU hF hf R _ h);unfold tf at this;rw[ju hU hF (de hU hF hf R _ h)]at this;have e2:fx (2*j)=2*j+1:=by unfold fx;rw[if_pos (by omega)]
   rw[<-e2,wH,cf]at this;exact this
 have nl:((GR ws.length).filter fun j=>decide ((2*j∈r\/2*j+1∈r)/\l1 (wn ws j)=tf ws g))≠[]:=by
  have lt:=de hU hF hf R g hg
  refine II (a:=g/2) ?_
  rw[GQ,Hq,decide_eq_true_eq]
  refine⟨by omega,?_⟩
  rcases Iz g with h|h
  ·have e:2*(g/2)=g:=by omega
   refine⟨.inl (by rw[e];exact hg),?_⟩;unfold tf;rw[<-cf,e]
  ·exfalso;have e:2*(g/2)+1=g:=by omega
   have q:=ge (g/2) (.inr (by rw[e];exact hg));have l:=(aF hU (show g/2<ws.length by omega)).lt;have w:tf ws g=l2 (wn ws (g/2)):=by unfold tf;rw[<-og,e]
   omega
 obtain⟨k,hk,mx⟩:=rB (fun j=>xi (wn ws j) (tf ws g)) _ nl;rw[GQ,Hq,decide_eq_true_eq]at hk;refine⟨tf ws g,k,⟨hk.1,hk.2.2,hk.2.1,ge,fun j hj ej=>?_⟩,g,hg,rfl,mn⟩;have j1:j<ws.length:=by rcases hj with h|h<;>(have:=de hU hF hf R _ h;omega)
 by_cases ne:k=j
 ·subst ne;exact bC (aF hU j1)
 ·have K:=aF hU hk.1;have J:=aF hU j1;have kl:=K.lt;have jl:=J.lt;have q:=mx j (by rw[GQ,Hq,decide_eq_true_eq];exact⟨j1,hj,ej⟩);cases z:abv (wn ws k) (wn ws j)with
  |false=>rfl
  |true=>
   have:=(dG K J (aL hF hk.1 j1 ne) (t:=tf ws g) (aK.mpr ⟨by omega,by omega⟩) (aK.mpr ⟨by omega,by omega⟩)).mp z
   exact absurd this (Rat.not_lt.mpr q)
theorem wx{t:Int}{k:Nat}(L:Low ws r t k):Bw ws (dR r) k=0:=by
 unfold Bw Phi;refine cg fun j hj=>?_;by_cases m:2*j∈r\/2*j+1∈r
 ·have ge:=L.ge j m;rw[L.e];refine if_neg fun q=>?_;rw[GN,aK]at q;have:=L.low j m (by omega);have q2:abv (wn ws k) (wn ws j)=true:=q.2;rw[this]at q2;cases q2
 ·have:dR r j=0:=by unfold dR;rw[if_neg fun z=>m (.inl z),if_neg fun z=>m (.inr z)];rfl
  rw[this];split<;>rfl
theorem nH{t:Int}{k:Nat}(L:Low ws r t k):(2*k+1∈r/\Pf ws (dR r) f=0)\/(2*k+1∉r/\2*k∈r/\Pf ws (dR r) f=1):=by
 have fl:=aX hU hF hf R;have z:=wx hU hF hf R L;by_cases h:2*k+1∈r
 ·left;refine⟨h,?_⟩;rw[<-cL hU hF hf R fl h,iU,z]
 ·right;have m:=L.m.resolve_right h;refine⟨h,m,?_⟩;rw[<-cL hU hF hf R fl m,df,z];unfold dR;rw[if_pos m,if_neg h];rfl
end
def sq:Nat->(Nat->Rat)->Rat
 |0,_=>0
 |n+1,g=>sq n g+g n
theorem eE{g h:Nat->Rat}:∀{n:Nat},(∀k,k<n->g k=h k)->sq n g=sq n h
 |0,_=>rfl
 |n+1,e=>by rw[sq,sq,eE fun k hk=>e k (by omega),e n (by omega)]
theorem xQ(g h:Nat->Rat):∀n,sq n (fun k=>g k+h k)=sq n g+sq n h
 |0=>by rw[sq,sq,sq,Rat.add_zero]
 |n+1=>by rw[sq,sq,sq,xQ g h n];grind
theorem yg(c:Rat)(g:Nat->Rat):∀n,sq n (fun k=>c*g k)=c*sq n g
 |0=>by rw[sq,sq,Rat.mul_zero]
 |n+1=>by rw[sq,sq,yg c g n];grind
theorem t8:∀n,sq n (fun _=>0)=0
 |0=>rfl
 |n+1=>by rw[sq,t8 n,Rat.add_zero]
theorem tm(g:Nat->Nat->Rat)(m:Nat):∀n,sq n (fun k=>sq m (g k))=sq m fun t=>sq n fun k=>g k t
 |0=>by rw[sq];exact(t8 m).symm
 |n+1=>by
  rw[sq,tm g m n,<-xQ]
  rfl
theorem jM(g:Nat->Int):∀n,((sg n g:Int):Rat)=sq n fun k=>((g k:Int):Rat)
 |0=>rfl
 |n+1=>by rw[sg,sq,IV,jM g n]
theorem sq_nonneg{g:Nat->Rat}:∀{n:Nat},(∀k,k<n->0<=g k)->0<=sq n g
 |0,_=>Rat.le_refl
 |n+1,h=>by
  have a:=sq_nonneg (g:=g) (n:=n) fun k hk=>h k (by omega)
  have b:=h n (by omega)
  rw[sq]
  exact Rat.add_nonneg a b
theorem sq_pos{g:Nat->Rat}{j:Nat}(p:0<g j):∀{n:Nat},j<n->(∀k,k<n->0<=g k)->0<sq n g
 |0,hj,_=>absurd hj (by omega)
 |n+1,hj,h=>by
  rw[sq]
  by_cases e:j=n
  ·subst e
   have a:=sq_nonneg (g:=g) (n:=j) fun k hk=>h k (by omega)
   grind
  ·have a:=sq_pos p (n:=n) (by omega) fun k hk=>h k (by omega)
   have b:=h n (by omega)
   grind
theorem jH(p:Nat->Bool)(g:Nat->Rat):∀n,(((GR n).filter p).map g).sum=sq n fun k=>if p k=true then g k else 0
 |0=>rfl
 |n+1=>by
  rw[IU,List.filter_append,GV,List.sum_append,jH p g n,sq]
  congr 1
  by_cases h:p n=true
  ·rw[if_pos h];simp[h,Rat.add_zero]
  ·rw[if_neg h];simp[h]
theorem yc{l l':List Nat}(h:l.Perm l')(g:Nat->Rat):(l.map g).sum=(l'.map g).sum:=by
 induction h with
 |nil=>rfl
 |cons x _ ih=>rw[Gs,Gs,Hz,Hz,ih]
 |swap x y l=>simp only[Gs,Hz];grind
 |trans _ _ a b=>rw[a,b]
theorem gf(d q:Nat->Rat)(c c':Rat):∀l:List Nat,(l.map fun x=>d x*(q x-c)).sum=(l.map fun x=>d x*(q x-c')).sum+(l.map d).sum*(c'-c)
 |[]=>by simp;grind
 |x::l=>by
  simp only[Gs,Hz]
  rw[gf d q c c' l]
  grind
theorem CF(d q:Nat->Rat):∀(m:Nat) (l:List Nat),l.length=m->l.Nodup->(∀x∈l,∀y∈l,q x=q y->x=y)->(∀x∈l,0<=(l.map fun y=>if q x<=q y then d y else 0).sum)->∀c,(∀x∈l,c<q x)->
 0<=(l.map fun x=>d x*(q x-c)).sum/\∀x∈l,0<(l.map fun y=>if q x<=q y then d y else 0).sum->0<(l.map fun x=>d x*(q x-c)).sum
 |0,l,e,_,_,_,c,_=>by
  rw[List.length_eq_zero_iff.mp e]
  exact⟨Rat.le_refl,fun x hx=>by cases hx⟩
 |m+1,l,e,nd,inj,A,c,hc=>by
  obtain⟨m0,hm,mx⟩:=rB (fun x=>-q x) l (fun z=>by rw[z]at e;cases e)
  have mn:∀x∈l,q m0<=q x:=fun x hx=>by have:=mx x hx;grind
  have P:=List.perm_cons_erase hm
  have sum:∀g:Nat->Rat,(l.map g).sum=g m0+((l.erase m0).map g).sum:=fun g=>by rw[yc P g,Gs,Hz]
  have sub:∀x∈l.erase m0,x∈l/\q m0<q x:=fun x hx=>by
   have hx':=List.mem_of_mem_erase hx
   have ne:x≠m0:=fun z=>by subst z;exact nd.not_mem_erase hx
   have ne2:q m0≠q x:=fun z=>ne (inj x hx' m0 hm z.symm)
   have:=mn x hx'
   exact⟨hx',by grind⟩
  have part:∀x∈l.erase m0,(l.map fun y=>if q x<=q y then d y else 0).sum=((l.erase m0).map fun y=>if q x<=q y then d y else 0).sum:=fun x hx=>by
   rw[sum,if_neg (Rat.not_le.mpr (sub x hx).2),Rat.zero_add]
  have all:(l.map fun y=>if q m0<=q y then d y else 0).sum=(l.map d).sum:=by
   congr 1
   exact IX fun y hy=>if_pos (mn y hy)
  have D:=A m0 hm
  rw[all]at D
  obtain⟨i1,i2⟩:=CF d q m (l.erase m0) (by rw[List.length_erase_of_mem hm];omega) (nd.erase m0) (fun x hx y hy=>inj x (sub x hx).1 y (sub y hy).1) (fun x hx=>by rw[<-part x hx];exact A x (sub x hx).1) (q m0) fun x hx=>(sub x hx).2
  have e1:(l.map fun x=>d x*(q x-c)).sum=((l.erase m0).map fun x=>d x*(q x-q m0)).sum+(l.map d).sum*(q m0-c):=by
   rw[gf d q c (q m0),sum fun x=>d x*(q x-q m0)]
   grind
  have pc:0<q m0-c:=by have:=hc m0 hm;grind
  rw[e1]
  refine⟨Rat.add_nonneg i1 (Rat.mul_nonneg D (Rat.le_of_lt pc)),fun x hx h=>?_⟩
  by_cases ex:x=m0
  ·subst ex
   rw[all]at h
   have:=J4 h pc
   grind
  ·have hx':x∈l.erase m0:=(List.mem_erase_of_ne ex).mpr hx
   rw[part x hx']at h
   have:=i2 x hx' h
   have:=Rat.mul_nonneg D (Rat.le_of_lt pc)
   grind
theorem k6(q:Nat->Rat):∀l:List Nat,∃c,∀x∈l,c<q x
 |[]=>⟨0,fun x hx=>by cases hx⟩
 |a::l=>by
  obtain⟨c,h⟩:=k6 q l
  refine⟨min c (q a)-1,fun x hx=>?_⟩
  have m1:min c (q a)<=c:=by rw[Rat.min_def];split<;>grind
  have m2:min c (q a)<=q a:=by rw[Rat.min_def];split<;>grind
  rcases Hf.mp hx with e|e
  ·subst e;grind
  ·have:=h x e;grind
def gj(w:Wl)(j:Int):Rat:=2*(w.1:Rat)*(j:Rat)+(j:Rat)*(j:Rat)*(((w.2.2.1-w.1:Int):Rat)/(lam w:Rat))
theorem z8{w:Wl}(h:0<lam w){t:Int}{j:Int}(e:t=l1 w+j):gj w (j+1)=gj w j+xi w t:=by
 have hl:(lam w:Rat)≠0:=by have:=a9 h;grind
 have ex:xi w t=2*(w.1:Rat)+(2*(j:Rat)+1)*(((w.2.2.1-w.1:Int):Rat)/(lam w:Rat)):=by
  unfold xi Nm
  rw[e,show 2*(l1 w+j)+1-2*l1 w=2*j+1 by omega,IV,Hj,Hj,Hj,IV,Hj]
  have a:((2:Int):Rat)=2:=rfl
  have b:((1:Int):Rat)=1:=rfl
  rw[a,b,Jz,Jz]
  have c:(lam w:Rat)*(lam w:Rat)⁻¹=1:=Rat.mul_inv_cancel _ hl
  grind
 rw[ex];unfold gj;rw[IV];have b:((1:Int):Rat)=1:=rfl;rw[b];grind
theorem Ea{w:Wl}(hw:Un5 w):∀m:Nat,sq m (fun t=>if sp w (t:Int)=true then xi w (t:Int)else 0)=gj w (if(m:Int)<=l1 w then 0 else if(m:Int)<=l2 w then(m:Int)-l1 w else lam w)
 |0=>by
  have:(((0:Nat):Int)<=l1 w):=by have:=hw.a;have:=hw.b;unfold l1 la;omega
  rw[if_pos this,sq]
  unfold gj
  have a:((0:Int):Rat)=0:=rfl
  rw[a];grind
 |m+1=>by
  have hl:=hw.lt
  have l0:0<lam w:=by unfold lam;omega
  rw[sq,Ea hw m]
  by_cases h1:((m+1:Nat):Int)<=l1 w
  ·rw[if_pos (show((m:Nat):Int)<=l1 w by omega),if_pos h1,if_neg (by rw[aK];omega),Rat.add_zero]
  ·by_cases h2:((m+1:Nat):Int)<=l2 w
   ·have s:sp w ((m:Nat):Int)=true:=aK.mpr ⟨by omega,by omega⟩
    rw[if_pos s,if_neg h1,if_pos h2]
    have st:=z8 l0 (t:=(m:Int)) (j:=(m:Int)-l1 w) (by omega)
    rw[show((m+1:Nat):Int)-l1 w=(m:Int)-l1 w+1 by omega,st]
    congr 2
    by_cases h3:((m:Nat):Int)<=l1 w
    ·rw[if_pos h3];omega
    ·rw[if_neg h3,if_pos (by omega)]
   ·rw[if_neg (show ¬((m:Nat):Int)<=l1 w by omega),if_neg h1,if_neg h2,if_neg (show ¬sp w ((m:Nat):Int)=true by rw[aK];omega),Rat.add_zero]
    congr 1
    by_cases h3:((m:Nat):Int)<=l2 w
    ·rw[if_pos h3];unfold lam;omega
    ·rw[if_neg h3]
theorem xj{w:Wl}(hw:Un5 w){N:Nat}(h:l2 w<=N):sq N (fun t=>if sp w (t:Int)=true then xi w (t:Int)else 0)=(((w.1+w.2.2.1)*lam w:Int):Rat):=by
 have hl:=hw.lt;have l0:0<lam w:=by unfold lam;omega
 have hn:(lam w:Rat)≠0:=by have:=a9 l0;grind
 rw[Ea hw N,if_neg (by omega)]
 have e:(if(N:Int)<=l2 w then(N:Int)-l1 w else lam w)=lam w:=by
  split
  ·unfold lam;omega
  ·rfl
 rw[e];unfold gj;rw[Hj,IV,IC,Jz];have c:(lam w:Rat)*(lam w:Rat)⁻¹=1:=Rat.mul_inv_cancel _ hn;grind
section
variable{ws:List Wl}(hU:∀w∈ws,Un5 w)(hF:PF ws){f:Nat}(hf:f<2*ws.length){r:List Nat}(R:gN ws f r)
def lt'(ws:List Wl)(r:List Nat)(t:Int):List Nat:=(GR ws.length).filter fun k=>sp (wn ws k) t&&decide (dR r k≠0)
theorem j6{t:Int}{k:Nat}:k∈lt' ws r t↔k<ws.length/\sp (wn ws k) t=true/\dR r k≠0:=by unfold lt';rw[GQ,Hq,GN,decide_eq_true_eq]
include hU hF in
theorem vq{t:Int}:∀x∈lt' ws r t,∀y∈lt' ws r t,xi (wn ws x) t=xi (wn ws y) t->x=y:=fun x hx y hy e=>Classical.byContradiction fun ne=>by obtain⟨x1,x2,_⟩:=j6.mp hx;obtain⟨y1,y2,_⟩:=j6.mp hy;exact Ao (aF hU x1) (aF hU y1) (aL hF x1 y1 ne) x2 y2 e
include hU hF hf R in
theorem nq{t:Int}{x:Nat}(hx:x∈lt' ws r t):((lt' ws r t).map fun y=>if xi (wn ws x) t<=xi (wn ws y) t then(dR r y:Rat)else 0).sum=((Bw ws (dR r) x+dR r x:Int):Rat):=by
 obtain⟨x1,x2,x3⟩:=j6.mp hx;have one:dR r x=sg ws.length (fun k=>if k=x then dR r k else 0):=by rw[dE,if_pos x1]
 rw[<-dD hU hF (aX hU hF hf R) x1 x2,one];unfold Phi lt';rw[<-cB,jM,jH];refine eE fun k hk=>?_;show _=(((if(sp (wn ws k) t&&abv (wn ws x) (wn ws k))=true then dR r k else 0)+(if k=x then dR r k else 0):Int):Rat);by_cases e:k=x
 ·subst e;rw[x2,decide_eq_true x3,bC (aF hU hk),if_pos (show(true&&true)=true from rfl),if_pos Rat.le_refl,if_pos rfl,if_neg (show ¬(true&&false)=true by decide),Int.zero_add]
 ·rw[if_neg e,Jr];by_cases s:sp (wn ws k) t=true
  ·rw[s,Hw,Hw];by_cases z:dR r k=0
   ·rw[decide_eq_false (fun q=>q z),if_neg (by decide),z];split<;>rfl
   ·rw[decide_eq_true z,if_pos rfl];have F:=aL hF x1 hk (fun q=>e q.symm);have a:=dG (aF hU x1) (aF hU hk) F x2 s;have b:=Ao (aF hU x1) (aF hU hk) F x2 s;by_cases q:xi (wn ws x) t<=xi (wn ws k) t
    ·rw[if_pos q,if_pos (a.mpr (by grind))]
    ·rw[if_neg q,if_neg fun y=>q (Rat.le_of_lt (a.mp y))];rfl
  ·have s':sp (wn ws k) t=false:=by simpa using s
   rw[s',Hd,Hd,if_neg (by decide),if_neg (by decide)];rfl
include hU hF hf R in
theorem wo(t:Int):((lt' ws r t).map fun y=>(dR r y:Rat)).sum=0:=by
 have h:=zT hU (aX hU hF hf R) t;unfold Phi at h
 have h':((sg ws.length (fun k=>if(sp (wn ws k) t&&true)=true then dR r k else 0):Int):Rat)=0:=by
  have h:sg ws.length (fun k=>if(sp (wn ws k) t&&true)=true then dR r k else 0)=0:=h
  rw[h];rfl
 rw[jM]at h';unfold lt';rw[jH];refine Eq.trans (eE fun k hk=>?_) h';rw[Bool.and_true];by_cases s:sp (wn ws k) t=true
 ·rw[s,Hw,if_pos rfl];by_cases z:dR r k=0
  ·rw[decide_eq_false (fun q=>q z),if_neg (by decide),z];rfl
  ·rw[decide_eq_true z,if_pos rfl]
 ·have s':sp (wn ws k) t=false:=by simpa using s
  rw[s',Hd,if_neg (by decide)];rfl
include hU hF hf R in
theorem ra:(((r.map (twT ws)).sum:Int):Rat)=sq 3000 fun t=>((lt' ws r (t:Int)).map fun k=>(dR r k:Rat)*xi (wn ws k) (t:Int)).sum:=by
 have nd:=sV hU hF hf R;have lt:=de hU hF hf R
 have tw2:∀k,twT ws (2*k+1)=-twT ws (2*k):=fun k=>by
  have e2:fx (2*k)=2*k+1:=by unfold fx;rw[if_pos (by omega)]
  unfold twT
  rw[<-e2,ez,wH]
  omega
 have z:=m8 hU hF hf R fun c=>c.1*la c.1 c.2;rw[kQ (twT ws) r nd lt,aJ (h:=fun k=>dR r k*((wn ws k).1+(wn ws k).2.2.1)*lam (wn ws k)-dR r k*((fb ws (2*k)).1*la (fb ws (2*k)).1 (fb ws (2*k)).2-(fa ws (2*k)).1*la (fa ws (2*k)).1 (fa ws (2*k)).2)) fun k hk=>?_,fN,z,Int.sub_zero,jM]
 ·rw[eE (h:=fun k=>sq 3000 fun t=>(dR r k:Rat)*(if sp (wn ws k) (t:Int)=true then xi (wn ws k) (t:Int)else 0)) fun k hk=>?_,tm]
  ·refine eE fun t _=>?_;unfold lt';rw[jH];refine eE fun k _=>?_;by_cases s:sp (wn ws k) (t:Int)=true
   ·rw[s,Hw,if_pos rfl];by_cases z:dR r k=0
    ·rw[decide_eq_false (fun q=>q z),if_neg (by decide),z];exact Rat.zero_mul _
    ·rw[decide_eq_true z,if_pos rfl]
   ·have s':sp (wn ws k) (t:Int)=false:=by simpa using s
    rw[s',Hd,if_neg (by decide),if_neg (by decide),Rat.mul_zero]
  ·have W:=aF hU hk;have b:l2 (wn ws k)<=((3000:Nat):Int):=by have:=W.c;have:=W.d;unfold l2 la;omega
   rw[yg,xj W b,Int.mul_assoc,Hj]
 ·rw[tw2,xB];unfold twT fa fb;rw[gU];unfold lam l1 l2 la;grind
include hU hF hf R in
theorem Ck{t:Int}{x:Nat}(hx:x∈lt' ws r t):(dR r x=1/\Bw ws (dR r) x+dR r x=Pf ws (dR r) f)\/(dR r x=-1/\Bw ws (dR r) x+dR r x=Pf ws (dR r) f-1):=by
 obtain⟨x1,x2,x3⟩:=j6.mp hx;have fl:=aX hU hF hf R;by_cases m:2*x∈r
 ·have m':2*x+1∉r:=fun z=>x3 (by unfold dR;rw[if_pos m,if_pos z];rfl);left;refine⟨by unfold dR;rw[if_pos m,if_neg m'];rfl,?_⟩;rw[<-cL hU hF hf R fl m,df]
 ·have m':2*x+1∈r:=Classical.byContradiction fun z=>x3 (by unfold dR;rw[if_neg m,if_neg z];rfl);have e:dR r x=-1:=by unfold dR;rw[if_neg m,if_pos m'];rfl
  right;refine⟨e,?_⟩;rw[<-cL hU hF hf R fl m',iU,e];rfl
theorem An{t:Int}:(lt' ws r t).Nodup:=by unfold lt';exact Jq _ List.nodup_range
include hU hF hf R in
theorem sI{t:Int}(a:Pf ws (dR r) f=1):0<=((lt' ws r t).map fun k=>(dR r k:Rat)*xi (wn ws k) t).sum/\∀x∈lt' ws r t,dR r x=1->0<((lt' ws r t).map fun k=>(dR r k:Rat)*xi (wn ws k) t).sum:=by
 obtain⟨c,hc⟩:=k6 (fun k=>xi (wn ws k) t) (lt' ws r t)
 have A:∀x∈lt' ws r t,0<=((lt' ws r t).map fun y=>if xi (wn ws x) t<=xi (wn ws y) t then(dR r y:Rat)else 0).sum:=fun x hx=>by
  rw[nq hU hF hf R hx]
  have:=Ck hU hF hf R hx
  have p:0<=Bw ws (dR r) x+dR r x:=by omega
  exact_mod_cast p
 have key:=CF (fun k=>(dR r k:Rat)) (fun k=>xi (wn ws k) t) _ (lt' ws r t) rfl An (vq hU hF) A c hc;have e:=gf (fun k=>(dR r k:Rat)) (fun k=>xi (wn ws k) t) c 0 (lt' ws r t);rw[wo hU hF hf R t,Rat.zero_mul,Rat.add_zero]at e
 have e':((lt' ws r t).map fun k=>(dR r k:Rat)*xi (wn ws k) t).sum=((lt' ws r t).map fun k=>(dR r k:Rat)*(xi (wn ws k) t-c)).sum:=by
  rw[e]
  congr 1
  exact IX fun k _=>by grind
 rw[e'];refine⟨key.1,fun x hx h=>key.2 x hx ?_⟩;rw[nq hU hF hf R hx];have:=Ck hU hF hf R hx;have p:0<Bw ws (dR r) x+dR r x:=by omega
 exact_mod_cast p
include hU hF hf R in
theorem uQ{t:Int}(a:Pf ws (dR r) f=0):((lt' ws r t).map fun k=>(dR r k:Rat)*xi (wn ws k) t).sum<=0:=by
 obtain⟨c,hc⟩:=k6 (fun k=>xi (wn ws k) t) (lt' ws r t)
 have neg:∀(g:Nat->Rat) (l:List Nat),(l.map fun x=>-g x).sum=-(l.map g).sum:=fun g l=>by
  induction l with
  |nil=>rfl
  |cons x l ih=>simp only[Gs,Hz];rw[ih];grind
 have A:∀x∈lt' ws r t,0<=((lt' ws r t).map fun y=>if xi (wn ws x) t<=xi (wn ws y) t then -(dR r y:Rat)else 0).sum:=fun x hx=>by
  have e:((lt' ws r t).map fun y=>if xi (wn ws x) t<=xi (wn ws y) t then -(dR r y:Rat)else 0).sum=-((lt' ws r t).map fun y=>if xi (wn ws x) t<=xi (wn ws y) t then(dR r y:Rat)else 0).sum:=by
   rw[<-neg]
   congr 1
   exact IX fun y _=>by split<;>grind
  rw[e,nq hU hF hf R hx]
  have:=Ck hU hF hf R hx
  have p:Bw ws (dR r) x+dR r x<=0:=by omega
  have p:((Bw ws (dR r) x+dR r x:Int):Rat)<=0:=by exact_mod_cast p
  grind
 have key:=(CF (fun k=>-(dR r k:Rat)) (fun k=>xi (wn ws k) t) _ (lt' ws r t) rfl An (vq hU hF) A c hc).1;have e:=gf (fun k=>-(dR r k:Rat)) (fun k=>xi (wn ws k) t) c 0 (lt' ws r t);rw[neg,wo hU hF hf R t]at e
 have e':-((lt' ws r t).map fun k=>(dR r k:Rat)*xi (wn ws k) t).sum=((lt' ws r t).map fun k=>-(dR r k:Rat)*(xi (wn ws k) t-0)).sum:=by
  rw[<-neg]
  congr 1
  exact IX fun k _=>by grind
 rw[e,<-e']at key;grind
include hU hF hf R in
theorem yi:decide (0<(r.map (twT ws)).sum)=decide (Pf ws (dR r) f=1):=by
 obtain⟨t,k,L,_⟩:=iH hU hF hf R;have ar:=ra hU hF hf R;rw[decide_eq_decide];rcases nH hU hF hf R L with⟨_,a⟩|⟨m',m,a⟩
 ·rw[a];constructor
  ·intro h;exfalso;have h:(0:Rat)<(((r.map (twT ws)).sum:Int):Rat):=a9 h;rw[ar]at h
   have n:∀n:Nat,sq n (fun t=>((lt' ws r (t:Int)).map fun k=>(dR r k:Rat)*xi (wn ws k) (t:Int)).sum)<=0:=fun n=>by
    induction n with
    |zero=>exact Rat.le_refl
    |succ n ih=>
     rw[sq]
     have:=uQ hU hF hf R (t:=(n:Int)) a
     grind
   exact absurd h (Rat.not_lt.mpr (n 3000))
  ·intro h;cases h
 ·rw[a];refine⟨fun _=>rfl,fun _=>?_⟩;have W:=aF hU L.k1
  have t0:0<=t/\t<3000:=by
   have:=W.a;have:=W.b;have e:=L.e
   unfold l1 la at e
   omega
  have hk:k∈lt' ws r t:=j6.mpr ⟨L.k1,aK.mpr ⟨by have:=L.e;omega,by have:=L.e;have:=W.lt;omega⟩,by unfold dR;rw[if_pos m,if_neg m'];decide⟩;have d1:dR r k=1:=by unfold dR;rw[if_pos m,if_neg m'];rfl
  have p:(0:Rat)<(((r.map (twT ws)).sum:Int):Rat):=by rw[ar];refine sq_pos (j:=t.toNat) ?_ (by omega) fun n _=>(sI hU hF hf R a).1;rw[show((t.toNat:Nat):Int)=t by omega];exact(sI hU hF hf R a).2 k hk d1
  exact_mod_cast p
end
theorem m5{ws:List Wl}(hU:∀w∈ws,Un5 w)(hF:PF ws){r r':List Nat}{t t':Int}{k k':Nat}(lr':∀j,2*j∈r'\/2*j+1∈r'->j<ws.length)(L:Low ws r t k)(L':Low ws r' t' k')(le:t<=t')(bl:t=t'->k≠k'/\abv (wn ws k') (wn ws k)=true):Bw ws (dR r') k=0/\dR r' k=0:=by
 have no:∀j,2*j∈r'\/2*j+1∈r'->sp (wn ws j) t=true->abv (wn ws k) (wn ws j)=true->False:=fun j m s a=>by
  rw[aK]at s
  have ge:=L'.ge j m
  have et:t=t':=by omega
  obtain⟨ne,b⟩:=bl et
  have K:=aF hU L.k1
  have K':=aF hU L'.k1
  have J:=aF hU (lr' j m)
  have kl:=K.lt
  have kl':=K'.lt
  have ek:=L.e
  have ek':=L'.e
  have s1:sp (wn ws k) t=true:=aK.mpr ⟨by omega,by omega⟩
  have s2:sp (wn ws k') t=true:=aK.mpr ⟨by omega,by omega⟩
  have s3:sp (wn ws j) t=true:=aK.mpr s
  have nkj:k≠j:=fun z=>by subst z;rw[bC K]at a;cases a
  have x1:=(dG K J (aL hF L.k1 (lr' j m) nkj) s1 s3).mp a
  have x2:=(dG K' K (aL hF L'.k1 L.k1 (fun z=>ne z.symm)) s2 s1).mp b
  have nkj':k'≠j:=fun z=>by subst z;grind
  have x3:=(dG K' J (aL hF L'.k1 (lr' j m) nkj') s2 s3).mpr (by grind)
  have:=L'.low j m (by omega)
  rw[this]at x3;cases x3
 constructor
 ·unfold Bw Phi;refine cg fun j hj=>?_;by_cases m:2*j∈r'\/2*j+1∈r'
  ·refine if_neg fun q=>?_;rw[GN,L.e]at q;exact no j m q.1 q.2
  ·have:dR r' j=0:=by unfold dR;rw[if_neg fun z=>m (.inl z),if_neg fun z=>m (.inr z)];rfl
   rw[this];split<;>rfl
 ·have m:¬(2*k∈r'\/2*k+1∈r'):=fun m=>by
   have ge:=L'.ge k m
   have ek:=L.e
   have et:t=t':=by omega
   have:=L'.low k m (by omega)
   rw[(bl et).2]at this;cases this
  unfold dR;rw[if_neg fun z=>m (.inl z),if_neg fun z=>m (.inr z)];rfl
section
variable{ws:List Wl}(hU:∀w∈ws,Un5 w)(hF:PF ws){f:Nat}(hf:f<2*ws.length){r:List Nat}(R:gN ws f r)
include hU hF hf R
theorem jK:∀j,2*j∈r\/2*j+1∈r->j<ws.length:=fun j m=>by rcases m with m|m<;>(have:=de hU hF hf R _ m;omega)
theorem uo{f':Nat}(hf':f'<2*ws.length){r':List Nat}(R':gN ws f' r')(dj:∀g∈r,g∉r')(a:Pf ws (dR r) f=1)(a':Pf ws (dR r') f'=1)(b:Pf ws (dR r') f=1)(b':Pf ws (dR r) f'=1):False:=by
 obtain⟨t,k,L,_⟩:=iH hU hF hf R;obtain⟨t',k',L',_⟩:=iH hU hF hf' R'
 have m:2*k∈r:=by
  rcases nH hU hF hf R L with⟨_,z⟩|⟨_,z,_⟩
  ·omega
  ·exact z
 have m':2*k'∈r':=by
  rcases nH hU hF hf' R' L' with⟨_,z⟩|⟨_,z,_⟩
  ·omega
  ·exact z
 rw[<-cL hU hF hf R (aX hU hF hf' R') m,df]at b;rw[<-cL hU hF hf' R' (aX hU hF hf R) m',df]at b';have w:=jK hU hF hf R;have w':=jK hU hF hf' R';have ne:k≠k':=fun z=>by subst z;exact dj _ m m'
 have K:=aF hU L.k1;have K':=aF hU L'.k1;have kl:=K.lt;have kl':=K'.lt;have ek:=L.e;have ek':=L'.e;have F:=aL hF L.k1 L'.k1 ne
 have go:(t<=t'/\(t=t'->abv (wn ws k') (wn ws k)=true))\/(t'<=t/\(t'=t->abv (wn ws k) (wn ws k')=true)):=by
  rcases Gy t t' with z|z|z
  ·exact .inl ⟨by omega,fun e=>by omega⟩
  ·have ap:max (l1 (wn ws k)) (l1 (wn ws k'))<min (l2 (wn ws k)) (l2 (wn ws k')):=bE.mpr ⟨by omega,by omega,by omega,by omega⟩;have n:=cX K K' F ap;cases q:abv (wn ws k) (wn ws k')with
   |true=>exact .inr ⟨by omega,fun _=>rfl⟩
   |false=>rw[q]at n;exact .inl ⟨by omega,fun _=>n⟩
  ·exact .inr ⟨by omega,fun e=>by omega⟩
 rcases go with⟨le,bl⟩|⟨le,bl⟩
 ·have:=m5 hU hF w' L L' le fun e=>⟨ne,bl e⟩;omega
 ·have:=m5 hU hF w L' L le fun e=>⟨fun z=>ne z.symm,bl e⟩;omega
theorem nZ{t:Int}{k:Nat}(L:Low ws r t k)(m:2*k+1∈r):∀j,j<ws.length->l1 (wn ws j)=t->abv (wn ws k) (wn ws j)=false:=fun j hj ej=>by
 by_cases ne:k=j
 ·subst ne;exact bC (aF hU hj)
 ·cases z:abv (wn ws k) (wn ws j)with
  |false=>rfl
  |true=>
   exfalso
   have K:=aF hU L.k1
   have J:=aF hU hj
   have ek:=L.e
   have F:=aL hF L.k1 hj ne
   have hm:=de hU hF hf R _ m
   have vk:=kT (wn ws k)
   have kl:=K.lt
   have e2:fx (2*k+1)=2*k:=by unfold fx;rw[if_neg (by omega)];omega
   have eb:fb ws (2*k+1)=fa ws (2*k):=by have:=ez ws (2*k+1);rw[e2]at this;exact this.symm
   have ea:fa ws (2*j)=fb ws (2*k+1):=by rw[eb];exact Ax hU (by omega) (by omega) (by rw[cf,cf,ek,ej])
   have c:2*j∈gI ws (2*k+1):=bA.mpr ⟨by omega,ea,by omega⟩
   have A:=f7 K J F (by omega)
   rw[A.1,decide_eq_true_eq]at z
   have b:=nI hU hF hf R _ m
   rcases gb hU hF hm with⟨q,_⟩|⟨b1,b2⟩
   ·rw[q]at c;cases c
   ·obtain⟨b3,b4,b5⟩:=bA.mp b1;rw[e2]at b5
    have ev:bh ws (2*k+1)%2=0:=by
     rcases Iz (bh ws (2*k+1))with h|h
     ·exact h
     ·exfalso;obtain⟨i,ei⟩:∃i,bh ws (2*k+1)=2*i+1:=⟨bh ws (2*k+1)/2,by omega⟩;rw[ei]at b b4;have ge:=L.ge i (.inr b);have il:=(aF hU (jK hU hF hf R i (.inr b))).lt;have:la (fa ws (2*i+1)).1 (fa ws (2*i+1)).2=la (fa ws (2*k)).1 (fa ws (2*k)).2:=by rw[b4,eb]
      rw[og,cf]at this;omega
    obtain⟨i,ei⟩:∃i,bh ws (2*k+1)=2*i:=⟨bh ws (2*k+1)/2,by omega⟩;rw[ei]at b b2 b4 b5;have hi:=jK hU hF hf R i (.inl b);have I:=aF hU hi
    have li:l1 (wn ws i)=t:=by
     have:la (fa ws (2*i)).1 (fa ws (2*i)).2=la (fa ws (2*k)).1 (fa ws (2*k)).2:=by rw[b4,eb]
     rw[cf,cf]at this
     omega
    have nik:k≠i:=fun e=>b5 (by rw[e]);have A':=f7 K I (aL hF L.k1 hi nik) (by omega);have lo:=L.low i (.inl b) li;rw[A'.1]at lo;have lo:=of_decide_eq_false lo;rcases b2 _ c with q|q
    ·have:i=j:=by omega
     subst this;exact lo z
    ·unfold snF at q;rw[e2,gh,gh,gh,fW]at q;rcases ft (vc (dw (wn ws k)) (dw (wn ws i)))with p|p|p<;>rcases ft (vc (dw (wn ws k)) (dw (wn ws j)))with s|s|s<;>omega
end
section
variable{ws:List Wl}(hU:∀w∈ws,Un5 w)(hF:PF ws)
theorem iQ:∀{i:Nat} {rs:List (List Nat)},Rgs ws i rs->∀g,g<i->∃r∈rs,g∈r
 |0,rs,_,g,hg=>absurd hg (by omega)
 |i+1,rs,⟨qs,h1,h2⟩,g,hg=>by
  by_cases e:g=i
  ·subst e
   rcases h2 with⟨m,rfl⟩|⟨_,r,⟨k,n,c,rfl⟩,rfl⟩
   ·obtain⟨r,a,b⟩:=List.mem_flatten.mp m
    exact⟨r,a,b⟩
   ·exact⟨rn ws g k,by simp,eQ.mpr ⟨0,by omega,rfl⟩⟩
  ·obtain⟨r,a,b⟩:=iQ h1 g (by omega)
   rcases h2 with⟨_,rfl⟩|⟨_,r',_,rfl⟩
   ·exact⟨r,a,b⟩
   ·exact⟨r,List.mem_append_left _ a,b⟩
theorem dC:∀{i:Nat} {rs:List (List Nat)},Rgs ws i rs->∀r∈rs,∃f,f<i/\gN ws f r
 |0,rs,h,r,hr=>by rw[show rs=[]from h]at hr;cases hr
 |i+1,rs,⟨qs,h1,h2⟩,r,hr=>by
  rcases h2 with⟨_,rfl⟩|⟨_,r',R,rfl⟩
  ·obtain⟨f,a,b⟩:=dC h1 r hr
   exact⟨f,by omega,b⟩
  ·rcases GY.mp hr with z|z
   ·obtain⟨f,a,b⟩:=dC h1 r z
    exact⟨f,by omega,b⟩
   ·rw[HE.mp z];exact⟨i,by omega,R⟩
theorem qz{f:Nat}{r:List Nat}(R:gN ws f r){C:Nat->Prop}(cl:∀g,C g->C (bh ws g)){g:Nat}(hg:g∈r)(h:C g):C f:=by
 obtain⟨k,n,e,rfl⟩:=R;obtain⟨i,hi,rfl⟩:=eQ.mp hg
 have go:∀j,C (itb ws f (i+j)):=fun j=>by
  induction j with
  |zero=>exact h
  |succ j ih=>exact cl _ ih
 rw[<-e];have:=go (k-i);rw[show i+(k-i)=k by omega]at this;exact cl _ this
include hU hF in
theorem fy:∀{i:Nat} {rs:List (List Nat)},i<=2*ws.length->Rgs ws i rs->∀r∈rs,∀r'∈rs,∀g,g∈r->g∈r'->r=r'
 |0,rs,_,h,r,hr,_,_,_,_,_=>by rw[show rs=[]from h]at hr;cases hr
 |i+1,rs,hi,⟨qs,h1,h2⟩,r,hr,r',hr',g,hg,hg'=>by
  rcases h2 with⟨_,rfl⟩|⟨ni,q,R,rfl⟩
  ·exact fy (by omega) h1 r hr r' hr' g hg hg'
  ·have new:∀x∈qs,∀g,g∈q->g∈x->False:=fun x hx g hq hgx=>by
    obtain⟨f,f1,RX⟩:=dC h1 x hx
    exact ni (List.mem_flatten.mpr ⟨x,hx,qz R (C:=fun y=>y∈x) (fun y hy=>nI hU hF (by omega) RX y hy) hq hgx⟩)
   rcases GY.mp hr with z|z<;>rcases GY.mp hr' with z'|z'
   ·exact fy (by omega) h1 r z r' z' g hg hg'
   ·rw[HE.mp z']at hg';exact(new r z g hg' hg).elim
   ·rw[HE.mp z]at hg;exact(new r' z' g hg hg').elim
   ·rw[HE.mp z,HE.mp z']
theorem f9:∀{i:Nat} {rs:List (List Nat)},Rgs ws i rs->rs.Nodup
 |0,rs,h=>by rw[show rs=[]from h];exact List.nodup_nil
 |i+1,rs,⟨qs,h1,h2⟩=>by
  rcases h2 with⟨_,rfl⟩|⟨ni,q,⟨k,n,c,rfl⟩,rfl⟩
  ·exact f9 h1
  ·rw[List.nodup_append]
   refine⟨f9 h1,by simp,fun a ha b hb e=>?_⟩
   rw[HE.mp hb]at e
   subst e
   exact ni (List.mem_flatten.mpr ⟨_,ha,eQ.mpr ⟨0,by omega,rfl⟩⟩)
end
theorem tW(ws:List Wl):∀(l:List Nat) (a:Vc),(la (l.foldl (fun a g=>mn a (fa ws g)) a).1 (l.foldl (fun a g=>mn a (fa ws g)) a).2<=la a.1 a.2)/\(∀g∈l,la (l.foldl (fun a g=>mn a (fa ws g)) a).1 (l.foldl (fun a g=>mn a (fa ws g)) a).2<=tf ws g)/\(l.foldl (fun a g=>mn a (fa ws g)) a=a\/∃g∈l,l.foldl (fun a g=>mn a (fa ws g)) a=fa ws g)
 |[],a=>⟨JA _,(fun g hg=>by cases hg),.inl rfl⟩
 |x::l,a=>by
  obtain⟨h1,h2,h3⟩:=tW ws l (mn a (fa ws x))
  rw[Ji]
  generalize l.foldl (fun a g=>mn a (fa ws g)) (mn a (fa ws x))=z at *
  have m:(mn a (fa ws x)=a\/mn a (fa ws x)=fa ws x)/\la (mn a (fa ws x)).1 (mn a (fa ws x)).2<=la a.1 a.2/\la (mn a (fa ws x)).1 (mn a (fa ws x)).2<=tf ws x:=by
   unfold mn tf
   split
   ·exact⟨.inl rfl,JA _,by omega⟩
   ·exact⟨.inr rfl,by omega,JA _⟩
  refine⟨by omega,fun g hg=>?_,?_⟩
  ·rcases Hf.mp hg with e|e
   ·subst e;omega
   ·exact h2 g e
  ·rcases h3 with e|⟨g,hg,e⟩
   ·rcases m.1 with q|q
    ·exact .inl (e.trans q)
    ·exact .inr ⟨x,HK,e.trans q⟩
   ·exact .inr ⟨g,Ho _ hg,e⟩
theorem oz(ws:List Wl){r:List Nat}(h:r≠[]):(∀g∈r,la (fc ws r).1 (fc ws r).2<=tf ws g)/\∃g∈r,fc ws r=fa ws g:=by
 unfold fc fcI;rw[List.take_length];obtain⟨_,h2,h3⟩:=tW ws r (fa ws (r.headD 0));refine⟨h2,?_⟩;rcases h3 with e|e
 ·cases r with
  |nil=>exact absurd rfl h
  |cons g r=>exact⟨g,HK,e⟩
 ·exact e
theorem oM(v:Int)(x:Nat):∀(r:List Nat) (L:List Int),x<L.length->(r.foldl (fun L g=>L.set g v) L)[x]?=if x∈r then some v else L[x]?
 |[],L,_=>by simp
 |g::r,L,h=>by
  rw[Ji,oM v x r (L.set g v) (by rw[List.length_set];exact h)]
  by_cases m:x∈r
  ·rw[if_pos m,if_pos (Ho _ m)]
  ·rw[if_neg m]
   by_cases e:x=g
   ·subst e;rw[if_pos HK,List.getElem?_set_self h]
   ·rw[if_neg (fun z=>(Hf.mp z).elim e m),List.getElem?_set_ne (fun z=>e z.symm)]
theorem kn{L:List Int}{r:List Nat}{v:Int}{x:Nat}(h:x<L.length):(fill L r v)[x]?=if x∈r then some v else L[x]?:=by unfold fill gy;rw[List.take_length];exact oM v x r L h
theorem wu{m:Nat}{outs:List (List Nat)}(dj:∀(i j:Nat) (r q:List Nat) (g:Nat),outs[i]?=some r->outs[j]?=some q->g∈r->g∈q->i=j){j:Nat}{r:List Nat}(er:outs[j]?=some r){x:Nat}(hx:x∈r)(xm:x<m):∀i,j<i->(fO m outs i)[x]?=some ((j+1:Nat):Int)
 |0,h=>absurd h (by omega)
 |i+1,h=>by
  rw[fO,kn (by rw[gK];exact xm)]
  by_cases e:i=j
  ·subst e;rw[er];exact if_pos hx
  ·have nm:x∉(outs[i]?).getD []:=fun z=>by
    cases q:outs[i]? with
    |none=>rw[q]at z;cases z
    |some s=>rw[q]at z;exact e (dj i j s r x q er z hx)
   rw[if_neg nm]
   exact wu dj er hx xm i (by omega)
theorem jP{ws:List Wl}{ins:List (List Nat)}{L:List Int}{ps:List Vc}{x:Nat}(hx:x<L.length){i:Nat}:∀n:Nat,(∀j,i<=j->j<i+n->x∉(ins[(lx ws ins ((ps[j]?).getD (0,0)) ins.length).getD 0]?).getD [])->(fS ws ins L ps (i+n))[x]?=(fS ws ins L ps i)[x]?
 |0,_=>rfl
 |n+1,h=>by
  show(fS ws ins L ps (i+n+1))[x]?=_
  rw[fS,kn (by rw[iO];exact hx),if_neg (h (i+n) (by omega) (by omega))]
  exact jP hx n fun j h1 h2=>h j h1 (by omega)
theorem Cf{c:Vc}(hc:B20 c)(w:Wl):sdc w (la c.1 c.2)=sd w c.1 c.2:=by have h1:=hc.1;have h2:=hc.2;unfold sdc;rw[show la c.1 c.2/100=c.1 by unfold la;omega,show la c.1 c.2%100=c.2 by unfold la;omega]
section
variable{ws:List Wl}(hU:∀w∈ws,Un5 w)(hF:PF ws)
include hU in
theorem rH{c:Vc}(hc:B20 c){j:Nat}:((j:Nat):Int)∈bK ws 1 c.1 c.2↔j<ws.length/\l1 (wn ws j)<la c.1 c.2/\la c.1 c.2<l2 (wn ws j)/\0<sdc (wn ws j) (la c.1 c.2):=by
 rw[Cf hc];have ub:uby 1 (wn ws j)=wn ws j:=by unfold uby;simp
 have key:((j:Nat):Int)∈bK ws 1 c.1 c.2↔j<ws.length/\bB ws 1 c.1 c.2 j=true:=by
  unfold bK;rw[Hi];constructor
  ·rintro⟨i,hi,e⟩;have:i=j:=by omega
   subst this;rw[GQ,Hq]at hi;exact hi
  ·intro h;exact⟨j,GQ.mpr ⟨Hq.mpr h.1,h.2⟩,rfl⟩
 rw[key];unfold bB spB;rw[GN,GN,decide_eq_true_eq,decide_eq_true_eq,decide_eq_true_eq,Int.one_mul,Int.one_mul,sg1];show _/\(l1 (wn ws j)<=_/\_<l2 (wn ws j))/\0<sd (uby 1 (wn ws j)) c.1 c.2↔_;rw[ub];constructor
 ·rintro⟨a,⟨b,d⟩,e⟩;refine⟨a,?_,d,e⟩;by_cases z:l1 (wn ws j)=la c.1 c.2
  ·exfalso;obtain⟨x,y⟩:=eR (aF hU a).b hc.2 (show la (wn ws j).1 (wn ws j).2.1=la c.1 c.2 from z);unfold sd crs at e;rw[<-x,<-y,Js,Js,HW,HW]at e;omega
  ·omega
 ·rintro⟨a,b,d,e⟩;exact⟨a,⟨by omega,d⟩,e⟩
include hU in
theorem Di{d:Nat->Int}{c:Vc}(hc:B20 c)(h:bK ws 1 c.1 c.2=[]):Zc ws d (la c.1 c.2)=0:=by unfold Zc;refine cg fun j hj=>if_neg fun q=>?_;have:=(rH hU hc).mpr ⟨hj,q⟩;rw[h]at this;cases this
include hU hF in
theorem rR{d:Nat->Int}(fl:Flow ws d){c:Vc}(hc:B20 c){k:Nat}(hk:k<ws.length)(ek:l1 (wn ws k)=la c.1 c.2)(h:bK ws 1 c.1 c.2≠[]) :
 ∃v,v<ws.length/\(uC ws (bK ws 1 c.1 c.2)).toNat=v/\l1 (wn ws v)<la c.1 c.2/\Zc ws d (la c.1 c.2)=Pf ws d (2*v):=by
 obtain⟨tt,h1,h2,h3⟩:=xc hU hF (show(0:Int)<1 by decide) (fun k hk=>jf hk) h (pG ws 1 c.1 c.2)
 have s:=ie (jf h1)
 obtain⟨v,rfl⟩:∃v:Nat,tt=(v:Int):=⟨tt.toNat,by omega⟩
 have et:uC ws (bK ws 1 c.1 c.2)=(v:Int):=by unfold uC;rw[h3];rfl
 obtain⟨v1,v2,v3,v4⟩:=(rH hU hc).mp h1
 refine⟨v,v1,by rw[et];omega,v2,?_⟩
 generalize eT:la c.1 c.2=t at *
 have V:=aF hU v1
 have K:=aF hU hk
 have kl:=K.lt
 have sv:sp (wn ws v) t=true:=aK.mpr ⟨by omega,v3⟩
 have sk:sp (wn ws k) t=true:=aK.mpr ⟨by omega,by omega⟩
 have nkv:v≠k:=fun z=>by subst z;omega
 have akv:=(cO V K (aL hF v1 hk nkv) v2 v3 (.inl ek)).2
 rw[decide_eq_true v4]at akv
 have xkv:=(dG K V (aL hF hk v1 (fun z=>nkv z.symm)) sk sv).mp akv
 rw[df,<-dD hU hF fl v1 sv]
 have one:d v=sg ws.length (fun j=>if j=v then d j else 0):=by rw[dE,if_pos v1]
 rw[one]
 unfold Phi Zc
 rw[<-cB]
 refine aJ fun j hj=>?_
 show _=(if(sp (wn ws j) t&&abv (wn ws v) (wn ws j))=true then d j else 0)+(if j=v then d j else 0)
 by_cases e:j=v
 ·subst e
  rw[if_pos ⟨v2,v3,v4⟩,bC V,Iy,if_neg (by decide),if_pos rfl,Int.zero_add]
 ·rw[if_neg e,Jr]
  have J:=aF hU hj
  have F:=aL hF v1 hj (fun z=>e z.symm)
  by_cases q:l1 (wn ws j)<t/\t<l2 (wn ws j)/\0<sdc (wn ws j) t
  ·have jm:((j:Nat):Int)∈bK ws 1 c.1 c.2:=(rH hU hc).mpr ⟨hj,by rw[eT];exact q⟩
   have a:abv (wn ws v) (wn ws j)=true:=by
    rcases h2 _ (Hi.mpr ⟨_,jm,rfl⟩)with z|z
    ·exfalso
     have z:wn ws j=wn ws v:=z
     exact F.ne ⟨by rw[z],by rw[z]⟩
    ·exact z.1
   rw[if_pos q,aK.mpr ⟨by omega,q.2.1⟩,a,if_pos (show(true&&true)=true from rfl)]
  ·rw[if_neg q,if_neg]
   intro z
   rw[GN]at z
   obtain⟨sj,a⟩:=z
   have xvj:=(dG V J F sv sj).mp a
   rw[aK]at sj
   by_cases y:l1 (wn ws j)=t
   ·have b:=(cO V J F v2 v3 (.inl y)).2
    rw[decide_eq_true v4]at b
    have:=(dG J V F.swap (aK.mpr sj) sv).mp b
    grind
   ·have nkj:j≠k:=fun z=>by subst z;omega
    have b:=(cO J K (aL hF hj hk nkj) (show l1 (wn ws j)<t by omega) sj.2 (.inl ek)).2
    have x:=(dG K J (aL hF hk hj (fun z=>nkj z.symm)) sk (aK.mpr sj)).mpr (by grind)
    rw[x]at b
    exact q ⟨by omega,sj.2,of_decide_eq_true b.symm⟩
include hU hF in
theorem vG{f:Nat}(hf:f<2*ws.length){r:List Nat}(R:gN ws f r){t:Int}{k:Nat}(L:Low ws r t k)(m:2*k+1∈r){d:Nat->Int}(fl:Flow ws d):Pf ws d f=Zc ws d t:=by
 rw[<-cL hU hF hf R fl m,iU];unfold Bw Phi Zc;have K:=aF hU L.k1;have all:=nZ hU hF hf R L m;have ek:=L.e;rw[ek];refine aJ fun j hj=>?_;show(if(sp (wn ws j) t&&abv (wn ws k) (wn ws j))=true then d j else 0)=_;have J:=aF hU hj;by_cases s:sp (wn ws j) t=true
 ·have s':=aK.mp s;rw[s,Hw];by_cases y:l1 (wn ws j)=t
  ·rw[all j hj y,if_neg (by decide),if_neg (by omega)]
  ·have ne:j≠k:=fun z=>by subst z;omega
   have b:=(cO J K (aL hF hj L.k1 ne) (show l1 (wn ws j)<t by omega) s'.2 (.inl ek)).2;rw[b];by_cases q:0<sdc (wn ws j) t
   ·rw[if_pos (by simpa using q),if_pos ⟨by omega,s'.2,q⟩]
   ·rw[if_neg (by simpa using q),if_neg fun z=>q z.2.2]
 ·have s':sp (wn ws j) t=false:=by simpa using s
  rw[s',Hd,if_neg (by decide),if_neg];intro q;exact s (aK.mpr ⟨by omega,q.2.1⟩)
include hU hF in
theorem jg{f:Nat}(hf:f<2*ws.length){r:List Nat}(R:gN ws f r):∃k,Low ws r (la (fc ws r).1 (fc ws r).2) k/\B20 (fc ws r)/\((aM ws r=true/\Pf ws (dR r) f=1)\/(aM ws r=false/\2*k+1∈r)):=by
 obtain⟨t,k,L,g,hg,et,mn⟩:=iH hU hF hf R;obtain⟨h1,g',hg',e'⟩:=oz ws (II hg);have a:=h1 g hg;have b:=mn g' hg';have e:la (fc ws r).1 (fc ws r).2=t:=by unfold tf at b;rw[<-e']at b;omega
 rw[e];refine⟨k,L,by rw[e'];exact nk hU (de hU hF hf R g' hg'),?_⟩;have o:=yi hU hF hf R;rcases nH hU hF hf R L with⟨m,z⟩|⟨_,_,z⟩
 ·right;refine⟨?_,m⟩;unfold aM;rw[o,z];rfl
 ·left;refine⟨?_,z⟩;unfold aM;rw[o,z];rfl
end
theorem mC{ws:List Wl}{ins:List (List Nat)}:∀{n i:Nat},i<n->fc ws ((ins[i]?).getD [])∈bR ws ins n
 |0,i,h=>absurd h (by omega)
 |n+1,i,h=>by
  unfold bR
  dsimp only
  by_cases e:i=n
  ·subst e
   split
   ·assumption
   ·exact GI _ (HE.mpr rfl)
  ·have:=mC (ws:=ws) (ins:=ins) (n:=n) (i:=i) (by omega)
   split
   ·exact this
   ·exact List.mem_append_left _ this
section
variable{ws:List Wl}(hU:∀w∈ws,Un5 w)(hF:PF ws)
include hU hF in
theorem oC{rs:List (List Nat)}(G:Rgs ws (2*ws.length) rs){r r':List Nat}(hr:r∈rs)(hr':r'∈rs)(o:aM ws r=false)(o':aM ws r'=false)(e:fc ws r=fc ws r'):r=r':=by
 obtain⟨f,f1,R⟩:=dC G r hr;obtain⟨f',f1',R'⟩:=dC G r' hr';obtain⟨k,L,_,q⟩:=jg hU hF f1 R;obtain⟨k',L',_,q'⟩:=jg hU hF f1' R'
 have m:2*k+1∈r:=by
  rcases q with⟨z,_⟩|⟨_,z⟩
  ·rw[o]at z;cases z
  ·exact z
 have m':2*k'+1∈r':=by
  rcases q' with⟨z,_⟩|⟨_,z⟩
  ·rw[o']at z;cases z
  ·exact z
 rw[<-e]at L';have ek:=L.e;have ek':=L'.e;by_cases ne:k=k'
 ·subst ne;exact fy hU hF (Gq _) G r hr r' hr' _ m m'
 ·exfalso;have a:=nZ hU hF f1 R L m k' L'.k1 ek';have b:=nZ hU hF f1' R' L' m' k L.k1 ek;have K:=aF hU L.k1;have K':=aF hU L'.k1;have kl:=K.lt;have kl':=K'.lt;have n:=cX K K' (aL hF L.k1 L'.k1 ne) (bE.mpr ⟨by omega,by omega,by omega,by omega⟩);rw[a,b]at n;cases n
include hU hF in
theorem uT{L:List Int}(il:cx ws L):∃rs,Rgs ws (2*ws.length) rs/\(∀(i:Nat) (S:List Nat),(rs.filter (aM ws))[i]?=some S->∀g∈S,L[g]?=some ((i+1:Nat):Int))/\∀r∈rs,aM ws r=false->∀g∈r,L[g]?=some (laF ws L (fc ws r)):=by
 obtain⟨rs,ps,G,pm,up,rfl⟩:=il;refine⟨rs,G,?_⟩;have mO:∀S,S∈rs.filter (aM ws)↔S∈rs/\aM ws S=true:=fun S=>GQ;have mI:∀S,S∈(rs.filter fun r=>!aM ws r)↔S∈rs/\aM ws S=false:=fun S=>by rw[GQ];simp
 have ndO:(rs.filter (aM ws)).Nodup:=Jq _ (f9 G);have dj:=fy hU hF (Gq _) G;have lt:∀r∈rs,∀g∈r,g<2*ws.length:=fun r hr g hg=>by obtain⟨f,f1,R⟩:=dC G r hr;exact de hU hF f1 R g hg
 generalize eo:rs.filter (aM ws)=outs at *;generalize ei:(rs.filter fun r=>!aM ws r)=ins at *;have LO:(fO (2*ws.length) outs outs.length).length=2*ws.length:=gK _ _ _
 have step:∀j,j<ps.length->∃q c,ps[j]?=some c/\(ins[(lx ws ins ((ps[j]?).getD (0,0)) ins.length).getD 0]?).getD []=q/\q∈rs/\aM ws q=false/\fc ws q=c:=fun j hj=>by
  have ec:ps[j]?=some ps[j]:=G8 hj
  have cm:ps[j]∈bR ws ins ins.length:=pm.mem_iff.mp (HC hj)
  obtain⟨i,a,b,c⟩:=fX cm
  have em:ins[i]?=some ins[i]:=G8 b
  have q:=(mI _).mp (HC b)
  rw[em]at c
  refine⟨ins[i],ps[j],ec,?_,q.1,q.2,c⟩
  rw[ec]
  show(ins[(lx ws ins ps[j] ins.length).getD 0]?).getD []=_
  rw[a]
  show(ins[i]?).getD []=_
  rw[em];rfl
 constructor
 ·intro i S eS g hg;have hS:=(mO S).mp (Gu eS);have gl:=lt S hS.1 g hg
  have k1:=wu (m:=2*ws.length) (outs:=outs) (fun i j r q g er eq hr hq=>by
   have a:=(mO r).mp (Gu er)
   have b:=(mO q).mp (Gu eq)
   have:=dj r a.1 q b.1 g hr hq
   subst this
   obtain⟨h1,e1⟩:=Gz.mp er
   obtain⟨h2,e2⟩:=Gz.mp eq
   exact(List.getElem_inj ndO).mp (e1.trans e2.symm)) eS hg gl outs.length (Gz.mp eS).1
  have k2:=jP (ws:=ws) (ins:=ins) (L:=fO (2*ws.length) outs outs.length) (ps:=ps) (x:=g) (by rw[LO];exact gl) (i:=0) ps.length fun j _ h2 z=>by
   obtain⟨q,c,_,eq,q1,q2,_⟩:=step j (by omega)
   rw[eq]at z
   have:=dj S hS.1 q q1 g hg z
   rw[<-this,hS.2]at q2;cases q2
  rw[Nat.zero_add]at k2;rw[k2];exact k1
 ·intro r hr o g hg;have gl:=lt r hr g hg;obtain⟨f,f1,R⟩:=dC G r hr;obtain⟨k,Lw,hc,_⟩:=jg hU hF f1 R;obtain⟨i,hi,ei'⟩:=List.mem_iff_getElem.mp ((mI r).mpr ⟨hr,o⟩)
  have cm:fc ws r∈ps:=by
   rw[pm.mem_iff]
   have:=mC (ws:=ws) (ins:=ins) hi
   rw[G8 hi,ei']at this
   exact this
  obtain⟨j,hj,ej⟩:=List.mem_iff_getElem.mp cm;obtain⟨q,c,ec,eq,q1,q2,q3⟩:=step j hj;have ecj:ps[j]?=some (fc ws r):=by rw[G8 hj,ej]
  rw[ecj]at ec;cases ec;have eqr:=oC hU hF G q1 hr q2 o q3;subst eqr;have P:=IE.mp up
  have later:∀j',j<=j'->(hj':j'<ps.length)->la (fc ws q).1 (fc ws q).2<=la ps[j'].1 ps[j'].2/\(ps[j']=fc ws q->j'=j):=fun j' h1 h2=>by
   by_cases e:j=j'
   ·subst e;rw[ej];exact⟨JA _,fun _=>rfl⟩
   ·have:=P j j' hj h2 (by omega);rw[ej]at this;unfold plt at this;unfold la;refine⟨by omega,fun z=>?_⟩;rw[z]at this;omega
  have k1:(fS ws ins (fO (2*ws.length) outs outs.length) ps (j+1))[g]?=some (laF ws (fS ws ins (fO (2*ws.length) outs outs.length) ps j) (fc ws q)):=by rw[fS,kn (by rw[iO,LO];exact gl),eq,if_pos hg,ecj];rfl
  have k2:=jP (ws:=ws) (ins:=ins) (L:=fO (2*ws.length) outs outs.length) (ps:=ps) (x:=g) (by rw[LO];exact gl) (i:=j+1) (ps.length-(j+1)) fun j' h1 h2 z=>by
   obtain⟨q',c',ec',eq',q1',q2',q3'⟩:=step j' (by omega)
   rw[eq']at z
   have:=dj q q1 q' q1' g hg z
   subst this
   have ec2:ps[j']?=some ps[j']:=G8 (by omega)
   rw[ec']at ec2
   have:=(later j' (by omega) (by omega)).2 (by rw[<-Option.some.inj ec2,q3'])
   omega
  rw[show j+1+(ps.length-(j+1))=ps.length by omega]at k2;rw[k2,k1]
  congr 1
  unfold laF;by_cases b:bK ws 1 (fc ws q).1 (fc ws q).2=[]
  ·rw[if_pos b,if_pos b]
  ·rw[if_neg b,if_neg b];obtain⟨v,v1,v2,v3,_⟩:=rR hU hF (aX hU hF f1 R) hc Lw.k1 Lw.e b;rw[v2]
   have k3:=jP (ws:=ws) (ins:=ins) (L:=fO (2*ws.length) outs outs.length) (ps:=ps) (x:=2*v) (by rw[LO];omega) (i:=j) (ps.length-j) fun j' h1 h2 z=>by
    obtain⟨q',c',ec',eq',q1',q2',q3'⟩:=step j' (by omega)
    rw[eq']at z
    have:=(oz ws (II z)).1 _ z
    unfold tf at this
    rw[cf,q3']at this
    have ec2:ps[j']?=some ps[j']:=G8 (by omega)
    rw[ec']at ec2
    have l:=(later j' h1 (by omega)).1
    rw[<-Option.some.inj ec2]at l
    omega
   rw[show j+(ps.length-j)=ps.length by omega]at k3;rw[k3]
end
section
variable{ws:List Wl}(hU:∀w∈ws,Un5 w)(hF:PF ws)
def Rt(ws:List Wl)(L:List Int)(outs:List (List Nat))(g:Nat):Prop:=
 (L[g]?=some 0/\∀S∈outs,Pf ws (dR S) g=0)\/∃(i:Nat) (S:List Nat) (g':Nat),outs[i]?=some S/\g'∈S/\L[g]?=some ((i+1:Nat):Int)/\∀T∈outs,Pf ws (dR T) g=Pf ws (dR T) g'
include hU hF in
theorem kH{L:List Int}{rs:List (List Nat)}(G:Rgs ws (2*ws.length) rs)(h1:∀(i:Nat) (S:List Nat),(rs.filter (aM ws))[i]?=some S->∀g∈S,L[g]?=some ((i+1:Nat):Int))(h2:∀r∈rs,aM ws r=false->∀g∈r,L[g]?=some (laF ws L (fc ws r))) :
 ∀(N:Nat) (r:List Nat),r∈rs->la (fc ws r).1 (fc ws r).2<(N:Int)->∀g∈r,Rt ws L (rs.filter (aM ws)) g
 |0,r,hr,hN,g,hg=>by
  exfalso
  obtain⟨f,f1,R⟩:=dC G r hr
  obtain⟨k,_,hc,_⟩:=jg hU hF f1 R
  have a:=hc.1
  have b:=hc.2
  unfold la at hN
  omega
 |N+1,r,hr,hN,g,hg=>by
  obtain⟨f,f1,R⟩:=dC G r hr
  obtain⟨k,Lw,hc,q⟩:=jg hU hF f1 R
  have fT:∀T∈rs.filter (aM ws),Flow ws (dR T):=fun T hT=>by
   obtain⟨f',f1',R'⟩:=dC G T (GQ.mp hT).1
   exact aX hU hF f1' R'
  rcases q with⟨o,_⟩|⟨o,m⟩
  ·right
   obtain⟨i,hi,e⟩:=List.mem_iff_getElem.mp (GQ.mpr ⟨hr,o⟩)
   have e:(rs.filter (aM ws))[i]?=some r:=by rw[G8 hi,e]
   exact⟨i,r,g,e,hg,h1 i r e g hg,fun _ _=>rfl⟩
  ·have Lg:=h2 r hr o g hg
   have P:∀T∈rs.filter (aM ws),Pf ws (dR T) g=Zc ws (dR T) (la (fc ws r).1 (fc ws r).2):=fun T hT=>by
    rw[cL hU hF f1 R (fT T hT) hg]
    exact vG hU hF f1 R Lw m (fT T hT)
   by_cases b:bK ws 1 (fc ws r).1 (fc ws r).2=[]
   ·left
    refine⟨by rw[Lg];unfold laF;rw[if_pos b],fun S hS=>?_⟩
    rw[P S hS,Di hU hc b]
   ·obtain⟨v,v1,v2,v3,_⟩:=rR hU hF (aX hU hF f1 R) hc Lw.k1 Lw.e b
    have Z:∀T∈rs.filter (aM ws),Pf ws (dR T) g=Pf ws (dR T) (2*v):=fun T hT=>by
     obtain⟨v',_,v2',_,e⟩:=rR hU hF (fT T hT) hc Lw.k1 Lw.e b
     rw[P T hT,e,<-v2',v2]
    obtain⟨r1,hr1,m1⟩:=iQ G (2*v) (by omega)
    have lt1:la (fc ws r1).1 (fc ws r1).2<(N:Int):=by
     have:=(oz ws (II m1)).1 _ m1
     unfold tf at this
     rw[cf]at this
     omega
    have lf:laF ws L (fc ws r)=(L[2*v]?).getD 0:=by unfold laF;rw[if_neg b,v2]
    rcases kH G h1 h2 N r1 hr1 lt1 (2*v) m1 with⟨a,c⟩|⟨i,S,g',a,c,d,e⟩
    ·left
     refine⟨by rw[Lg,lf,a];rfl,fun S hS=>?_⟩
     rw[Z S hS,c S hS]
    ·right
     refine⟨i,S,g',a,c,by rw[Lg,lf,d];rfl,fun T hT=>?_⟩
     rw[Z T hT,e T hT]
include hU hF in
theorem land_eq{L:List Int}(il:cx ws L):(∀g h,g<2*ws.length->h<2*ws.length->(∀f r,f<2*ws.length->gN ws f r->Pf ws (dR r) g=Pf ws (dR r) h)->L[g]?=L[h]?)/\∀g,g<2*ws.length->(∀f r,f<2*ws.length->gN ws f r->Pf ws (dR r) g=0)->L[g]?=some 0:=by
 obtain⟨rs,G,h1,h2⟩:=uT hU hF il;have root:∀g,g<2*ws.length->Rt ws L (rs.filter (aM ws)) g:=fun g hg=>by obtain⟨r,hr,m⟩:=iQ G g hg;exact kH hU hF G h1 h2 ((la (fc ws r).1 (fc ws r).2).toNat+1) r hr (by omega) g m
 have ring:∀S∈rs.filter (aM ws),∃f,f<2*ws.length/\gN ws f S/\Pf ws (dR S) f=1/\S∈rs:=fun S hS=>by
  obtain⟨a,o⟩:=GQ.mp hS;obtain⟨f,f1,R⟩:=dC G S a;obtain⟨k,_,_,q⟩:=jg hU hF f1 R;rcases q with⟨_,z⟩|⟨z,_⟩
  ·exact⟨f,f1,R,z,a⟩
  ·rw[o]at z;cases z
 have own:∀S∈rs.filter (aM ws),∀g∈S,Pf ws (dR S) g=1:=fun S hS g hg=>by obtain⟨f,f1,R,z,_⟩:=ring S hS;rw[cL hU hF f1 R (aX hU hF f1 R) hg,z]
 constructor
 ·intro g h hg hh eq;have eqT:∀T∈rs.filter (aM ws),Pf ws (dR T) g=Pf ws (dR T) h:=fun T hT=>by obtain⟨f,f1,R,_⟩:=ring T hT;exact eq f T f1 R
  rcases root g hg with⟨a,b⟩|⟨i,S,g',a,b,c,d⟩<;>rcases root h hh with⟨a',b'⟩|⟨i',S',h',a',b',c',d'⟩
  ·rw[a,a']
  ·exfalso;have m:=Gu a';have:=own S' m h' b';rw[<-d' S' m,<-eqT S' m,b S' m]at this;omega
  ·exfalso;have m:=Gu a;have:=own S m g' b;rw[<-d S m,eqT S m,b' S m]at this;omega
  ·have m:=Gu a;have m':=Gu a';by_cases e:S=S'
   ·subst e;have nd:(rs.filter (aM ws)).Nodup:=Jq _ (f9 G);obtain⟨p1,e1⟩:=Gz.mp a;obtain⟨p2,e2⟩:=Gz.mp a';have:=(List.getElem_inj nd).mp (e1.trans e2.symm);subst this;rw[c,c']
   ·exfalso;obtain⟨f,f1,R,z,ms⟩:=ring S m;obtain⟨f',f1',R',z',ms'⟩:=ring S' m';refine uo hU hF f1 R f1' R' (fun x hx hx'=>e (fy hU hF (Gq _) G S ms S' ms' x hx hx')) z z' ?_ ?_
    ·rw[<-cL hU hF f1 R (aX hU hF f1' R') b,<-d S' m',eqT S' m',d' S' m'];exact own S' m' h' b'
    ·rw[<-cL hU hF f1' R' (aX hU hF f1 R) b',<-d' S m,<-eqT S m,d S m];exact own S m g' b
 ·intro g hg z;rcases root g hg with⟨a,b⟩|⟨i,S,g',a,b,c,d⟩
  ·exact a
  ·exfalso;have m:=Gu a;obtain⟨f,f1,R,_⟩:=ring S m;have:=own S m g' b;rw[<-d S m,z f S f1 R]at this;omega
end
theorem dn{m a b:Int}(hm:0<m)(h:m*a<m*b):a<b:=Int.lt_of_mul_lt_mul_left h (by omega)
theorem u7{w v:Wl}{k m:Int}(hw:l1 w<l2 w)(hv:l1 v<l2 v)(F:Fair w v)(k0:0<k)(k1:k<m)
 (z:(m-k)*sd1 v w+k*sd2 v w=0) (g1:m*l1 v<=l1 w*(m-k)+l2 w*k) (g2:l1 w*(m-k)+l2 w*k<=m*l2 v):False:=by
 have i1:=qa w v
 have i2:=pA w v
 have pr:=F.pr
 have f1:=F.e1.nz
 have f2:=F.e2.nz
 have ln:=qS (U:=v) (V:=w) hv hw F.swap
 generalize sd1 v w=a at *
 generalize sd2 v w=b at *
 generalize sd1 w v=c at *
 generalize sd2 w v=d at *
 generalize l1 w=p at *
 generalize l2 w=q at *
 generalize l1 v=r at *
 generalize l2 v=s at *
 have q1:m*p<p*(m-k)+q*k:=by
  have:=GF k0 (show 0<q-p by omega)
  have e:p*(m-k)+q*k-m*p=k*(q-p):=by grind
  omega
 have q2:p*(m-k)+q*k<m*q:=by
  have:=GF (show 0<m-k by omega) (show 0<q-p by omega)
  have e:m*q-(p*(m-k)+q*k)=(m-k)*(q-p):=by grind
  omega
 have j1:(m-k)*(c*(s-r))=b*(p*(m-k)+q*k-m*r):=by rw[i1];grind
 have j2:(m-k)*(d*(s-r))=b*(p*(m-k)+q*k-m*s):=by rw[i2];grind
 generalize p*(m-k)+q*k=L at *
 have hm:0<m:=by omega
 have mk:0<m-k:=by omega
 have sr:0<s-r:=by omega
 by_cases hb:b=0
 ·have ha:a=0:=by
   subst hb
   have:(m-k)*a=0:=by omega
   rcases Ic.mp this with h|h
   ·omega
   ·exact h
  refine ln ha hb (bE.mpr ⟨hv,dn hm (by omega),dn hm (by omega),hw⟩)
 have ab:(0<b/\a<0)\/(b<0/\0<a):=by
  rcases Int.lt_or_gt_of_ne hb with h|h
  ·right
   have:=GK k0 h
   exact⟨h,dM mk (by rw[Int.mul_comm];omega)⟩
  ·left
   have:=GF k0 h
   exact⟨h,gL mk (by rw[Int.mul_comm];omega)⟩
 rcases pr with pr|pr
 ·have pr:=sgp pr
  by_cases e1:L=m*r
  ·have:c=0:=by
    rw[e1,Js,HW]at j1
    rcases Ic.mp j1 with h|h
    ·omega
    ·rcases Ic.mp h with h|h
     ·exact h
     ·omega
   exact f1 (dn hm (by omega)) (dn hm (by omega)) this
  by_cases e2:L=m*s
  ·have:d=0:=by
    rw[e2,Js,HW]at j2
    rcases Ic.mp j2 with h|h
    ·omega
    ·rcases Ic.mp h with h|h
     ·exact h
     ·omega
   exact f2 (dn hm (by omega)) (dn hm (by omega)) this
  have x1:0<L-m*r:=by omega
  have x2:L-m*s<0:=by omega
  have sg:∀{z:Int},0<(m-k)*(z*(s-r))->0<z:=fun{z} h=>dM sr (dM mk (by rw[Int.mul_comm];exact h))
  have sn:∀{z:Int},(m-k)*(z*(s-r))<0->z<0:=fun{z} h=>gL sr (gL mk (by rw[Int.mul_comm];exact h))
  rcases ab with⟨h,_⟩|⟨h,_⟩
  ·exact pr.1 ⟨sg (by rw[j1];exact GF h x1),sn (by rw[j2];exact GK h x2)⟩
  ·exact pr.2 ⟨sn (by rw[j1];exact GU h x1),sg (by rw[j2];exact He h x2)⟩
 ·have pr:=sgp pr
  rcases ab with h|h
  ·exact pr.2 ⟨h.2,h.1⟩
  ·exact pr.1 ⟨h.2,h.1⟩
theorem mD{dx dy e f:Int}(h:0<100*dx+dy)(hy:-20<=dy/\dy<=20)(z:dx*f=dy*e)(n:¬(e<0\/(e=0/\f<0))):0<=100*e+f:=by
 by_cases d0:dx=0
 ·subst d0;have:dy*e=0:=by omega
  rcases Ic.mp this with h|h<;>omega
 ·have dp:0<dx:=by omega
  have e0:0<=e:=by omega
  have k:=Je (show 0<=100*dx+dy by omega) e0;have id:(100*e+f)*dx=(100*dx+dy)*e:=by grind
  by_cases g:100*e+f<0
  ·have:=GU g dp;omega
  ·omega
def ix(w:Wl)(m k:Int):Int:=w.1*(m-k)+w.2.2.1*k
def iy(w:Wl)(m k:Int):Int:=w.2.1*(m-k)+w.2.2.2*k
def OnU(v:Wl)(m x y:Int):Prop:=(v.2.2.1-v.1)*(y-m*v.2.1)=(v.2.2.2-v.2.1)*(x-m*v.1)/\¬(x<m*v.1\/(x=m*v.1/\y<m*v.2.1))/\¬(m*v.2.2.1<x\/(m*v.2.2.1=x/\m*v.2.2.2<y))
theorem OnU.la{v:Wl}{m x y:Int}(hv:Un5 v)(h:OnU v m x y):m*l1 v<=100*x+y/\100*x+y<=m*l2 v:=by obtain⟨z,n1,n2⟩:=h;have hl:=hv.lt;have hb:=hv.b;have hd:=hv.d;unfold l1 l2 SD.la at *;have s1:=mD (dx:=v.2.2.1-v.1) (dy:=v.2.2.2-v.2.1) (e:=x-m*v.1) (f:=y-m*v.2.1) (by omega) (by omega) z (by omega);have s2:=mD (dx:=v.2.2.1-v.1) (dy:=v.2.2.2-v.2.1) (e:=m*v.2.2.1-x) (f:=m*v.2.2.2-y) (by omega) (by omega) (by grind) (by omega);constructor<;>grind
theorem zI{w:Wl}{m k:Int}(hw:Un5 w)(k0:0<k)(k1:k<m):OnU w m (ix w m k) (iy w m k):=by
 have hl:=hw.lt;have hb:=hw.b;have hd:=hw.d;unfold l1 l2 SD.la at hl;have e1:ix w m k-m*w.1=k*(w.2.2.1-w.1):=by unfold ix;grind
 have e2:iy w m k-m*w.2.1=k*(w.2.2.2-w.2.1):=by unfold iy;grind
 have e3:m*w.2.2.1-ix w m k=(m-k)*(w.2.2.1-w.1):=by unfold ix;grind
 have e4:m*w.2.2.2-iy w m k=(m-k)*(w.2.2.2-w.2.1):=by unfold iy;grind
 have st:∀{j e f:Int},0<j->e=j*(w.2.2.1-w.1)->f=j*(w.2.2.2-w.2.1)->¬(e<0\/(e=0/\f<0)):=fun{j e f} hj h1 h2=>by
  by_cases d0:w.2.2.1-w.1=0
  ·have:=GF hj (show 0<w.2.2.2-w.2.1 by omega);rw[d0,HW]at h1;omega
  ·have:=GF hj (show 0<w.2.2.1-w.1 by omega);omega
 have s1:=st k0 e1 e2;have s2:=st (show 0<m-k by omega) e3 e4;refine⟨by rw[e1,e2];grind,by omega,by omega⟩
theorem jk{w v:Wl}{m k:Int}(hw:Un5 w)(hv:Un5 v)(F:Fair w v)(k0:0<k)(k1:k<m):¬OnU v m (ix w m k) (iy w m k):=fun h=>by
 obtain⟨g1,g2⟩:=h.la hv;have z:=h.1;have e:100*ix w m k+iy w m k=l1 w*(m-k)+l2 w*k:=by unfold ix iy l1 l2 la;grind
 rw[e]at g1 g2;refine u7 hw.lt hv.lt F k0 k1 ?_ g1 g2;unfold sd1 sd2 sd crs;unfold ix iy at z;grind
theorem sX{v:Wl}(hv:Un5 v){m x y:Int}(h:(x=m*v.1/\y=m*v.2.1)\/(x=m*v.2.2.1/\y=m*v.2.2.2))(hm:0<m):OnU v m x y:=by
 have hl:=hv.lt;have hb:=hv.b;have hd:=hv.d;unfold l1 l2 SD.la at hl;have e1:m*v.2.2.1-m*v.1=m*(v.2.2.1-v.1):=by grind
 have e2:m*v.2.2.2-m*v.2.1=m*(v.2.2.2-v.2.1):=by grind
 have st:¬(m*v.2.2.1-m*v.1<0\/(m*v.2.2.1-m*v.1=0/\m*v.2.2.2-m*v.2.1<0)):=by
  by_cases d0:v.2.2.1-v.1=0
  ·have:=GF hm (show 0<v.2.2.2-v.2.1 by omega);rw[d0]at e1;omega
  ·have:=GF hm (show 0<v.2.2.1-v.1 by omega);omega
 rcases h with⟨rfl,rfl⟩|⟨rfl,rfl⟩
 ·refine⟨by rw[Js,Js,HW,HW],by omega,by omega⟩
 ·refine⟨by rw[e1,e2];grind,by omega,by omega⟩
theorem pZ{w:Wl}{m k:Int}(hw:Un5 w)(k0:0<k)(k1:k<m):¬(ix w m k=m*w.1/\iy w m k=m*w.2.1)/\¬(ix w m k=m*w.2.2.1/\iy w m k=m*w.2.2.2):=by
 have hl:=hw.lt;have e:100*ix w m k+iy w m k=l1 w*(m-k)+l2 w*k:=by unfold ix iy l1 l2 la;grind
 have a1:=GF k0 (show 0<l2 w-l1 w by omega);have a2:=GF (show 0<m-k by omega) (show 0<l2 w-l1 w by omega);constructor
 ·rintro⟨h1,h2⟩;rw[h1,h2]at e;unfold l1 l2 la at *;grind
 ·rintro⟨h1,h2⟩;rw[h1,h2]at e;unfold l1 l2 la at *;grind
theorem rl{ws:List Wl}{i:Nat}{w:Wl}{m k:Int}(hU:∀w∈ws,Un5 w)(hF:PF ws)(ew:ws[i]?=some w)(k0:0<k)(k1:k<m){n:Nat}{u:Vc}(hu:u∈cnr ws n):¬(ix w m k=m*u.1/\iy w m k=m*u.2):=by
 obtain⟨j,v,_,ev,hv⟩:=(jL n).mp hu;have hw5:=hU w (Gu ew);have hv5:=hU v (Gu ev);intro h
 have h':(ix w m k=m*v.1/\iy w m k=m*v.2.1)\/(ix w m k=m*v.2.2.1/\iy w m k=m*v.2.2.2):=by
  rcases hv with rfl|rfl
  ·exact .inl h
  ·exact .inr h
 by_cases e:i=j
 ·subst e;rw[ew]at ev;cases ev;exact h'.elim (pZ hw5 k0 k1).1 (pZ hw5 k0 k1).2
 ·exact jk hw5 hv5 (hF i j w v e ew ev) k0 k1 (sX hv5 h' (by omega))
theorem B3{t b X Y p q r s m x y:Int}(ht:0<t)(hb:0<b)(hm:0<m):Ma.cr (Ma.ut t b X 1 p) (Ma.ut t b Y 1 q) (Ma.ut t b X 1 r) (Ma.ut t b Y 1 s) (Ma.ut t b X m x) (Ma.ut t b Y m y)=0↔(r-p)*(y-m*q)=(s-q)*(x-m*p):=by
 have e:∀(X z:Int),Ma.ut t b X 1 z=Ma.ut t b X m (m*z):=fun X z=>(Ma.dz ht hb (by decide) hm).mpr (by omega);have l:∀(X z:Int),Ma.ut t b X m z=((t:Rat)/b*(1/m))*(z:Rat)+(X:Rat)/b:=fun X z=>by rw[xP hb hm,Jz (z:Rat),Jz (1:Rat)];grind
 have kp:(0:Rat)<(t:Rat)/b*(1/m):=by rw[Jz,Jz,Rat.one_mul];exact J4 (J4 (Ma.pos_int ht) (Rat.inv_pos.mpr (Ma.pos_int hb))) (Rat.inv_pos.mpr (Ma.pos_int hm))
 rw[e,e,e,e,l,l,l,l,l,l,yu];have c:((((m*r:Int):Rat)-((m*p:Int):Rat))*(((y:Int):Rat)-((m*q:Int):Rat))-(((m*s:Int):Rat)-((m*q:Int):Rat))*(((x:Int):Rat)-((m*p:Int):Rat)))=(((m*r-m*p)*(y-m*q)-(m*s-m*q)*(x-m*p):Int):Rat):=by simp only[IC,Hj]
 rw[c,nD (J4 kp kp)];have f:(m*r-m*p)*(y-m*q)-(m*s-m*q)*(x-m*p)=m*((r-p)*(y-m*q)-(s-q)*(x-m*p)):=by grind
 rw[f,Ic];omega
theorem kJ{t b X Y m x y:Int}(v:Wl)(ht:0<t)(hb:0<b)(hm:0<m):(Ma.cr (Ma.ut t b X 1 v.1) (Ma.ut t b Y 1 v.2.1) (Ma.ut t b X 1 v.2.2.1) (Ma.ut t b Y 1 v.2.2.2) (Ma.ut t b X m x) (Ma.ut t b Y m y)=0/\¬Ma.ah (Ma.ut t b X m x) (Ma.ut t b Y m y) (Ma.ut t b X 1 v.1) (Ma.ut t b Y 1 v.2.1)/\¬Ma.ah (Ma.ut t b X 1 v.2.2.1) (Ma.ut t b Y 1 v.2.2.2) (Ma.ut t b X m x) (Ma.ut t b Y m y))↔OnU v m x y:=by rw[B3 ht hb hm,Ma.mX ht hb hm (by decide),Ma.mX ht hb (by decide) hm,Ma.cF,Ma.cF];unfold OnU;simp only[Int.one_mul]
theorem oJ{a c m k:Int}(ha:0<=a/\a<=20)(hc:0<=c/\c<=20)(k0:0<=k)(k1:k<=m)(k2:m<=6):-(10^6)<=a*(m-k)+c*k/\a*(m-k)+c*k<=10^6:=by have p1:=tQ ha.1 ha.2 (show 0<=m-k by omega) (show m-k<=6 by omega);have p2:=tQ hc.1 hc.2 (show 0<=k by omega) (show k<=6 by omega);omega
theorem zZ:PyData.strOk (Ie "wall")=true:=by decide +kernel
def sL(w:Wl)(m p q:Int):Int:=(w.2.2.1-w.1)*(q-m*w.2.1)-(w.2.2.2-w.2.1)*(p-m*w.1)
def spx(w:Wl)(m p q:Int):Prop:=¬(p<m*w.1\/(p=m*w.1/\q<m*w.2.1))/\(p<m*w.2.2.1\/(p=m*w.2.2.1/\q<m*w.2.2.2))
instance(w:Wl)(m p q:Int):Decidable (spx w m p q):=by unfold spx;infer_instance
theorem iF{a b s x y:Int}(ha:0<a)(hb:0<b)(e:a*s=b*x+y)(hy:0<=y):(0<x->0<s)/\(0<=x->0<=s):=by
 constructor
 ·intro h;have:=GF hb h;exact dM ha (by rw[Int.mul_comm];omega)
 ·intro h;have:=Je (show 0<=b by omega) h;by_cases z:s<0
  ·have:=GK ha z;omega
  ·omega
theorem qN{v k:Wl}{m p q:Int}(hm:0<m)(hv:Un5 v)(hk:Un5 k)(F:Fair v k)(ap:max (l1 v) (l1 k)<min (l2 v) (l2 k))(a:abv v k=true)(xv:v.1<v.2.2.1)(xk:k.1<k.2.2.1)(r1:m*v.1<=p)(r2:p<=m*v.2.2.1)(r3:m*k.1<=p)(r4:p<=m*k.2.2.1):(0<sL v m p q->0<sL k m p q)/\(0<=sL v m p q->0<=sL k m p q):=by
 have o:=bE.mp ap;have hx:0<v.2.2.1-v.1:=by omega
 have hy:0<k.2.2.1-k.1:=by omega
 have i1:(v.2.2.1-v.1)*sL k m p q=(k.2.2.1-k.1)*sL v m p q+((k.2.2.1-k.1)*(m * -sd1 v k)+(p-m*k.1) * -vc (dw v) (dw k)):=by unfold sL sd1 sd vc dw crs;grind
 have i2:(v.2.2.1-v.1)*sL k m p q=(k.2.2.1-k.1)*sL v m p q+((v.2.2.1-v.1)*(m*sd1 k v)+(p-m*v.1) * -vc (dw v) (dw k)):=by unfold sL sd1 sd vc dw crs;grind
 have i3:(v.2.2.1-v.1)*sL k m p q=(k.2.2.1-k.1)*sL v m p q+((k.2.2.1-k.1)*(m * -sd2 v k)+(m*k.2.2.1-p)*vc (dw v) (dw k)):=by unfold sL sd2 sd vc dw crs;grind
 have i4:(v.2.2.1-v.1)*sL k m p q=(k.2.2.1-k.1)*sL v m p q+((v.2.2.1-v.1)*(m*sd2 k v)+(m*v.2.2.1-p)*vc (dw v) (dw k)):=by unfold sL sd2 sd vc dw crs;grind
 have mz:∀{x y:Int},0<=x->0<=y->0<=x*y:=fun a b=>Je a b;by_cases c:vc (dw v) (dw k)<=0
 ·by_cases h:l1 k<l1 v
  ·have:=kO ap h;rw[a]at this;have:=of_decide_eq_true this.symm;exact iF hx hy i2 (Int.add_nonneg (mz (by omega) (mz (by omega) (by omega))) (mz (by omega) (by omega)))
  ·have s:sd1 v k<=0:=by
    by_cases e:l1 v=l1 k
    ·rw[sG hv hk e];omega
    ·have:=lG ap (by omega);rw[a]at this;have:=of_decide_eq_true this.symm;omega
   exact iF hx hy i1 (Int.add_nonneg (mz (by omega) (mz (by omega) (by omega))) (mz (by omega) (by omega)))
 ·by_cases h:l2 v<l2 k
  ·have n:=cX hv hk F ap;rw[a,iG hk hv F.swap o.2.2.1 h]at n;have n:=of_decide_eq_false n;exact iF hx hy i4 (Int.add_nonneg (mz (by omega) (mz (by omega) (by omega))) (mz (by omega) (by omega)))
  ·have s:sd2 v k<=0:=by
    by_cases e:l2 v=l2 k
    ·rw[lU hv hk e];omega
    ·have:=iG hv hk F o.2.1 (by omega);rw[a]at this;have:=of_decide_eq_true this.symm;omega
   exact iF hx hy i3 (Int.add_nonneg (mz (by omega) (mz (by omega) (by omega))) (mz (by omega) (by omega)))
section
variable{ws:List Wl}(hU:∀w∈ws,Un5 w)(hF:PF ws)
abbrev BL(ws:List Wl)(m p q:Int)(k:Nat):Prop:=spx (wn ws k) m p q/\0<sL (wn ws k) m p q
def Vs(ws:List Wl)(d:Nat->Int)(m p q:Int):Int:=sg ws.length fun k=>if BL ws m p q k then d k else 0
def At(ws:List Wl)(m p q τ:Int):Prop:=∀k,k<ws.length->(spx (wn ws k) m p q↔sp (wn ws k) τ=true)
include hU hF in
theorem BR{d:Nat->Int}(fl:Flow ws d){m p q τ:Int}(hm:0<m)(A:At ws m p q τ)(nv:∀k,k<ws.length->spx (wn ws k) m p q->(wn ws k).1<(wn ws k).2.2.1){v:Nat}(hv:v<ws.length)(h:BL ws m p q v)(top:∀k,k<ws.length->k≠v->BL ws m p q k->abv (wn ws v) (wn ws k)=true):Vs ws d m p q=Pf ws d (2*v):=by
 have sv:=(A v hv).mp h.1;have one:d v=sg ws.length (fun j=>if j=v then d j else 0):=by rw[dE,if_pos hv]
 rw[df,<-dD hU hF fl hv sv,one];unfold Phi Vs;rw[<-cB];refine aJ fun j hj=>?_;show _=(if(sp (wn ws j) τ&&abv (wn ws v) (wn ws j))=true then d j else 0)+(if j=v then d j else 0);by_cases e:j=v
 ·subst e;rw[if_pos h,bC (aF hU hj),Iy,if_neg (by decide),if_pos rfl,Int.zero_add]
 ·rw[if_neg e,Jr];by_cases c:BL ws m p q j
  ·rw[if_pos c,(A j hj).mp c.1,top j hj e c,if_pos (show(true&&true)=true from rfl)]
  ·rw[if_neg c,if_neg];intro z;rw[GN]at z;have sj:=(A j hj).mpr z.1;have a1:=aK.mp sv;have a2:=aK.mp z.1;obtain⟨b1,b2⟩:=h.1;obtain⟨c1,c2⟩:=id sj;refine c ⟨sj,(qN hm (aF hU hv) (aF hU hj) (aL hF hv hj (fun y=>e y.symm)) (bE.mpr ⟨by omega,by omega,by omega,by omega⟩) z.2 (nv v hv h.1) (nv j hj sj) (by omega) (by omega) (by omega) (by omega)).1 h.2⟩
end
def plc(p q:Int):Int:=if p%2000000=0 then 100*(p/2000000)+q/2000000 else 100*(p/2000000)+99
theorem tD{p q x y:Int}(hy:0<=y/\y<=20)(hq:-2000000<=q/\q<80000000):¬(p<2000000*x\/(p=2000000*x/\q<2000000*y))↔100*x+y<=plc p q:=by unfold plc;split<;>omega
theorem qW{ws:List Wl}(hU:∀w∈ws,Un5 w){p q:Int}(hq:-2000000<=q/\q<80000000):At ws 2000000 p q (plc p q):=fun k hk=>by have W:=aF hU hk;have a:=tD (p:=p) (q:=q) (x:=(wn ws k).1) W.b hq;have b:=tD (p:=p) (q:=q) (x:=(wn ws k).2.2.1) W.d hq;unfold spx;rw[aK];unfold l1 l2 la;omega
def mx(w:Wl):Int:=w.1+w.2.2.1
def my(w:Wl):Int:=w.2.1+w.2.2.2
theorem tK{w k:Wl}(hw:Un5 w)(hk:Un5 k)(F:Fair w k):¬OnU k 2 (mx w) (my w):=by
 have h:=jk (m:=2) (k:=1) hw hk F (by decide) (by decide);have e1:ix w 2 1=mx w:=by unfold ix mx;omega
 have e2:iy w 2 1=my w:=by unfold iy my;omega
 rw[e1,e2]at h;exact h
theorem nC(k:Wl)(x y e g:Int):sL k 2000000 (1000000*x+e) (1000000*y+g)=1000000*sL k 2 x y+((k.2.2.1-k.1)*g-(k.2.2.2-k.2.1)*e):=by unfold sL;grind
theorem mG{a b:Int}(ha:-20<=a/\a<=20)(hb:-20<=b/\b<=20):-400<=a*b/\a*b<=400:=by
 have h:(a*b).natAbs<=20*20:=by rw[Int.natAbs_mul];exact Nat.mul_le_mul (by omega) (by omega)
 omega
section
variable{w k:Wl}(hw:Un5 w)(hk:Un5 k)(F:Fair w k){e g:Int}(he:-20<=e/\e<=20)(hg:-20<=g/\g<=20)
include hw hk F he hg
theorem qI(xk:k.1<k.2.2.1)(r1:2000000*k.1<=1000000*mx w+e)(r2:1000000*mx w+e<=2000000*k.2.2.1):(2*k.1<=mx w/\mx w<=2*k.2.2.1)/\sL k 2 (mx w) (my w)≠0/\((0<sL k 2 (mx w) (my w)/\0<sL k 2000000 (1000000*mx w+e) (1000000*my w+g))\/(sL k 2 (mx w) (my w)<0/\sL k 2000000 (1000000*mx w+e) (1000000*my w+g)<0)):=by
 have rg:2*k.1<=mx w/\mx w<=2*k.2.2.1:=by omega
 have nz:sL k 2 (mx w) (my w)≠0:=fun z=>by
  refine tK hw hk F ⟨by unfold sL at z;omega,?_,?_⟩
  ·rintro(h|⟨h1,h2⟩)
   ·omega
   ·unfold sL at z;rw[show mx w-2*k.1=0 by omega,HW,Int.sub_zero]at z;rcases Ic.mp z with q|q<;>omega
  ·rintro(h|⟨h1,h2⟩)
   ·omega
   ·have z':(k.2.2.1-k.1)*(my w-2*k.2.2.2)=0:=by
     unfold sL at z
     have:mx w=2*k.2.2.1:=h1.symm
     rw[this]at z
     rw[<-z]
     grind
    rcases Ic.mp z' with q|q<;>omega
 refine⟨rg,nz,?_⟩;rw[nC];have a:=hk.a;have b:=hk.b;have c:=hk.c;have d:=hk.d
 have s1:=mG (show -20<=k.2.2.1-k.1/\k.2.2.1-k.1<=20 by omega) hg;have s2:=mG (show -20<=k.2.2.2-k.2.1/\k.2.2.2-k.2.1<=20 by omega) he;omega
theorem tV(xk:k.1=k.2.2.1)(h:1000000*mx w+e=2000000*k.1/\2000000*k.2.1<=1000000*my w+g/\1000000*my w+g<=2000000*k.2.2.2):False:=by
 refine tK hw hk F ⟨?_,?_,?_⟩
 ·rw[show k.2.2.1-k.1=0 by omega,show mx w-2*k.1=0 by omega,Int.zero_mul,HW]
 ·omega
 ·omega
theorem zG:¬OnU k 2000000 (1000000*mx w+e) (1000000*my w+g):=fun h=>by
 obtain⟨z,n1,n2⟩:=h;by_cases xk:k.1<k.2.2.1
 ·have:=qI hw hk F he hg xk (by omega) (by omega);have z:sL k 2000000 (1000000*mx w+e) (1000000*my w+g)=0:=by unfold sL;omega
  omega
 ·have lt:=hk.lt;have b:=hk.b;have d:=hk.d
  unfold l1 l2 la at lt;exact tV hw hk F he hg (by omega) (by omega)
theorem n9(h:spx k 2000000 (1000000*mx w+e) (1000000*my w+g)):k.1<k.2.2.1:=by
 obtain⟨h1,h2⟩:=h;by_cases xk:k.1<k.2.2.1
 ·exact xk
 ·exfalso;have lt:=hk.lt;have b:=hk.b;have d:=hk.d
  unfold l1 l2 la at lt;exact tV hw hk F he hg (by omega) (by omega)
end
theorem ip(w:Wl):sL w 2 (mx w) (my w)=0:=by unfold sL mx my;grind
theorem qE{w k:Wl}(hw:Un5 w)(hk:Un5 k)(F:Fair w k)(xw:w.1=w.2.2.1)(h1:l1 k<=l1 w)(h2:l1 w<l2 k):k.1<k.2.2.1/\sL k 2 (mx w) (my w)≠0/\(abv w k=true↔0<sL k 2 (mx w) (my w)):=by
 have lw:=hw.lt;have lk:=hk.lt;have a:=hw.a;have b:=hw.b;have c:=hw.c;have d:=hw.d
 have a':=hk.a;have b':=hk.b;have c':=hk.c;have d':=hk.d
 have ap:max (l1 w) (l1 k)<min (l2 w) (l2 k):=bE.mpr ⟨lw,h2,by omega,lk⟩;have e1:sL k 2 (mx w) (my w)=2*sd1 k w+(k.2.2.1-k.1)*(w.2.2.2-w.2.1):=by unfold sL sd1 sd crs mx my;rw[<-xw];grind
 have e2:sL k 2 (mx w) (my w)=2*sd2 k w-(k.2.2.1-k.1)*(w.2.2.2-w.2.1):=by unfold sL sd2 sd crs mx my;rw[<-xw];grind
 have s1:sd1 k w=(k.2.2.1-k.1)*(w.2.1-k.2.1)-(k.2.2.2-k.2.1)*(w.1-k.1):=by unfold sd1 sd crs;rfl
 have w2:sd2 w k=-((w.2.2.2-w.2.1)*(k.2.2.1-w.1)):=by unfold sd2 sd crs;rw[<-xw];grind
 have w1:sd1 w k=-((w.2.2.2-w.2.1)*(k.1-w.1)):=by unfold sd1 sd crs;rw[<-xw];grind
 have f2:=F.e2.nz;have f3:=F.e3.nz;have f4:=F.e4.nz;have fn:=F.ne;have dy:0<w.2.2.2-w.2.1:=by unfold l1 l2 la at lw;omega
 have nx:k.1<k.2.2.1:=by
  by_cases z:k.1<k.2.2.1
  ·exact z
  ·exfalso;have kx:k.1=k.2.2.1:=by unfold l1 l2 la at lk;omega
   have kw:k.1=w.1:=by unfold l1 la at h1;unfold l1 l2 la at h2;omega
   have z1:sd1 k w=0:=by rw[s1,show k.2.2.1-k.1=0 by omega,show w.1-k.1=0 by omega,Int.zero_mul,HW];rfl
   have z2:sd2 w k=0:=by rw[w2,show k.2.2.1-w.1=0 by omega,HW];rfl
   by_cases y:l1 k<l1 w
   ·exact f3 y h2 z1
   ·have y:l1 w=l1 k:=by omega
    rcases Gy (l2 k) (l2 w)with q|q|q
    ·exact f2 h2 q z2
    ·exact fn ⟨y,q.symm⟩
    ·have z4:sd2 k w=0:=by
      have:=e2
      rw[e1,z1,show k.2.2.1-k.1=0 by omega,Int.zero_mul]at this
      omega
     exact f4 (by omega) q z4
 have pd:=GF (show 0<k.2.2.1-k.1 by omega) dy;by_cases z:l1 k<l1 w
 ·have A:=kO ap z;by_cases s:0<sd1 k w
  ·rw[decide_eq_true s]at A;exact⟨nx,by omega,fun _=>by omega,fun _=>A⟩
  ·rw[decide_eq_false s]at A;have n:=cX hw hk F ap;rw[A]at n
   have neg:sL k 2 (mx w) (my w)<0:=by
    rcases Gy (l2 w) (l2 k)with q|q|q
    ·rw[iG hk hw F.swap (by omega) q]at n;have:=of_decide_eq_true n;omega
    ·have:=lU hk hw q.symm;omega
    ·exfalso;have kx:k.2.2.1=w.1:=by unfold l1 l2 la at h2;unfold l2 la at q;omega
     exact f2 h2 q (by rw[w2,kx,Js,HW];rfl)
   exact⟨nx,by omega,⟨(fun y=>by rw[A]at y;cases y),(fun y=>by omega)⟩⟩
 ·have y:l1 w=l1 k:=by omega
  obtain⟨p1,p2⟩:=eR hw.b hk.b (show la w.1 w.2.1=la k.1 k.2.1 from y);have A:=(f7 hw hk F y).1;have v:vc (dw w) (dw k)=-((w.2.2.2-w.2.1)*(k.2.2.1-k.1)):=by unfold vc dw crs;dsimp only;rw[<-xw];grind
  have pd':=GF dy (show 0<k.2.2.1-k.1 by omega);rw[v,decide_eq_true (by omega)]at A;have z1:sd1 k w=0:=sG hk hw y.symm;exact⟨nx,by omega,fun _=>by omega,fun _=>A⟩
section
variable{ws:List Wl}(hU:∀w∈ws,Un5 w)(hF:PF ws){d:Nat->Int}(fl:Flow ws d){j:Nat}(hj:j<ws.length){e g:Int}(he:-20<=e/\e<=20)(hg:-20<=g/\g<=20)
include hU in
theorem t6(h:j<ws.length):(0<=mx (wn ws j)/\mx (wn ws j)<=40)/\(0<=my (wn ws j)/\my (wn ws j)<=40):=by
 have W:=aF hU h;have a:=W.a;have b:=W.b;have c:=W.c;have d:=W.d
 unfold mx my;omega
include hU hF fl hj he hg
theorem yB(xw:(wn ws j).1<(wn ws j).2.2.1)(nz:((wn ws j).2.2.1-(wn ws j).1)*g-((wn ws j).2.2.2-(wn ws j).2.1)*e≠0):Vs ws d 2000000 (1000000*mx (wn ws j)+e) (1000000*my (wn ws j)+g)=Bw ws d j+(if 0<((wn ws j).2.2.1-(wn ws j).1)*g-((wn ws j).2.2.2-(wn ws j).2.1)*e then d j else 0):=by
 have W:=aF hU hj;obtain⟨m1,m2⟩:=t6 hU hj;have A:=qW hU (p:=1000000*mx (wn ws j)+e) (q:=1000000*my (wn ws j)+g) (by omega);have ms:2*(wn ws j).1<mx (wn ws j)/\mx (wn ws j)<2*(wn ws j).2.2.1:=by unfold mx;omega
 have sj:spx (wn ws j) 2000000 (1000000*mx (wn ws j)+e) (1000000*my (wn ws j)+g):=⟨by omega,by omega⟩;have sj':=(A j hj).mp sj;have lj:sL (wn ws j) 2000000 (1000000*mx (wn ws j)+e) (1000000*my (wn ws j)+g)=((wn ws j).2.2.1-(wn ws j).1)*g-((wn ws j).2.2.2-(wn ws j).2.1)*e:=by rw[nC,ip];omega
 have one:∀b:Prop,[Decidable b]->(if b then d j else 0)=sg ws.length (fun k=>if k=j/\b then d k else 0):=fun b _=>by
  by_cases h:b
  ·rw[if_pos h,aJ (h:=fun k=>if k=j then d k else 0) fun k _=>by simp[h],dE,if_pos hj]
  ·rw[if_neg h,cg fun k _=>if_neg fun z=>h z.2]
 rw[one,<-dD hU hF fl hj sj'];unfold Phi Vs;rw[<-cB];refine aJ fun k hk=>?_;show _=(if(sp (wn ws k) _&&abv (wn ws j) (wn ws k))=true then d k else 0)+_;by_cases ej:k=j
 ·subst ej;rw[bC W,Iy,if_neg (show ¬false=true by decide),Int.zero_add];by_cases q:0<((wn ws k).2.2.1-(wn ws k).1)*g-((wn ws k).2.2.2-(wn ws k).2.1)*e
  ·rw[if_pos ⟨sj,by omega⟩,if_pos ⟨rfl,q⟩]
  ·rw[if_neg fun z=>q (by have:=z.2;omega),if_neg fun z=>q z.2]
 ·rw[if_neg (show ¬(k=j/\_)from fun z=>ej z.1),Jr];have K:=aF hU hk;have F:=aL hF hj hk (fun z=>ej z.symm);by_cases s:spx (wn ws k) 2000000 (1000000*mx (wn ws j)+e) (1000000*my (wn ws j)+g)
  ·have s':=(A k hk).mp s;have nx:=n9 W K F he hg s;obtain⟨r,nz2,sg⟩:=qI W K F he hg nx (by have:=s.1;omega) (by have:=s.2;omega);have a1:=aK.mp sj';have a2:=aK.mp s';have ap:max (l1 (wn ws j)) (l1 (wn ws k))<min (l2 (wn ws j)) (l2 (wn ws k)):=bE.mpr ⟨by omega,by omega,by omega,by omega⟩;have pa:=ap;rw[Int.max_comm,Int.min_comm]at pa;have ne:=cX W K F ap;rw[s',Hw];cases z:abv (wn ws j) (wn ws k)with
   |true=>
    have:=(qN (q:=my (wn ws j)) (show(0:Int)<2 by decide) W K F ap z xw nx (by omega) (by omega) r.1 r.2).2 (by rw[ip];omega)
    rw[if_pos ⟨s,by omega⟩,if_pos rfl]
   |false=>
    rw[z]at ne
    have:=(qN (q:=my (wn ws j)) (show(0:Int)<2 by decide) K W F.swap pa ne nx xw r.1 r.2 (by omega) (by omega)).1
    rw[ip]at this
    rw[if_neg (fun y=>by omega),if_neg (by decide)]
  ·have s':sp (wn ws k) (plc (1000000*mx (wn ws j)+e) (1000000*my (wn ws j)+g))=false:=by
    cases z:sp (wn ws k) (plc (1000000*mx (wn ws j)+e) (1000000*my (wn ws j)+g))with
    |true=>exact absurd ((A k hk).mpr z) s
    |false=>rfl
   rw[if_neg fun z=>s z.1,s',Hd,if_neg (by decide)]
theorem qL(xw:(wn ws j).1=(wn ws j).2.2.1)(nz:e≠0):Vs ws d 2000000 (1000000*mx (wn ws j)+e) (1000000*my (wn ws j)+g)=Bw ws d j+(if e<0 then d j else 0):=by
 have W:=aF hU hj;have wl:=W.lt;obtain⟨m1,m2⟩:=t6 hU hj;have A:=qW hU (p:=1000000*mx (wn ws j)+e) (q:=1000000*my (wn ws j)+g) (by omega);have a:=W.a;have b:=W.b;have c:=W.c;have d':=W.d
 have em:mx (wn ws j)=2*(wn ws j).1:=by unfold mx;omega
 have ey:my (wn ws j)=(wn ws j).2.1+(wn ws j).2.2.2:=rfl;have el:l1 (wn ws j)=100*(wn ws j).1+(wn ws j).2.1:=rfl;have el2:l2 (wn ws j)=100*(wn ws j).1+(wn ws j).2.2.2:=by unfold l2 la;omega
 have sj:sp (wn ws j) (l1 (wn ws j))=true:=aK.mpr ⟨JA _,wl⟩
 have key:∀k,k<ws.length->k≠j->spx (wn ws k) 2000000 (1000000*mx (wn ws j)+e) (1000000*my (wn ws j)+g)->(wn ws k).1<(wn ws k).2.2.1/\(0<sL (wn ws k) 2000000 (1000000*mx (wn ws j)+e) (1000000*my (wn ws j)+g)↔0<sL (wn ws k) 2 (mx (wn ws j)) (my (wn ws j))):=fun k hk ne s=>by
  have K:=aF hU hk
  have F:=aL hF hj hk (fun z=>ne z.symm)
  have nx:=n9 W K F he hg s
  obtain⟨_,_,h⟩:=qI W K F he hg nx (by have:=s.1;omega) (by have:=s.2;omega)
  exact⟨nx,by omega⟩
 by_cases le:e<0
 ·have ep:plc (1000000*mx (wn ws j)+e) (1000000*my (wn ws j)+g)=100*(wn ws j).1-1:=by unfold plc;rw[em];split<;>omega
  rw[ep]at A;rw[if_pos le]
  have s1:Vs ws d 2000000 (1000000*mx (wn ws j)+e) (1000000*my (wn ws j)+g)=Phi ws d (fun k=>decide (100*(wn ws j).1<=l1 (wn ws k))||decide (0<sL (wn ws k) 2 (mx (wn ws j)) (my (wn ws j)))) (100*(wn ws j).1-1):=by
   unfold Vs Phi;refine aJ fun k hk=>?_;show _=if(sp (wn ws k) _&&(decide (100*(wn ws j).1<=l1 (wn ws k))||decide (0<sL (wn ws k) 2 (mx (wn ws j)) (my (wn ws j)))))=true then d k else 0;by_cases s:sp (wn ws k) (100*(wn ws j).1-1)=true
   ·have s':=aK.mp s;have ne:k≠j:=fun z=>by subst z;omega
    have q:=(key k hk ne ((A k hk).mpr s)).2;rw[s,Hw,decide_eq_false (show ¬100*(wn ws j).1<=l1 (wn ws k) by omega),Bool.false_or];by_cases z:0<sL (wn ws k) 2 (mx (wn ws j)) (my (wn ws j))
    ·rw[if_pos ⟨(A k hk).mpr s,q.mpr z⟩,if_pos (by simpa using z)]
    ·rw[if_neg (fun y=>z (q.mp y.2)),if_neg (by simpa using z)]
   ·rw[if_neg fun z=>s ((A k hk).mp z.1),if_neg fun z=>s (by rw[GN]at z;exact z.1)]
  have s2:=eA hU fl (q:=fun k=>decide (100*(wn ws j).1<=l1 (wn ws k))||decide (0<sL (wn ws k) 2 (mx (wn ws j)) (my (wn ws j)))) ((wn ws j).2.1.toNat+1) (100*(wn ws j).1-1) fun s h1 h2=>⟨true,fun k hk e=>by
   show(decide _||decide _)=true
   by_cases z:100*(wn ws j).1<=l1 (wn ws k)
   ·rw[decide_eq_true z];rfl
   ·rw[decide_eq_false z,Bool.false_or,decide_eq_true_eq];have K:=aF hU hk;have kb:=K.b;have kd:=K.d
    have e:l2 (wn ws k)=s:=e.resolve_left (by omega);have x2:(wn ws k).2.2.1=(wn ws j).1:=by unfold l2 la at e;omega
    have y2:(wn ws k).2.2.2<=(wn ws j).2.1:=by unfold l2 la at e;omega
    have x1:(wn ws k).1<(wn ws j).1:=by unfold l1 la at z;omega
    have ee:sL (wn ws k) 2 (mx (wn ws j)) (my (wn ws j))=((wn ws k).2.2.1-(wn ws k).1)*(my (wn ws j)-2*(wn ws k).2.2.2):=by unfold sL;rw[em,<-x2];grind
    rw[ee];exact GF (by omega) (by unfold l1 l2 la at wl;omega)⟩
  rw[show 100*(wn ws j).1-1+(((wn ws j).2.1.toNat+1:Nat):Int)=l1 (wn ws j) by omega]at s2;rw[s1,<-s2,<-dD hU hF fl hj sj];have one:d j=sg ws.length (fun k=>if k=j then d k else 0):=by rw[dE,if_pos hj]
  rw[one];unfold Phi;rw[<-cB];refine aJ fun k hk=>?_;show(if(sp (wn ws k) _&&(decide (100*(wn ws j).1<=l1 (wn ws k))||decide (0<sL (wn ws k) 2 (mx (wn ws j)) (my (wn ws j)))))=true then d k else 0)=(if(sp (wn ws k) _&&abv (wn ws j) (wn ws k))=true then d k else 0)+(if k=j then d k else 0);by_cases ej:k=j
  ·subst ej;rw[sj,bC W,decide_eq_true (show 100*(wn ws k).1<=l1 (wn ws k) by omega),if_pos (show(true&&(true||_))=true by simp),if_neg (show ¬(true&&false)=true by decide),if_pos rfl,Int.zero_add]
  ·rw[if_neg ej,Jr];cases s:sp (wn ws k) (l1 (wn ws j))with
   |false=>rw[Hd,Hd]
   |true=>
    have s':=aK.mp s
    have K:=aF hU hk
    have ka:=K.a;have kb:=K.b
    obtain⟨u1,u2,u3⟩:=qE W K (aL hF hj hk (fun z=>ej z.symm)) xw s'.1 s'.2
    rw[Hw,Hw]
    have q:(decide (100*(wn ws j).1<=l1 (wn ws k))||decide (0<sL (wn ws k) 2 (mx (wn ws j)) (my (wn ws j))))=abv (wn ws j) (wn ws k):=by
     rw[ID,u3,Bool.or_eq_true,decide_eq_true_eq,decide_eq_true_eq]
     refine⟨fun z=>z.elim (fun z=>?_) id,.inr⟩
     have x1:(wn ws k).1=(wn ws j).1:=by have:=s'.1;unfold l1 la at z this;omega
     have y1:(wn ws k).2.1<=(wn ws j).2.1:=by have:=s'.1;unfold l1 la at this;omega
     have ee:sL (wn ws k) 2 (mx (wn ws j)) (my (wn ws j))=((wn ws k).2.2.1-(wn ws k).1)*(my (wn ws j)-2*(wn ws k).2.1):=by unfold sL;rw[em,<-x1];grind
     rw[ee]
     exact GF (by omega) (by unfold l1 l2 la at wl;omega)
    rw[q]
 ·have ep:plc (1000000*mx (wn ws j)+e) (1000000*my (wn ws j)+g)=100*(wn ws j).1+99:=by unfold plc;rw[em];split<;>omega
  rw[ep]at A;rw[if_neg le,Jr,<-dD hU hF fl hj sj]
  have s1:Phi ws d (fun k=>abv (wn ws j) (wn ws k)) (l1 (wn ws j))=Phi ws d (fun k=>decide (l1 (wn ws k)<=l1 (wn ws j))&&abv (wn ws j) (wn ws k)) (l1 (wn ws j)):=by
   unfold Phi;refine aJ fun k hk=>?_;show(if(sp (wn ws k) _&&abv (wn ws j) (wn ws k))=true then d k else 0)=if(sp (wn ws k) _&&(decide (l1 (wn ws k)<=l1 (wn ws j))&&abv (wn ws j) (wn ws k)))=true then d k else 0;cases s:sp (wn ws k) (l1 (wn ws j))with
   |false=>rw[Hd,Hd]
   |true=>rw[decide_eq_true (aK.mp s).1,Hw,Hw]
  have s2:=eA hU fl (q:=fun k=>decide (l1 (wn ws k)<=l1 (wn ws j))&&abv (wn ws j) (wn ws k)) (99-(wn ws j).2.1).toNat (l1 (wn ws j)) fun s h1 h2=>⟨false,fun k hk e=>by
   show(decide _&&abv _ _)=false
   by_cases z:l1 (wn ws k)<=l1 (wn ws j)
   ·have K:=aF hU hk;have kb:=K.b;have kd:=K.d
    have e:l2 (wn ws k)=s:=e.resolve_left (by omega);by_cases ej:k=j
    ·subst ej;rw[bC W,Iy]
    ·obtain⟨u1,u2,u3⟩:=qE W K (aL hF hj hk (fun z=>ej z.symm)) xw z (by omega);have x2:(wn ws k).2.2.1=(wn ws j).1:=by unfold l2 la at e;omega
     have y2:(wn ws j).2.1<(wn ws k).2.2.2:=by unfold l2 la at e;omega
     cases q:abv (wn ws j) (wn ws k)with
     |false=>rw[Iy]
     |true=>
      exfalso
      have F:=aL hF hj hk (fun z=>ej z.symm)
      have up:=u3.mp q
      have ee:sL (wn ws k) 2 (mx (wn ws j)) (my (wn ws j))=((wn ws k).2.2.1-(wn ws k).1)*(my (wn ws j)-2*(wn ws k).2.2.2):=by unfold sL;rw[em,<-x2];grind
      rw[ee]at up
      have lo:0<my (wn ws j)-2*(wn ws k).2.2.2:=dM (show 0<(wn ws k).2.2.1-(wn ws k).1 by omega) (by rw[Int.mul_comm];exact up)
      have z2:sd2 (wn ws j) (wn ws k)=0:=by unfold sd2 sd crs;rw[x2,<-xw,Js,Int.zero_mul,HW];rfl
      exact F.e2.nz (by omega) (by unfold l2 la;unfold l2 la at el2;omega) z2
   ·rw[decide_eq_false z,Hd]⟩
  rw[show l1 (wn ws j)+((99-(wn ws j).2.1).toNat:Int)=100*(wn ws j).1+99 by omega]at s2;rw[s1,<-s2];unfold Vs Phi;refine aJ fun k hk=>?_;show _=if(sp (wn ws k) _&&(decide (l1 (wn ws k)<=l1 (wn ws j))&&abv (wn ws j) (wn ws k)))=true then d k else 0;by_cases s:sp (wn ws k) (100*(wn ws j).1+99)=true
  ·have s':=aK.mp s;have K:=aF hU hk;have ka:=K.a;have kb:=K.b;have kd:=K.d
   have ne:k≠j:=fun z=>by subst z;omega
   have F:=aL hF hj hk (fun z=>ne z.symm);obtain⟨nx,q⟩:=key k hk ne ((A k hk).mpr s);rw[s,Hw]
   have qq:0<sL (wn ws k) 2 (mx (wn ws j)) (my (wn ws j))↔(decide (l1 (wn ws k)<=l1 (wn ws j))&&abv (wn ws j) (wn ws k))=true:=by
    by_cases z:l1 (wn ws k)<=l1 (wn ws j)
    ·obtain⟨u1,u2,u3⟩:=qE W K F xw z (by omega);rw[decide_eq_true z,Hw,u3]
    ·rw[decide_eq_false z,Hd];have x1:(wn ws k).1=(wn ws j).1:=by have:=s'.1;unfold l1 la at z this;omega
     have z1:sd1 (wn ws j) (wn ws k)=0:=by unfold sd1 sd crs;rw[x1,<-xw,Js,Int.zero_mul,HW];rfl
     have y1:(wn ws j).2.2.2<=(wn ws k).2.1:=by
      by_cases y:l1 (wn ws k)<l2 (wn ws j)
      ·exact absurd z1 (F.e1.nz (by omega) y)
      ·unfold l1 la at y;omega
     have ee:sL (wn ws k) 2 (mx (wn ws j)) (my (wn ws j))=((wn ws k).2.2.1-(wn ws k).1)*(my (wn ws j)-2*(wn ws k).2.1):=by unfold sL;rw[em,<-x1];grind
     rw[ee];have:=GK (show 0<(wn ws k).2.2.1-(wn ws k).1 by omega) (show my (wn ws j)-2*(wn ws k).2.1<0 by unfold l1 l2 la at wl;omega);exact⟨fun h=>by omega,fun h=>by cases h⟩
   by_cases z:0<sL (wn ws k) 2 (mx (wn ws j)) (my (wn ws j))
   ·rw[if_pos ⟨(A k hk).mpr s,q.mpr z⟩,if_pos (qq.mp z)]
   ·rw[if_neg (fun y=>z (q.mp y.2)),if_neg (fun y=>z (qq.mpr y))]
  ·rw[if_neg fun z=>s ((A k hk).mp z.1),if_neg fun z=>s (by rw[GN]at z;exact z.1)]
end
def Bt(t b X Y:Int)(x y:Rat)(w:Wl):Bool:=(!decide (Ma.ah x y (Ma.ut t b X 1 w.1) (Ma.ut t b Y 1 w.2.1))&&decide (Ma.ah x y (Ma.ut t b X 1 w.2.2.1) (Ma.ut t b Y 1 w.2.2.2)))&&decide (Ma.sgn (Ma.cr (Ma.ut t b X 1 w.1) (Ma.ut t b Y 1 w.2.1) (Ma.ut t b X 1 w.2.2.1) (Ma.ut t b Y 1 w.2.2.2) x y)=1)
def bT(t b X Y:Int)(ws:List Wl)(x y:Rat):List Int:=((GR ws.length).filter fun j=>Bt t b X Y x y (wn ws j)).map fun j:Nat=>(j:Int)
theorem xr(t b X Y:Int)(ws:List Wl)(x y:Rat):(GR (ws.map (rwl t b X Y)).length).filterMap (fun j=>if Bt t b X Y x y (wn ws j)=true then some (rwl t b X Y (wn ws j))else none)=((bT t b X Y ws x y).map (wAt ws)).map (rwl t b X Y):=by rw[Gx];unfold bT;rw[List.map_map,List.map_map];exact jn (fun j=>Bt t b X Y x y (wn ws j)) (fun j:Nat=>rwl t b X Y (wn ws j)) _
theorem fD{t b X Y:Int}{ws:List Wl}{x y:Rat}{k:Int}:k∈bT t b X Y ws x y↔∃j:Nat,k=(j:Int)/\j<ws.length/\Bt t b X Y x y (wn ws j)=true:=by
 unfold bT;rw[Hi];constructor
 ·rintro⟨j,h,e⟩;rw[GQ,Hq]at h;exact⟨j,e.symm,h⟩
 ·rintro⟨j,e,h⟩;exact⟨j,GQ.mpr ⟨Hq.mpr h.1,h.2⟩,e.symm⟩
theorem vE(t b X Y:Int)(ws:List Wl)(x y:Rat):(bT t b X Y ws x y).Nodup:=by unfold bT List.Nodup;rw[List.pairwise_map];have h:List.Pairwise (fun x y:Nat=>x≠y) ((GR ws.length).filter fun j=>Bt t b X Y x y (wn ws j)):=Jq _ List.nodup_range;refine List.Pairwise.imp (R:=fun x y:Nat=>x≠y) ?_ h;omega
theorem EL{t b X Y:Int}(ht:0<t)(hb:0<b){ws:List Wl}(hU:∀w∈ws,Un5 w){p q:Int}(hq:-10<=q/\q<=85):bT t b X Y ws (Ma.ut t b X 1 p) (Ma.ut t b Y 1 q)=bK ws 1 p q:=by
 unfold bT bK
 congr 1
 refine List.filter_congr fun a ha=>?_;have W:=aF hU (Hq.mp ha);have hm:(0:Int)<1/\(1:Int)<=4:=by decide
 unfold Bt bB spB;rw[tI ht hb hm.1,decide_eq_decide.mpr (wK ht hb hm hq W.b),decide_eq_decide.mpr (wK ht hb hm hq W.d),<-decide_not];show(decide (¬la p q<1*l1 (wn ws a))&&decide (la p q<1*l2 (wn ws a))&&_)=(decide (1*l1 (wn ws a)<=la p q)&&decide (la p q<1*l2 (wn ws a))&&_);have e:decide (¬la p q<1*l1 (wn ws a))=decide (1*l1 (wn ws a)<=la p q):=by rw[decide_eq_decide];omega
 rw[e];rfl
theorem qP{t b X Y m:Int}(ht:0<t)(hb:0<b)(hm:0<m)(w:Wl)(p q:Int):Bt t b X Y (Ma.ut t b X m p) (Ma.ut t b Y m q) w=true↔spx w m p q/\0<sL w m p q:=by
 unfold Bt spx;have e:sd (uby m w) p q=m*sL w m p q:=by unfold sd uby sL crs;dsimp only;grind
 rw[tI ht hb hm,e,GN,GN,decide_eq_true_eq,decide_eq_true_eq,sg1,Bool.not_eq_true',decide_eq_false_iff_not,Ma.mX ht hb hm (by decide),Ma.mX ht hb hm (by decide),Ma.cF,Ma.cF,Int.one_mul,Int.one_mul];have:=Ma.sY (z:=sL w m p q) hm;rw[this]
theorem Ek{a b x y c d:Rat}(h1:¬Ma.ah x y a b)(h2:Ma.ah x y c d):Ma.ah a b c d:=by unfold Ma.ah at *;grind
theorem C1{t b X Y:Int}(ht:0<t)(hb:0<b){ws:List Wl}(hU:∀w∈ws,Un5 w)(hF:PF ws){x y:Rat}(hn:bT t b X Y ws x y≠[]):∃tt∈bT t b X Y ws x y,∀w∈(bT t b X Y ws x y).map (wAt ws),w=wAt ws tt\/(abv (wAt ws tt) w=true/\abv w (wAt ws tt)=false):=by
 obtain⟨tt,h1,h2⟩:=zo hU hF _ _ rfl hn (vE t b X Y ws x y) fun k hk=>by obtain⟨j,rfl,a,_⟩:=fD.mp hk;omega
 refine⟨tt,h1,fun w hw=>?_⟩;obtain⟨k,hk,rfl⟩:=Hi.mp hw;by_cases e:k=tt
 ·subst e;exact .inl rfl
 ·right;have n:=h2 k hk;obtain⟨i,rfl,i1,i2⟩:=fD.mp h1;obtain⟨j,rfl,j1,j2⟩:=fD.mp hk;have I:=aF hU i1;have J:=aF hU j1;have ov:∀{u v:Wl},Un5 u->Un5 v->Bt t b X Y x y u=true->Bt t b X Y x y v=true->l1 u<l2 v:=fun{u v} hu hv a c=>by unfold Bt at a c;rw[GN,GN,Bool.not_eq_true',decide_eq_false_iff_not,decide_eq_true_eq]at a c;exact(lO ht hb hu.b hv.d).mp (Ek a.1.1 c.1.2)
  have ap:max (l1 (wn ws j)) (l1 (wn ws i))<min (l2 (wn ws j)) (l2 (wn ws i)):=bE.mpr ⟨J.lt,ov J I j2 i2,ov I J i2 j2,I.lt⟩;have q:=cX J I (aL hF j1 i1 (fun z=>e (by rw[z]))) ap;have n:abv (wn ws j) (wn ws i)=false:=n;rw[n]at q;exact⟨q,n⟩
section
variable{ws:List Wl}(hU:∀w∈ws,Un5 w)(hF:PF ws)
def eo(w:Wl)(l:Bool):Int:=if l=true then -(w.2.2.2-w.2.1)else w.2.2.2-w.2.1
def go(w:Wl)(l:Bool):Int:=if l=true then w.2.2.1-w.1 else -(w.2.2.1-w.1)
def nx(w:Wl)(l:Bool):Int:=1000000*mx w+eo w l
def ny(w:Wl)(l:Bool):Int:=1000000*my w+go w l
include hU hF in
theorem uc{L:List Int}(il:cx ws L){j:Nat}(hj:j<ws.length)(l:Bool) :
 (∀k,k<ws.length->¬OnU (wn ws k) 2000000 (nx (wn ws j) l) (ny (wn ws j) l))/\((∀k,k<ws.length->¬BL ws 2000000 (nx (wn ws j) l) (ny (wn ws j) l) k)->L[2*j+(if l=true then 0 else 1)]?=some 0)/\
 ∀v,v<ws.length->BL ws 2000000 (nx (wn ws j) l) (ny (wn ws j) l) v->(∀k,k<ws.length->k≠v->BL ws 2000000 (nx (wn ws j) l) (ny (wn ws j) l) k->abv (wn ws v) (wn ws k)=true)->L[2*v]?=L[2*j+(if l=true then 0 else 1)]?:=by
 unfold nx ny
 have W:=aF hU hj
 have wl:=W.lt
 have a:=W.a;have b:=W.b;have c:=W.c;have d':=W.d
 obtain⟨m1,m2⟩:=t6 hU hj
 have he:-20<=eo (wn ws j) l/\eo (wn ws j) l<=20:=by unfold eo;split<;>omega
 have hg:-20<=go (wn ws j) l/\go (wn ws j) l<=20:=by unfold go;split<;>omega
 have sq:0<((wn ws j).2.2.1-(wn ws j).1)*((wn ws j).2.2.1-(wn ws j).1)+((wn ws j).2.2.2-(wn ws j).2.1)*((wn ws j).2.2.2-(wn ws j).2.1):=by
  by_cases z:(wn ws j).2.2.1-(wn ws j).1=0
  ·have:0<(wn ws j).2.2.2-(wn ws j).2.1:=by unfold l1 l2 la at wl;omega
   have:=GF this this
   rw[z,Int.zero_mul];omega
  ·have q:0<(wn ws j).2.2.1-(wn ws j).1:=by unfold l1 l2 la at wl;omega
   have:=GF q q
   have:0<=((wn ws j).2.2.2-(wn ws j).2.1)*((wn ws j).2.2.2-(wn ws j).2.1):=by
    rcases Int.le_total 0 ((wn ws j).2.2.2-(wn ws j).2.1)with h|h
    ·exact Je h h
    ·exact Int.mul_nonneg_of_nonpos_of_nonpos h h
   omega
 have S:((wn ws j).2.2.1-(wn ws j).1)*go (wn ws j) l-((wn ws j).2.2.2-(wn ws j).2.1)*eo (wn ws j) l=if l=true then((wn ws j).2.2.1-(wn ws j).1)*((wn ws j).2.2.1-(wn ws j).1)+((wn ws j).2.2.2-(wn ws j).2.1)*((wn ws j).2.2.2-(wn ws j).2.1)else -(((wn ws j).2.2.1-(wn ws j).1)*((wn ws j).2.2.1-(wn ws j).1)+((wn ws j).2.2.2-(wn ws j).2.1)*((wn ws j).2.2.2-(wn ws j).2.1)):=by
  unfold go eo;split<;>grind
 have V:∀d:Nat->Int,Flow ws d->Vs ws d 2000000 (1000000*mx (wn ws j)+eo (wn ws j) l) (1000000*my (wn ws j)+go (wn ws j) l)=Pf ws d (2*j+(if l=true then 0 else 1)):=fun d fl=>by
  by_cases xw:(wn ws j).1<(wn ws j).2.2.1
  ·rw[yB hU hF fl hj he hg xw (by rw[S];split<;>omega),S]
   cases l with
   |true=>rw[if_pos (show true=true from rfl),if_pos sq,if_pos (show true=true from rfl),Nat.add_zero,df]
   |false=>rw[if_neg (show ¬false=true by decide),if_neg (by omega),if_neg (show ¬false=true by decide),iU,Jr]
  ·have xw:(wn ws j).1=(wn ws j).2.2.1:=by unfold l1 l2 la at wl;omega
   have dy:0<(wn ws j).2.2.2-(wn ws j).2.1:=by unfold l1 l2 la at wl;omega
   rw[qL hU hF fl hj he hg xw (by unfold eo;split<;>omega)]
   cases l with
   |true=>rw[if_pos (show eo (wn ws j) true<0 by unfold eo;rw[if_pos rfl];omega),if_pos rfl,Nat.add_zero,df]
   |false=>rw[if_neg (show ¬eo (wn ws j) false<0 by unfold eo;rw[if_neg (by decide)];omega),if_neg (by decide),iU,Jr]
 have fl2:2*j+(if l=true then 0 else 1)<2*ws.length:=by split<;>omega
 have A:=qW hU (p:=1000000*mx (wn ws j)+eo (wn ws j) l) (q:=1000000*my (wn ws j)+go (wn ws j) l) (by omega)
 obtain⟨le,lz⟩:=land_eq hU hF il
 refine⟨fun k hk=>?_,fun z=>lz _ fl2 fun f r hf R=>?_,fun v hv h top=>le _ _ (by omega) fl2 fun f r hf R=>?_⟩
 ·by_cases e:k=j
  ·subst e
   rintro⟨z,_,_⟩
   have q:sL (wn ws k) 2000000 (1000000*mx (wn ws k)+eo (wn ws k) l) (1000000*my (wn ws k)+go (wn ws k) l)=0:=by unfold sL;omega
   rw[nC,ip,S]at q
   split at q<;>omega
  ·exact zG W (aF hU hk) (aL hF hj hk (fun z=>e z.symm)) he hg
 ·rw[<-V _ (aX hU hF hf R)]
  exact cg fun k hk=>if_neg (z k hk)
 ·rw[<-V _ (aX hU hF hf R)]
  refine(BR hU hF (aX hU hF hf R) (by decide) A (fun k hk s=>?_) hv h top).symm
  by_cases e:k=j
  ·subst e
   by_cases xw:(wn ws k).1<(wn ws k).2.2.1
   ·exact xw
   ·exfalso
    have xw:(wn ws k).1=(wn ws k).2.2.1:=by unfold l1 l2 la at wl;omega
    have ne:eo (wn ws k) l≠0:=by unfold eo;unfold l1 l2 la at wl;split<;>omega
    have em:mx (wn ws k)=2*(wn ws k).1:=by unfold mx;omega
    obtain⟨s1,s2⟩:=s
    rw[em]at s1 s2
    omega
  ·exact n9 W (aF hU hk) (aL hF hj hk (fun z=>e z.symm)) he hg s
end
def enB(w:Wl)(l s:Int):Bool:=decide (l=l1 w)||decide (l=l2 w)||decide (l<l1 w)||decide (l2 w<l)||decide (s≠0)
theorem oy{w:Wl}{l s:Int}(h:enB w l s=true):bg w l s:=by
 unfold enB at h;simp only[Bool.or_eq_true,decide_eq_true_eq]at h;unfold bg;rcases h with(((h|h)|h)|h)|h
 ·exact .inl h
 ·exact .inr (.inl h)
 ·exact .inr (.inr (.inl h))
 ·exact .inr (.inr (.inr (.inl h)))
 ·exact .inr (.inr (.inr (.inr h)))
def frB(U V:Wl):Bool:=!(decide (l1 U=l1 V)&&decide (l2 U=l2 V))&&(enB U (l1 V) (sd1 U V)&&(enB U (l2 V) (sd2 U V)&&(enB V (l1 U) (sd1 V U)&&(enB V (l2 U) (sd2 V U)&&(decide (0<=GS (sd1 U V)*GS (sd2 U V))||decide (0<=GS (sd1 V U)*GS (sd2 V U)))))))
theorem BF{U V:Wl}(h:frB U V=true):Fair U V:=by unfold frB at h;simp only[GN,Bool.or_eq_true,Bool.not_eq_true',decide_eq_true_eq]at h;obtain⟨a,b,c,d,e,f⟩:=h;refine⟨fun z=>?_,oy b,oy c,oy d,oy e,f⟩;rw[decide_eq_true z.1,decide_eq_true z.2]at a;cases a
def alB:List Wl->Bool
 |[]=>true
 |w::l=>l.all (frB w)&&alB l
theorem yf:∀{l:List Wl},alB l=true->l.Pairwise Fair
 |[],_=>List.Pairwise.nil
 |w::l,h=>by
  rw[alB,GN]at h
  exact List.Pairwise.cons (fun v hv=>BF (Hs.mp h.1 v hv)) (yf h.2)
def unB(w:Wl):Bool:=decide ((0<=w.1/\w.1<=20)/\(0<=w.2.1/\w.2.1<=20)/\(0<=w.2.2.1/\w.2.2.1<=20)/\(0<=w.2.2.2/\w.2.2.2<=20)/\l1 w<l2 w)
theorem Bf{w:Wl}(h:unB w=true):Un5 w:=by unfold unB at h;obtain⟨a,b,c,d,e⟩:=of_decide_eq_true h;exact⟨a,b,c,d,e⟩
theorem zE{ws:List Wl}(h:ws.Pairwise Fair):PF ws:=fun i j U V ne hi hj=>by
 obtain⟨i1,i2⟩:=Gz.mp hi;obtain⟨j1,j2⟩:=Gz.mp hj;have P:=IE.mp h;rcases Nat.lt_or_gt_of_ne ne with z|z
 ·rw[<-i2,<-j2];exact P i j i1 j1 z
 ·rw[<-i2,<-j2];exact(P j i j1 i1 z).swap
def bxy(x y w:Int):List Wl:=[(x,y,x+w,y),(x+w,y,x+w,y+w),(x,y+w,x+w,y+w),(x,y,x,y+w)]
def nE:List (List Wl×Int):=[(bxy 0 0 12,1),(bxy 0 0 12,2),(bxy 0 0 12++bxy 1 1 10,2),(bxy 0 0 12++bxy 1 1 10,3),(bxy 0 0 12++bxy 2 2 8,3),(bxy 0 0 12++bxy 2 2 8,4)]
def mxl(us:List Wl)(a t1 t2 t3:Int):List Wl:=us++(bxy (a+t1) (a+t2) (1+t3)++([(9,8,9,9)]++([(a,8,a+1,8),(a,9,a+1,9)]++bxy 12 12 2)))
theorem y9:(nE.all fun g=>[0,1].all fun t1=>[0,1].all fun t2=>[0,1].all fun t3=>alB (mxl g.1 g.2 t1 t2 t3)&&(mxl g.1 g.2 t1 t2 t3).all unB)=true:=by decide +kernel
theorem BA{us:List Wl}{a t1 t2 t3:Int}(g:(us,a)∈nE)(h1:0<=t1/\t1<2)(h2:0<=t2/\t2<2)(h3:0<=t3/\t3<2):(mxl us a t1 t2 t3).Pairwise Fair/\∀w∈mxl us a t1 t2 t3,Un5 w:=by
 have m:∀{t:Int},(0<=t/\t<2)->t∈([0,1]:List Int):=fun{t} h=>by rcases(show t=0\/t=1 by omega)with rfl|rfl<;>simp
 have:=Hs.mp (Hs.mp (Hs.mp (Hs.mp y9 _ g) _ (m h1)) _ (m h2)) _ (m h3);rw[GN]at this;exact⟨yf this.1,fun w hw=>Bf (Hs.mp this.2 w hw)⟩
theorem BZ{us vs ws:List Wl}{a t1 t2 t3:Int}(g:(us,a)∈nE)(h1:0<=t1/\t1<2)(h2:0<=t2/\t2<2)(h3:0<=t3/\t3<2)(s:vs.Sublist (mxl us a t1 t2 t3))(p:ws.Perm vs):PF ws/\(∀w∈ws,Un5 w)/\ws.length<=19:=by
 obtain⟨A,B⟩:=BA g h1 h2 h3;refine⟨zE ((p.pairwise_iff (fun{x y} h=>Fair.swap h)).mpr (A.sublist s)),fun w hw=>B w (s.subset (p.mem_iff.mp hw)),?_⟩;rw[p.length_eq];refine HF s.length_le ?_
 have gl:us.length<=8:=by
  have:(nE.all fun g=>decide (g.1.length<=8))=true:=by decide +kernel
  exact of_decide_eq_true (Hs.mp this _ g)
 unfold mxl;simp only[Ir];show us.length+(4+(1+(2+4)))<=19;omega
theorem wm{t b x m p:Int}(ht:0<t/\t<=10^24)(hb:0<b/\b<=10^26)(hx:-(10^30)<=x/\x<=10^30)(hm:0<m/\m<=10^9)(hp:-(10^9)<=p/\p<=10^9):Ma.Bq 200 (Ma.ut t b x m p):=by
 have bt:Bd 84 t:=by show t.natAbs<2^84;omega
 have bb:Bd 100 b:=by show b.natAbs<2^100;omega
 have bx:Bd 110 x:=by show x.natAbs<2^110;omega
 have bm:Bd 40 m:=by show m.natAbs<2^40;omega
 have bp:Bd 40 p:=by show p.natAbs<2^40;omega
 have e1:Bd 150 (p*t):=(bp.mul bt).mono (by decide);have e2:Bd 150 (x*m):=(bx.mul bm).mono (by decide);unfold Ma.ut;exact Ma.Bq.divInt (by have:=GF hb.1 hm.1;omega) ((e1.add e2).mono (by decide)) ((bb.mul bm).mono (by decide))
theorem Scl.bx9{t b x y m p:Int}(S:Scl t b x y)(hm:0<m/\m<=10^9)(hp:-(10^9)<=p/\p<=10^9):Ma.Bq 200 (Ma.ut t b x m p)/\Ma.Bq 200 (Ma.ut t b y m p):=⟨wm ⟨S.t0,S.t1⟩ ⟨S.b0,S.b1⟩ ⟨S.x0,S.x1⟩ hm hp,wm ⟨S.t0,S.t1⟩ ⟨S.b0,S.b1⟩ ⟨S.y0,S.y1⟩ hm hp⟩
inductive LookR(t b X Y:Int)(ws:List Wl)(L:List Int):D->D->Prop
 |wall (i:Nat) (w:Wl) (h:ws[i]?=some w):LookR t b X Y ws L (Ma.spt (Ma.ut t b X 2000000 (1000000*mx w)) (Ma.ut t b Y 2000000 (1000000*my w))) (.tup [.str "wall",.int (i:Int)])
 |land (p q v:Int) (bp:-(10^9)<=p/\p<=10^9) (bq:-(10^9)<=q/\q<=10^9) (off:∀k,k<ws.length->¬OnU (wn ws k) 2000000 p q) (z:(∀k,k<ws.length->¬BL ws 2000000 p q k)->v=0)
  (tp:∀u,u<ws.length->BL ws 2000000 p q u->(∀k,k<ws.length->k≠u->BL ws 2000000 p q k->abv (wn ws u) (wn ws k)=true)->L[2*u]?=some v):LookR t b X Y ws L (Ma.spt (Ma.ut t b X 2000000 p) (Ma.ut t b Y 2000000 q)) (.tup [.str "land",.int v])
theorem yQ:PyData.strOk (Ie "land")=true:=by decide +kernel
theorem mH{ws:List Wl}(hU:∀w∈ws,Un5 w)(hF:PF ws){L:List Int}(il:cx ws L){j:Nat}(hj:j<ws.length)(l:Bool){v:Int}(e:L[2*j+(if l=true then 0 else 1)]?=some v)(t b X Y:Int):LookR t b X Y ws L (Ma.spt (Ma.ut t b X 2000000 (nx (wn ws j) l)) (Ma.ut t b Y 2000000 (ny (wn ws j) l))) (.tup [.str "land",.int v]):=by
 obtain⟨h1,h2,h3⟩:=uc hU hF il hj l;have W:=aF hU hj;have a:=W.a;have b':=W.b;have c:=W.c;have d':=W.d
 obtain⟨m1,m2⟩:=t6 hU hj;have he:-20<=eo (wn ws j) l/\eo (wn ws j) l<=20:=by unfold eo;split<;>omega
 have hg:-20<=go (wn ws j) l/\go (wn ws j) l<=20:=by unfold go;split<;>omega
 refine .land _ _ v (by unfold nx;omega) (by unfold ny;omega) h1 (fun z=>?_) fun u hu s top=>?_
 ·have:=h2 z;rw[e]at this;exact Option.some.inj this
 ·rw[h3 u hu s top,e]
def du3(v1 s v2:Int):List D:=[.tup [.str "land",.int v1],.tup [.str "wall",.int s],.tup [.str "land",.int v2]]
theorem Bz{M:MH}{p q:Addr}{v1 s v2:Int}{Q:DK}(hp:M p=some (.lst (du3 v1 s v2)))(hq:M q=some (.lst (du3 v1 s v2)))(k:Q (.bl false) M):CP (.ref p) (.ref q) M Q:=by
 have sh:IZ (.list [.tuple [.str "land",.int v1],.tuple [.str "wall",.int s],.tuple [.str "land",.int v2]])=true:=by simp[IZ,PyData.canLay0,Jp,yQ,zZ,PyData.depth,PyData.depthAll]
 have pd:Pds M (du3 v1 s v2) [.tuple [.str "land",.int v1],.tuple [.str "wall",.int s],.tuple [.str "land",.int v2]]:=.cons (Pd.of rfl) (.cons (Pd.of rfl) (.cons (Pd.of rfl) .nil));refine⟨_,_,.lst hp pd,.lst hq pd,sh,sh,?_⟩;have e:Hu (.list [.tuple [.str "land",.int v1],.tuple [.str "wall",.int s],.tuple [.str "land",.int v2]]) (.list [.tuple [.str "land",.int v1],.tuple [.str "wall",.int s],.tuple [.str "land",.int v2]])=true:=by simp[Hu,HX]
 rw[e];exact k
theorem je{t b X Y m p q p' q':Int}{ws:List Wl}{L:List Int}{d:D}(h:LookR t b X Y ws L (Ma.spt (Ma.ut t b X 2000000 p') (Ma.ut t b Y 2000000 q')) d)(hm:m=2000000)(hp:p=p')(hq:q=q'):LookR t b X Y ws L (Ma.spt (Ma.ut t b X m p) (Ma.ut t b Y m q)) d:=by subst hm hp hq;exact h
theorem sM{t b X Y:Int}{M:MH}{z:Addr}{ps:List Vc}{x y:Rat}{Q:DK}(hz:M z=some (.lst (ps.map (gsp t b X Y))))(no:∀u∈ps,¬(Ma.ut t b X 1 u.1=x/\Ma.ut t b Y 1 u.2=y))(k:Q (.bl false) M):zS (fun b=>b) (Ma.spt x y) (.ref z) M Q:=by
 refine⟨.tuple [.tuple [.int x.num,.int (x.den:Int)],.tuple [.int y.num,.int (y.den:Int)]],ps.map (gP t b X Y),Pd.of rfl,.inl (.lst hz (tM t b X Y ps)),rfl,sf t b X Y ps,?_⟩
 have e:((ps.map (gP t b X Y)).any fun q=>Hu q (.tuple [.tuple [.int x.num,.int (x.den:Int)],.tuple [.int y.num,.int (y.den:Int)]]))=false:=by
  rw[List.any_map,List.any_eq_false]
  intro u hu hq
  have hq:Hu (.tuple [.tuple [.int (Ma.ut t b X 1 u.1).num,.int ((Ma.ut t b X 1 u.1).den:Int)],.tuple [.int (Ma.ut t b Y 1 u.2).num,.int ((Ma.ut t b Y 1 u.2).den:Int)]]) (.tuple [.tuple [.int x.num,.int (x.den:Int)],.tuple [.int y.num,.int (y.den:Int)]])=true:=hq
  rw[Ma.iD,decide_eq_true_eq]at hq
  exact no u hu hq
 rw[e];exact k
def bsp(x y w:Int):List D:=[.tup [.int x,.int y],.tup [.int (x+w),.int y],.tup [.int (x+w),.int (y+w)],.tup [.int x,.int (y+w)]]
section
variable{prog:GL}{w:Hk}{A:Hr}{E:G0->G6->Prop}{s:G6}
theorem qt{it t:Addr}{i:Nat}{items}{x:G0}{Q:G0->G6->Prop}(hit:s.heap.IsTupleIter it t i)(ht:s.heap.IsTuple t items)(hx:items[i]?=some x)
 (hQ:∀h',h'.IsTupleIter it t (i+1)->IJ it s.heap h'->Q x { s with heap:=h' }):Gw (GG prog w) A (Builtin.SmallTypes.nextOf (.ref it)) Q E s:=by
 obtain⟨o,ho,hc,hd⟩:=id hit
 obtain⟨ol,hol,_,nl,hdl⟩:=ht
 unfold Builtin.SmallTypes.nextOf
 refine cc (IS (name:=Ie "__next__") hit.typeIs Jf (J7 Jf hit.typeIs F.entry_tuple_iterator_next ?_ (F.args_tuple_iterator_next_1 _)))
 show Gw _ _ (field (.ref it) 0 >>= _) _ _ s
 refine cc (wpAny_field ho hd (x:=.ref t) rfl ?_)
 show Gw _ _ (if(HS t==Iv)=true then _ else _) _ _ s
 rw[if_neg (show ¬((HS t==Iv)=true)from GA)]
 show Gw _ _ (field (.ref it) 1 >>= _) _ _ s
 refine cc (wpAny_field ho hd (x:=.int i 0) rfl ?_)
 show Gw _ _ (seqItems? (.ref t) >>= _) _ _ s
 refine cc (Iw hol hdl ?_)
 simp only[HQ,hx]
 refine cc (wpAny_setField ho hd (by simp) (G7 ⟨x,rfl,G7 (hQ _ ?_ (IA ..))⟩))
 exact⟨_,HZ _ ho (Obj.isFreed_of_fields (Obj.data_mapFields hd _)),(Obj.cls_mapFields ..).trans hc,by
  rw[Obj.data_mapFields hd];simp[rawInt]⟩
theorem uF{it t:Addr}{i:Nat}{items}{Q:G0->G6->Prop}(hh:A.handled=none)(hit:s.heap.IsTupleIter it t i)(ht:s.heap.IsTuple t items)(hx:items[i]?=none)
 (hE:∀h' e,Heap.ExtBut it s.heap h'->(∃o,h'.get? e=some o/\o.cls=.type "StopIteration")->E (.ref e) { s with heap:=h' }):Gw (GG prog w) A (Builtin.SmallTypes.nextOf (.ref it)) Q E s:=by
 obtain⟨o,ho,hc,hd⟩:=id hit
 obtain⟨ol,hol,_,nl,hdl⟩:=ht
 unfold Builtin.SmallTypes.nextOf
 refine cc (IS (name:=Ie "__next__") hit.typeIs Jf (J7 Jf hit.typeIs F.entry_tuple_iterator_next ?_ (F.args_tuple_iterator_next_1 _)))
 show Gw _ _ (field (.ref it) 0 >>= _) _ _ s
 refine cc (wpAny_field ho hd (x:=.ref t) rfl ?_)
 show Gw _ _ (if(HS t==Iv)=true then _ else _) _ _ s
 rw[if_neg (show ¬((HS t==Iv)=true)from GA)]
 show Gw _ _ (field (.ref it) 1 >>= _) _ _ s
 refine cc (wpAny_field ho hd (x:=.int i 0) rfl ?_)
 show Gw _ _ (seqItems? (.ref t) >>= _) _ _ s
 refine cc (Iw hol hdl ?_)
 simp only[HQ,hx]
 refine cc (wpAny_rule (cc (wpAny_setField ho hd (by simp) ?_)))
 show Gw _ _ (newExc (.type "StopIteration") [] >>= _) _ _ _
 refine cc ?_
 simp only[newExc,newTuple]
 refine cc (Hg ?_ (by size_fits))
 refine cc (m:=firstArgMember _ _) (wpAny_of_eq (a:=Iv) (by first|rfl|(simp only[firstArgMember];rfl)) ?_)
 refine Hg ?_ (by size_fits)
 simp only[raiseNew]
 refine cc (wpAny_handled ?_)
 first|rw[show A.in1.handled=none from hh]|rw[hh]
 refine cc (G7 (wpAny_throw ?_))
 exact hE _ _ (((IA ..).extBut.push _).push _) ⟨_,Gv _ rfl,rfl⟩
theorem xu(hh:A.handled=none)(it t:Addr)(hne:t≠it)(items:Array G0):Draws prog w A it [it,t] items.size (fun i v=>items[i]?=some v) (fun i h=>h.IsTupleIter it t i/\h.IsTuple t items) where
 live:=fun _ _ st=>let⟨o,ho,_⟩:=st.1;⟨o,ho⟩
 frame:=fun _ _ _ st hk=>by
  obtain⟨⟨o,ho,r⟩,⟨o',ho',r'⟩⟩:=st
  exact⟨⟨o,hk it (by simp) o ho,r⟩,⟨o',hk t (by simp) o' ho',r'⟩⟩
 item:=fun i s Q E hi st hQ=>by
  refine qt st.1 st.2 (x:=items[i]) (by simp[hi]) fun h' hit' hs'=>?_
  exact hQ _ h' s.toks (by simp[hi]) ⟨hit',st.2.extBut hs'.extBut hne⟩ hs'
 done:=fun s Q E st hE=>uF hh st.1 st.2 (by simp) hE
theorem uJ(l:Addr)(items:Array G0)(n:Nat)(dct:Option Addr)(sl:Array (Option G0)) :
 Meets (JG.«enumerate.__new__» ⟨[.type "enumerate",.ref l],[]⟩) (fun _ R s=>s.heap.get? l=some { cls:=.type "tuple",dict:=dct,data:=.seq items n,slots:=sl }/\
  R (.ok (.ret (.ref (s.heap.push { cls:=.type "tuple_iterator",data:=.fields #[.ref l,.int 0 0] }).objs.size)))
    { s with heap:=(s.heap.push { cls:=.type "tuple_iterator",data:=.fields #[.ref l,.int 0 0] }).push { cls:=.type "enumerate",data:=.fields #[.none,.bool false,.ref s.heap.objs.size,rawInt 0,.none,.none] } }):=
 .of_wp fun prog w A R s h=>by
  obtain⟨hp,g,d,tk,os⟩:=s;obtain⟨hl,h⟩:=h
  have hsub:=sub_enumerate
  have hL:Heap.IsTuple (Shared.heap ⟨hp,g,d,tk,os⟩) l items:=⟨_,hl,rfl,n,rfl⟩
  wp_walk using Hx hl
  refine wpAny_stack_any fun st=>G7 ?_
  split
  ·rename_i c _ _ _ _ _
   cases (c==JC "enumerate")
   ·wp_walk using Hx hl,Jc hL
    exact⟨_,rfl,h⟩
   ·wp_walk using Hx hl,Jc hL
    exact⟨_,rfl,h⟩
  ·wp_walk using Hx hl,Jc hL
   exact⟨_,rfl,h⟩
theorem qG{l:Addr}{items:Array G0}{Q:G0->G6->Prop}(hL:s.heap.IsTuple l items)
 (h:∀h',IsEnum h' (s.heap.objs.size+1) s.heap.objs.size 0 .none->h'.IsTupleIter s.heap.objs.size l 0->(∀b o,s.heap.get? b=some o->h'.get? b=some o)->Q (.ref (s.heap.objs.size+1)) { s with heap:=h' }) :
 Gw (GG prog w) A (call (.type "enumerate") [.ref l]) Q E s:=by
 obtain⟨⟨c,dct,dt,sl⟩,hl,hc,n,hd⟩:=hL
 replace hc:c=.type "tuple":=hc
 replace hd:dt=.seq items n:=hd
 subst hc hd
 refine callType_new F.called_enumerate (by decide) (F.typeCall_enumerate_1 _) (F.newCall_enumerate_1 _) (fun obj=>F.args_object_init_2 obj _) F.entry_enumerate_new (uJ l items n dct sl) ⟨hl,?_⟩
 have hz:(s.heap.push { cls:=.type "tuple_iterator",data:=.fields #[.ref l,.int 0 0] }).objs.size=s.heap.objs.size+1:=I0 ..
 show _/\_
 rw[hz]
 have he:IsEnum ((s.heap.push { cls:=.type "tuple_iterator",data:=.fields #[.ref l,.int 0 0] }).push { cls:=.type "enumerate",data:=.fields #[.none,.bool false,.ref s.heap.objs.size,rawInt 0,.none,.none] }) (s.heap.objs.size+1) s.heap.objs.size 0 .none:=by
  have:=Gv (s.heap.push { cls:=.type "tuple_iterator",data:=.fields #[.ref l,.int 0 0] }) (o:={ cls:=.type "enumerate",data:=.fields #[.none,.bool false,.ref s.heap.objs.size,rawInt 0,.none,.none] }) rfl
  rw[hz]at this;exact this
 exact⟨⟨_,he,rfl⟩,h _ he ⟨_,G9 _ (Gv _ rfl),rfl,rfl⟩ fun b o x=>G9 _ (G9 _ x)⟩
end
def Fs(K:G5)(a:Addr):It:=
 ⟨fun i H=>∃xs x,SqT K H a xs/\xs[i]?=some x,fun i H x H'=>∃T y,x=.ref T/\H T=none/\H'=upd H T (.tup [.int (i:Int),y])/\∀xs,SqT K H a xs->xs[i]?=some y,fun i H=>∃xs,SqT K H a xs/\xs.length=i⟩
theorem rZ{P:GL}{w:Hk}{K:G5}{elts:List Expr}{kt}{pt:Pos}(a e it:Addr)(hei:e≠it):Turn P w K (.Tuple elts kt pt) (Fs K a) [e,it] e (fun i h=>(∃old,IsEnum h e it (i:Int) old)/\h.IsTupleIter it a i) where
 mem:=by simp
 obj:=fun i h st b hb=>by
  rcases(show b=e\/b=it by simpa using hb)with rfl|rfl
  ·obtain⟨⟨old,q⟩,_⟩:=st
   exact⟨_,q,fun v z=>by
    have z':Data.fields _=Data.cell v:=z
    cases z'⟩
  ·obtain⟨o,q,c,d⟩:=st.2
   exact⟨o,q,fun v z=>by rw[d]at z;cases z⟩
 keep:=fun i h h' st k=>by
  obtain⟨⟨old,q⟩,⟨o,ho,r⟩⟩:=st
  exact⟨⟨old,k e (by simp) _ q⟩,⟨o,k it (by simp) o ho,r⟩⟩
 item:=by
  intro X hP hw hK hc i pins s σ H E I hf st hg
  subst hP hw hK
  obtain⟨xs,x,hq,hx⟩:=hg
  obtain⟨its,rv,p,hz⟩:=I.tuple hq
  obtain⟨u,hu,ru⟩:=rv.get hx
  obtain⟨⟨old,he⟩,hit⟩:=st
  have p:s.heap.IsTuple a its.toArray:=p
  have le:e<s.heap.objs.size:=GC he
  have li:it<s.heap.objs.size:=by obtain⟨o,q,_⟩:=hit;exact GC q
  have hal:a≠it:=fun z=>by
   subst z
   obtain⟨o1,z1,z2,_⟩:=hit
   obtain⟨o2,y1,y2,_⟩:=p
   rw[z1]at y1;cases y1
   rw[z2]at y2;exact absurd (JC.inj y2) (by decide)
  have hea:e≠a:=fun z=>by
   subst z
   obtain⟨o2,y1,y2,_⟩:=p
   rw[show s.heap.get? e=_ from he]at y1;cases y1
   exact absurd (JC.inj y2) (by decide)
  have hhd:X.A.in1.handled=none:=I.ok.hd hc
  have hil:i<its.length:=(Gz.mp hu).1
  refine wpAny_pyNext_enum_itemD (xu hhd it a hal its.toArray) he ⟨hit,p⟩ (by simp;omega) hei (by simp[hei,hea]) fun x0 h1 tk hx0 ho hit0 hT hsz hk=>?_
  obtain rfl:u=x0:=by
   have hx0:its[i]?=some x0:=by simpa using hx0
   rw[hu]at hx0;cases hx0;rfl
  refine⟨_,rfl,wpAny_letOwnedTupleGo_enum (s:={ s with heap:=h1,toks:=tk+1 }) ho fun h2 he2 hs2=>?_⟩
  have hs2:IJ e h1 h2:=hs2
  have fr:=I.fresh
  have I1:Inv X pins σ (upd H s.heap.objs.size (.tup [.int (i:Int),x])) { s with heap:=s.heap.push { cls:=.type "tuple",data:=.seq #[.int (i:Int) tk,u] },toks:=s.toks }:=
   I.laid (fun b v q=>G9 _ q) (Gq _) ⟨nbL rfl,[.int (i:Int) tk,u],.cons ⟨_,rfl⟩ (.cons ru .nil),⟨_,Gv _ rfl,rfl,_,rfl⟩,⟨_,Gv _ rfl,rfl⟩⟩
  have fk:∀{b:Addr},b<s.heap.objs.size->cC X pins H b->cC X pins (upd H s.heap.objs.size (.tup [.int (i:Int),x])) b:=fun{b} lt f=>⟨by rw[aS (Hh lt)];exact f.1,f.2⟩
  have fe:=fk le (hf e (by simp))
  have fi:=fk li (hf it (by simp))
  have I2:Inv X pins σ (upd H s.heap.objs.size (.tup [.int (i:Int),x])) { s with heap:=h2,toks:=tk+1 }:=by
   refine j9 (s:={ s with heap:=s.heap.push { cls:=.type "tuple",data:=.seq #[.int (i:Int) tk,u] },toks:=s.toks }) I1 (fun b o ne ni q=>?_) fe fi
   have q:(s.heap.push { cls:=.type "tuple",data:=.seq #[.int (i:Int) tk,u] }).get? b=some o:=q
   refine(hs2.2 b ne).trans ?_
   rcases Heap.get?_push_cases q with⟨rfl,rfl⟩|q
   ·exact hT
   ·exact hk b o ne ni q
  obtain⟨⟨oi,z1,z2⟩,_⟩:=hit0
  refine⟨.ref s.heap.objs.size,_,I2,rfl,⟨_,x,rfl,fr,rfl,fun ys hy=>by rw[I.m4 hy hq];exact hx⟩,⟨⟨u,?_⟩,⟨oi,(hs2.2 it hei.symm).trans z1,z2⟩⟩,fun b hb=>?_⟩
  ·have:(((i+1:Nat):Int))=(i:Int)+1:=by omega
   rw[this];exact he2
  ·rcases(show b=e\/b=it by simpa using hb)with rfl|rfl
   ·exact fe.1
   ·exact fi.1
 done:=by
  intro X hP hw hK hc i pins s σ H E I hf st hg
  subst hP hw hK
  obtain⟨xs,hq,hx⟩:=hg
  obtain⟨its,rv,p,hz⟩:=I.tuple hq
  have p:s.heap.IsTuple a its.toArray:=p
  obtain⟨⟨old,he⟩,hit⟩:=st
  obtain⟨f0,f1,f2,f3,f4,f5⟩:=hf it (by simp)
  have hl:=rv.length
  have hal:a≠it:=fun z=>by
   subst z
   obtain⟨o1,z1,z2,_⟩:=hit
   obtain⟨o2,y1,y2,_⟩:=p
   rw[z1]at y1;cases y1
   rw[z2]at y2;exact absurd (JC.inj y2) (by decide)
  have hhd:X.A.in1.handled=none:=I.ok.hd hc
  have ei:its.toArray.size=i:=by simp;omega
  exact wpAny_pyNext_enum_endD (xu hhd it a hal its.toArray) he ⟨by rw[ei];exact hit,p⟩ fun h' eb=>⟨rfl,I.turned (t':=s.toks) (fun b o hb q=>eb b o hb q) f0 f1 f3 f4 f5⟩
 self:=fun _ _ _ _ _ st h=>let⟨⟨_,he⟩,_⟩:=st;wpAny_pyIter_enum he h
section
variable{X:Cx}{elts:List Expr}{kt:Nat}{pt:Pos}
def Bk(K:G5)(ta:TA):TI:=fun σ H R=>ta σ H fun vs H1=>∃a xs,vs=[.ref a]/\SqT K H1 a xs/\R (Fs K a) H1
theorem xG{a:Expr}{ta:TA}{p pos:Pos}(hg:Gl X "enumerate")(hm:X.mg "enumerate"=none)(ha:PA X [a] ta)(hs:GH [a] X.env=[(false,eval a X.env)]:=by rfl):PI X (.Tuple elts kt pt) (.Call (.Name "enumerate" p) [a] [] pos) (Bk X.K ta):=by
 intro pins s σ H R I h;refine Call_ (jc I hg hm g8 (IY (thn (ha pos pins s σ H _ I h) fun us s1 zz1_0=>?_) hs rfl));obtain⟨vs,H1,I1,r1,q1⟩:=zz1_0;obtain⟨l,xs,ev,hH,q⟩:=q1;subst ev;obtain⟨u,rfl,ru⟩:=r1.one;cases ru;obtain⟨its,rv,pt,hz⟩:=I1.tuple hH;refine qG (show s1.heap.IsTuple l its.toArray from pt) fun h' he hit hk=>wpAny_pyIter_enum he ?_
 have fp:∀b∈[s1.heap.objs.size+1,s1.heap.objs.size],cC X pins H1 b:=fun b hb=>by
  have hb':s1.heap.objs.size<=b:=by
   rcases(show b=s1.heap.objs.size+1\/b=s1.heap.objs.size by simpa using hb)with rfl|rfl
   ·exact Nat.le_succ _
   ·exact Gq _
  exact I1.oY hb' (I1.hok.fresh hb')
 exact⟨_,[s1.heap.objs.size+1,s1.heap.objs.size],_,_,H1,rfl,I1.kept (t':=s1.toks) hk,rZ l _ _ (Nat.succ_ne_self _),⟨⟨_,he⟩,hit⟩,fp,q⟩
def CL(ta:TAD):TID:=fun δ M R=>ta δ M fun ds M1=>∃es,ds=[.tup es]/\R ⟨es.length,fun i=>(es[i]?).map fun d=>.tup [.int (i:Int),d],fun _=>True⟩ M1
theorem vY{a:Expr}{ta:TAD}{p pos:Pos}(hg:Gl X "enumerate")(hm:X.mg "enumerate"=none)(ha:DA X [a] ta)(hs:GH [a] X.env=[(false,eval a X.env)]:=by rfl):DI X (.Tuple elts kt pt) (.Call (.Name "enumerate" p) [a] [] pos) (CL ta):=
 nO (xG hg hm ha hs) fun σ H R ⟨δ,M,RD,hs,hM,q,fin⟩=>⟨δ,M,_,hs,hM,q,fun ds M1 vs H1 g1 r1 a1 z9=>by
  obtain⟨es,e,q1⟩:=z9
  subst e
  obtain⟨v,rfl,r⟩:=cJ r1
  rw[Rep]at r
  obtain⟨l,xs,rfl,hx,rs⟩:=r
  refine⟨l,xs,rfl,hx,fin _ M1 H1 _ g1 a1 q1 ⟨fun H2 M2 g2 a2 c2=>⟨xs,g2.t _ _ hx,rs.length.symm⟩,fun i H2 M2 hi g2 a2 c2=>?_,?_⟩⟩
  ·have hi':i<xs.length:=by rw[<-rs.length];exact hi
   exact⟨xs,xs[i],g2.t _ _ hx,by simp[hi']⟩
  ·rintro i H2 M2 v H3 hi g2 a2 c2 ⟨T,y,rfl,hT,rfl,hy⟩
   have hi:i<es.length:=hi
   obtain⟨x,e1,e2⟩:=(rs.mono g2).get (show es[i]?=some es[i] by simp[hi])
   have:=hy xs (g2.t _ _ hx)
   rw[e1]at this;cases this
   exact⟨.new hT,a2.new hT,.tup [.int (i:Int),es[i]],by simp[hi],by rw[Rep];exact⟨T,_,rfl,SqT.of aW,.cons (by rw[Rep]) (.cons (e2.mono (.new hT)) .nil)⟩⟩⟩
end
section
variable{P:GL}{w:Hk}{K:G5}{mg:Str->Option G0}{base:Heap}{x:Str}{st:Stmt}{N:List Str}{k:Nat}
def sD1(C:D->MH->DK->Prop):SpD:=fun ds M Q=>match ds with
 |[a]=>C a M Q
 |_=>False
theorem fm{p:Str}{C:D->MH->DK->Prop}(T:Txt K mg x st)(S:FnScope N [p] (aq st))
 (body:∀(f:Addr) (cdv:G0) (A:Hr) (outer:List Env) (s:G6) (H:Hp) (E:XK),Room k (A.deeper (envOfC x (aq st) s.heap.objs.size f cdv))->
  ∃t,DSs (i8 CX0 P w K mg base N x (aq st) f cdv A outer s H E).nox (aY st) t/\∀a M Q,C a M Q->t { nx:=fun _ M'=>Ret Q .non M',rt:=Ret Q } (fK N [a]) M)
 (hb:∀(kV doc pm:G0) (an:Option Addr) (cdv ct a:G0),bindArgs (Il x x (ck st) (aY st) (aq st) .none kV doc pm an cdv ct) ⟨[a],[]⟩=pure ([p].zip [a]):=by intros;rfl):Cal P w K mg base (k+1) x (sD1 C):=by
 refine Ae T S (fun kV doc pm an cdv ct us hl=>?_) (fun ds M Q h=>?_) fun f cdv A outer s H E hr=>?_
 ·match us,hl with
  |[_],_=>exact hb ..
 ·unfold sD1 at h
  split at h
  ·rfl
  ·exact h.elim
 ·obtain⟨t,h,hq⟩:=body f cdv A outer s H E hr
  refine⟨t,h,fun ds M Q h=>?_⟩
  unfold sD1 at h
  split at h
  ·exact hq _ _ _ h
  ·exact h.elim
def sD2(C:D->D->MH->DK->Prop):SpD:=fun ds M Q=>match ds with
 |[a,b]=>C a b M Q
 |_=>False
theorem bw{p q:Str}{C:D->D->MH->DK->Prop}(T:Txt K mg x st)(S:FnScope N [p,q] (aq st))
 (body:∀(f:Addr) (cdv:G0) (A:Hr) (outer:List Env) (s:G6) (H:Hp) (E:XK),Room k (A.deeper (envOfC x (aq st) s.heap.objs.size f cdv))->
  ∃t,DSs (i8 CX0 P w K mg base N x (aq st) f cdv A outer s H E).nox (aY st) t/\∀a b M Q,C a b M Q->t { nx:=fun _ M'=>Ret Q .non M',rt:=Ret Q } (fK N [a,b]) M)
 (hb:∀(kV doc pm:G0) (an:Option Addr) (cdv ct a b:G0),bindArgs (Il x x (ck st) (aY st) (aq st) .none kV doc pm an cdv ct) ⟨[a,b],[]⟩=pure ([p,q].zip [a,b]):=by intros;rfl):Cal P w K mg base (k+1) x (sD2 C):=by
 refine Ae T S (fun kV doc pm an cdv ct us hl=>?_) (fun ds M Q h=>?_) fun f cdv A outer s H E hr=>?_
 ·match us,hl with
  |[_,_],_=>exact hb ..
 ·unfold sD2 at h
  split at h
  ·rfl
  ·exact h.elim
 ·obtain⟨t,h,hq⟩:=body f cdv A outer s H E hr
  refine⟨t,h,fun ds M Q h=>?_⟩
  unfold sD2 at h
  split at h
  ·exact hq _ _ _ _ h
  ·exact h.elim
def sD3(C:D->D->D->MH->DK->Prop):SpD:=fun ds M Q=>match ds with
 |[a,b,c]=>C a b c M Q
 |_=>False
theorem mQ{p q r:Str}{C:D->D->D->MH->DK->Prop}(T:Txt K mg x st)(S:FnScope N [p,q,r] (aq st))
 (body:∀(f:Addr) (cdv:G0) (A:Hr) (outer:List Env) (s:G6) (H:Hp) (E:XK),Room k (A.deeper (envOfC x (aq st) s.heap.objs.size f cdv))->
  ∃t,DSs (i8 CX0 P w K mg base N x (aq st) f cdv A outer s H E).nox (aY st) t/\∀a b c M Q,C a b c M Q->t { nx:=fun _ M'=>Ret Q .non M',rt:=Ret Q } (fK N [a,b,c]) M)
 (hb:∀(kV doc pm:G0) (an:Option Addr) (cdv ct a b c:G0),bindArgs (Il x x (ck st) (aY st) (aq st) .none kV doc pm an cdv ct) ⟨[a,b,c],[]⟩=pure ([p,q,r].zip [a,b,c]):=by intros;rfl):Cal P w K mg base (k+1) x (sD3 C):=by
 refine Ae T S (fun kV doc pm an cdv ct us hl=>?_) (fun ds M Q h=>?_) fun f cdv A outer s H E hr=>?_
 ·match us,hl with
  |[_,_,_],_=>exact hb ..
 ·unfold sD3 at h
  split at h
  ·rfl
  ·exact h.elim
 ·obtain⟨t,h,hq⟩:=body f cdv A outer s H E hr
  refine⟨t,h,fun ds M Q h=>?_⟩
  unfold sD3 at h
  split at h
  ·exact hq _ _ _ _ _ h
  ·exact h.elim
def sD4(C:D->D->D->D->MH->DK->Prop):SpD:=fun ds M Q=>match ds with
 |[a,b,c,d]=>C a b c d M Q
 |_=>False
theorem E9{p q r t:Str}{C:D->D->D->D->MH->DK->Prop}(T:Txt K mg x st)(S:FnScope N [p,q,r,t] (aq st))
 (body:∀(f:Addr) (cdv:G0) (A:Hr) (outer:List Env) (s:G6) (H:Hp) (E:XK),Room k (A.deeper (envOfC x (aq st) s.heap.objs.size f cdv))->
  ∃t,DSs (i8 CX0 P w K mg base N x (aq st) f cdv A outer s H E).nox (aY st) t/\∀a b c d M Q,C a b c d M Q->t { nx:=fun _ M'=>Ret Q .non M',rt:=Ret Q } (fK N [a,b,c,d]) M)
 (hb:∀(kV doc pm:G0) (an:Option Addr) (cdv ct a b c d:G0),bindArgs (Il x x (ck st) (aY st) (aq st) .none kV doc pm an cdv ct) ⟨[a,b,c,d],[]⟩=pure ([p,q,r,t].zip [a,b,c,d]):=by intros;rfl):Cal P w K mg base (k+1) x (sD4 C):=by
 refine Ae T S (fun kV doc pm an cdv ct us hl=>?_) (fun ds M Q h=>?_) fun f cdv A outer s H E hr=>?_
 ·match us,hl with
  |[_,_,_,_],_=>exact hb ..
 ·unfold sD4 at h
  split at h
  ·rfl
  ·exact h.elim
 ·obtain⟨t,h,hq⟩:=body f cdv A outer s H E hr
  refine⟨t,h,fun ds M Q h=>?_⟩
  unfold sD4 at h
  split at h
  ·exact hq _ _ _ _ _ _ h
  ·exact h.elim
end
end SD
namespace QQ
open PySem PySem.Spec PyProof.Rows L2 SD
def top(i:Nat):Stmt:=GW.main.body.getD i (.Pass ⟨0,0,0,0⟩)
abbrev gx:Stmt:=top 46
abbrev lV:Stmt:=top 47
abbrev jt:Stmt:=top 49
abbrev kf:Stmt:=top 52
abbrev oP:Stmt:=top 53
abbrev kA:Stmt:=top 54
abbrev eN:Stmt:=top 55
abbrev mr:Stmt:=top 56
abbrev jo:Stmt:=top 57
abbrev mR:Stmt:=top 58
abbrev mK:Stmt:=top 48
abbrev lh:Stmt:=top 50
abbrev jX:Stmt:=top 51
abbrev jr:Stmt:=top 27
abbrev eL:Stmt:=top 28
abbrev AF:Stmt:=top 17
abbrev xF:Stmt:=top 18
abbrev mE:Stmt:=top 19
abbrev fh:Stmt:=top 29
abbrev gr:Stmt:=top 30
abbrev jy:Stmt:=top 31
abbrev kS:Stmt:=top 32
abbrev dQ:Stmt:=top 4
abbrev fj:Stmt:=top 7
abbrev lR:Stmt:=top 8
abbrev iB:Stmt:=top 33
abbrev d7:Stmt:=top 35
abbrev mL:Stmt:=top 6
abbrev j0:Stmt:=top 10
abbrev gX:Stmt:=top 12
abbrev fU:Stmt:=top 36
abbrev gu:Stmt:=top 13
abbrev gB:Stmt:=top 14
abbrev sD:Stmt:=top 22
abbrev km:Stmt:=top 11
abbrev kR:Stmt:=top 23
abbrev k9:Stmt:=top 5
abbrev lM:Stmt:=top 15
abbrev lF:Stmt:=top 16
abbrev ki:Stmt:=top 24
abbrev gF:Stmt:=top 25
abbrev gZ:Stmt:=top 37
abbrev eM:Stmt:=top 38
abbrev gW:Stmt:=top 40
abbrev m9:Stmt:=top 20
abbrev ig:Stmt:=top 42
abbrev dZ:Stmt:=top 44
abbrev fP:Stmt:=top 43
abbrev j8:Stmt:=top 59
abbrev Aw:Stmt:=top 60
local macro_rules | `(tactic| walk_at "sc") => `(tactic| exact ⟨rfl, rfl, rfl, by decide, rfl, by decide, by decide⟩)
theorem _root_.SD.Cal.m{P:GL}{w:Hk}{K:G5}{mg:Str->Option G0}{base:Heap}{j k:Nat}{x:Str}{sp:SpD}(h:Cal P w K mg base j x sp)(l:j<=k:=by decide):Cal P w K mg base k x sp:=h.mono l
structure Tx(K:G5)(mg:Str->Option G0):Prop where
 f_law_cell_at:Txt K mg "_law_cell_at" gx
 f_law_take:Txt K mg "_law_take" lV
 f_law_scale:Txt K mg "_law_scale" jt
 f_law_turn:Txt K mg "_law_turn" kf
 f_law_on:Txt K mg "_law_on" oP
 f_law_fair:Txt K mg "_law_fair" kA
 f_law_shuts_here:Txt K mg "_law_shuts_here" eN
 f_law_box:Txt K mg "_law_box" mr
 f_law_order:Txt K mg "_law_order" jo
 f_law_set:Txt K mg "_law_set" mR
 f_law_low:Txt K mg "_law_low" mK
 f_law_spot:Txt K mg "_law_spot" lh
 f_law_made:Txt K mg "_law_made" jX
 f_face_ends:Txt K mg "face_ends" jr
 f_faces_by_start:Txt K mg "faces_by_start" eL
 f_gap:Txt K mg "gap" AF
 f_lean:Txt K mg "lean" xF
 f_side_of:Txt K mg "side_of" mE
 f_is_met_sooner:Txt K mg "is_met_sooner" fh
 f_face_behind:Txt K mg "face_behind" gr
 f_ring_from:Txt K mg "ring_from" jy
 f_rings_of:Txt K mg "rings_of" kS
 f_greatest_divisor:Txt K mg "greatest_divisor" dQ
 f_common_bottom:Txt K mg "common_bottom" fj
 f_top_over:Txt K mg "top_over" lR
 f_twice_area:Txt K mg "twice_area" iB
 f_outer_and_inner:Txt K mg "outer_and_inner" d7
 f_is_less:Txt K mg "is_less" mL
 f_is_ahead:Txt K mg "is_ahead" j0
 f_earlier_of:Txt K mg "earlier_of" gX
 f_first_corner:Txt K mg "first_corner" fU
 f_place_among:Txt K mg "place_among" gu
 f_ahead_first:Txt K mg "ahead_first" gB
 f_spans:Txt K mg "spans" sD
 f_later_of:Txt K mg "later_of" km
 f_is_above:Txt K mg "is_above" kR
 f_fraction:Txt K mg "fraction" k9
 f_own_spot:Txt K mg "own_spot" lM
 f_own_wall:Txt K mg "own_wall" lF
 f_upper_of:Txt K mg "upper_of" ki
 f_upper_below:Txt K mg "upper_below" gF
 f_land_about:Txt K mg "land_about" gZ
 f_lands_of_faces:Txt K mg "lands_of_faces" eM
 f_corners_of:Txt K mg "corners_of" gW
 f_lies_on:Txt K mg "lies_on" m9
 f_wall_below:Txt K mg "wall_below" ig
 f_look_with_lands:Txt K mg "look_with_lands" dZ
 f_look_plainly:Txt K mg "look_plainly" fP
 f_law_real:Txt K mg "_law_real" j8
 f_law:Txt K mg "law" Aw
 b_abs:mg "abs"=none
 b_all:mg "all"=none
 b_enumerate:mg "enumerate"=none
 b_int:mg "int"=none
 b_len:mg "len"=none
 b_list:mg "list"=none
 b_max:mg "max"=none
 b_min:mg "min"=none
 b_range:mg "range"=none
 b_tuple:mg "tuple"=none
 b_zip:mg "zip"=none
theorem ky:FnScope ["_law_script","_law_k"] ["_law_script","_law_k"] (aq gx):=by walk_at "sc"
inductive Cn_law_cell_at(x y:D)(M:MH)(Q:DK):Prop
 |mk (ns:_) (k:_) (_:x=.rol (IG D.int ns)) (_:y=.int k) (_:0<=k) (_:∀z,Q (.int z) M)
variable{P:GL}{w:Hk}{K:G5}{mg:Str->Option G0}{base:Heap}
theorem l6(T:Tx K mg):Cal P w K mg base 1 "_law_cell_at" (sD2 Cn_law_cell_at):=by
 refine bw (k:=0) T.f_law_cell_at ky fun f cdv A outer s H E hr=>⟨_,(ai (bF (aN (fE hr.units) (dv 1) (aO dP rfl T.b_len dA (aa (dv 0) ae))) (ao (aB (aw (dv 0) (dv 1)))) aP) (ao (aB ag))),fun _ _ M Q h=>?_⟩;obtain⟨ns,k,rfl,rfl,hk,q⟩:=h;(repeat (first|refine⟨_,rfl,?_⟩|refine⟨trivial,?_⟩|refine⟨_,_,rfl,?_⟩|refine⟨rfl,?_⟩|refine⟨nbL rfl,?_⟩))
 refine b6 (fun hl=>?_) (fun _=>?_)
 ·have hl':k<(ns.length:Int):=by simpa using hl
  obtain⟨j,rfl⟩:∃j:Nat,k=(j:Int):=⟨k.toNat,by omega⟩;have hj:j<ns.length:=by omega
  refine⟨_,rfl,_,rfl,.int ns[j],b8 (by simp[hj]),rtn (q _)⟩
 ·exact rtn (q 0)
theorem d5:FnScope ["_law_row","_law_base","_law_rest","_law_number"] ["_law_row","_law_base"] (aq lV):=by walk_at "sc"
inductive Cn_law_take(y z:D)(M:MH)(Q:DK):Prop
 |mk (r:_) (b:_) (x:_) (c:_) (_:y=.ref r) (_:z=.int b) (_:M r=some (.lst [.int x,.int c])) (_:0<=c) (_:c<1000000) (_:0<b) (_:Bd 8000 b) (_:∀x' v,0<=v->v<b->Q (.int v) (ax M r (.lst [.int x',.int (c+1)])))
theorem aC(T:Tx K mg):Cal P w K mg base 1 "_law_take" (sD2 Cn_law_take):=by
 refine bw (k:=0) T.f_law_take d5 fun f cdv A outer s H E hr=>⟨_,(ai (cv (au aI (aw (dv 0) ag) ag) (nG (dv 0) ag)) (ai (bF (aN wY (aw (dv 0) ag) (au gG ag ag)) (ai (az 2 d5.nd (au cE (aw (dv 0) ag) (au gG ag ag))) (ai (cv (au aI (au gG ag ag) (au gw (dv 2) (dv 1))) (nG (dv 0) ag)) (ao (aB (au fF (dv 2) (dv 1)))))) aP) (ai (az 3 d5.nd (au fF (au aI (au aI (au aI (au aG (aw (dv 0) ag) ag) (au aG (au aG ag (aw (dv 0) ag)) (aw (dv 0) ag))) (au aG ag (aw (dv 0) ag))) ag) ag)) (ai (az 3 d5.nd (au fF (au aI (au aI (au aG (dv 3) (dv 3)) (au aG ag (dv 3))) (aw (dv 0) ag)) ag)) (ao (aB (au fF (au gw (dv 3) ag) (dv 1)))))))),fun _ _ M Q h=>?_⟩;obtain⟨r,b,x,c,rfl,rfl,hM,hc0,hc1,hb,hbd,q⟩:=h;have hc64:Bd 64 (c+1):=by show(c+1).natAbs<2^64;omega
 have hb0:b≠0:=by omega
 have hm:∀n:Int,0<=n.fmod b/\n.fmod b<b:=fun n=>⟨Int.fmod_nonneg_of_pos _ hb,Int.fmod_lt_of_pos _ hb⟩;refine⟨_,rfl,_,_,hM,rfl,?_⟩;refine⟨_,rfl,_,_,hM,rfl,?_⟩;refine⟨_,rfl,_,_,af,rfl,⟨by decide,by decide,by decide⟩,trivial,_,rfl,?_⟩;refine b6 (fun h=>?_) (fun h=>?_)
 ·refine⟨_,rfl,_,_,af,rfl,⟨by decide,by decide,by decide⟩,trivial,?_⟩;refine⟨⟨by decide,by decide,by decide⟩,_,rfl,_,rfl,⟨hb0,hbd⟩,_,rfl,_,_,af,rfl,?_⟩;refine⟨_,rfl,_,rfl,hb0,?_⟩;rw[bJ];exact rtn (q _ _ (hm _).1 (hm _).2)
 ·refine⟨_,rfl,_,_,af,rfl,e7 (by decide),?_⟩;refine⟨_,rfl,_,_,af,rfl,aQ (by decide),?_⟩;refine⟨_,rfl,_,_,af,rfl,e7 hc64,?_⟩;refine⟨_,rfl,_,_,af,rfl,aQ (by decide),(show(2147483399:Int)≠0 by decide),?_⟩
  have hn:∀n:Int,Bd 64 (n.fmod 2147483399):=fun n=>by
   have h1:=Int.fmod_nonneg_of_pos n (show(0:Int)<2147483399 by decide)
   have h2:=Int.fmod_lt_of_pos n (show(0:Int)<2147483399 by decide)
   show(n.fmod 2147483399).natAbs<2^64
   omega
  refine⟨_,rfl,_,rfl,aQ (hn _),_,rfl,aQ (by decide),_,rfl,_,_,af,rfl,(show(2147483647:Int)≠0 by decide),?_⟩;refine⟨_,rfl,⟨by decide,bG (by decide)⟩,_,rfl,hb0,?_⟩;exact rtn (q _ _ (hm _).1 (hm _).2)
theorem dk:FnScope ["_law_row","_law_top","_law_bottom","_law_far"] ["_law_row"] (aq jt):=by walk_at "sc"
inductive Cn_law_scale(u:D)(M:MH)(Q:DK):Prop
 |mk (r:Addr) (x c:Int) (_:u=.ref r) (_:M r=some (.lst [.int x,.int c])) (_:0<=c) (_:c<900000) (_:∀x' c' t b p q,Scl t b p q->0<=c'->c'<=c+10->Q (scl t b p q) (ax M r (.lst [.int x',.int c'])))
theorem pj(T:Tx K mg):Cal P w K mg base 2 "_law_scale" (sD1 Cn_law_scale):=by
 refine fm (k:=1) T.f_law_scale dk fun f cdv A outer s H E hr=>⟨_,(ai (eV 1 2 rfl dk.nd (aa (au aI ag (ak (aC T).m hr (aa (dv 0) (aa ag ae)))) (aa (au aI ag (ak (aC T).m hr (aa (dv 0) (aa ag ae)))) ae))) (ai (bF (aN (cK hr.units) (ak (aC T).m hr (aa (dv 0) (aa ag ae))) ag) (ao (eV 1 2 rfl dk.nd (aa (au aI ag (ak (aC T).m hr (aa (dv 0) (aa (au gG ag ag) ae)))) (aa (au aI ag (ak (aC T).m hr (aa (dv 0) (aa (au gG ag ag) ae)))) ae)))) aP) (ai (az 3 dk.nd (aw (b7 (aa ag (aa (au gG ag ag) ae))) (dq qh rfl T.b_int rE (aa (cZ (cK hr.units) (ak (aC T).m hr (aa (dv 0) (aa ag ae))) ag) ae)))) (ao (aB (aE (aa (dv 1) (aa (dv 2) (aa (au aG (dv 3) (au cE (ak (aC T).m hr (aa (dv 0) (aa ag ae))) ag)) (aa (au aG (dv 3) (au cE (ak (aC T).m hr (aa (dv 0) (aa ag ae))) ag)) ae)))))))))),fun _ M Q h=>?_⟩;obtain⟨r,x,c,rfl,hM,hc0,hc1,k⟩:=h;refine⟨_,rfl,r,6,x,c,rfl,rfl,hM,hc0,by omega,by decide,bG (by decide),fun x1 v1 h10 h11=>?_⟩;refine⟨_,rfl,r,6,x1,c+1,rfl,rfl,af,by omega,by omega,by decide,bG (by decide),fun x2 v2 h20 h21=>?_⟩;refine⟨_,_,rfl,?_⟩;(try dsimp only[SD.br])
 refine cy (fun δ M'=>∃x c' t b o3,0<=c'/\c'<=c+5/\(0<t/\t<=10^9/\0<b/\b<=10^9)/\M'=ax M r (.lst [.int x,.int c'])/\δ=[some (.ref r),some (.int t),some (.int b),o3]) ?_ (fun hu=>?_);rotate_left
 ·refine⟨_,rfl,r,4,x2,c+1+1,rfl,rfl,af,by omega,by omega,by decide,bG (by decide),fun x3 v3 h30 h31=>⟨_,rfl,?_⟩⟩;refine b6 (fun _=>?_) (fun _=>?_)
  ·refine⟨_,rfl,⟨by decide,by decide,by decide⟩,r,10^9,x3,c+1+1+1,rfl,rfl,af,by omega,by omega,by decide,bG (by decide),fun x4 v4 h40 h41=>?_⟩;refine⟨_,rfl,⟨by decide,by decide,by decide⟩,r,10^9,x4,c+1+1+1+1,rfl,rfl,af,by omega,by omega,by decide,bG (by decide),fun x5 v5 h50 h51=>?_⟩;refine⟨_,_,rfl,hu _ _ ⟨x5,c+1+1+1+1+1,1+v4,1+v5,none,by omega,by omega,by omega,?_,rfl⟩⟩;simp only[bJ]
  ·refine hu _ _ ⟨x3,c+1+1+1,1+v1,1+v2,none,by omega,by omega,by omega,?_,rfl⟩;simp only[bJ]
 rintro δ M' ⟨x,c',t,b,o3,hc0',hc1',hb,rfl,rfl⟩;refine⟨⟨by decide,by decide,by decide⟩,nbL rfl,fun p hp=>?_⟩;have npr:r≠p:=av af hp;refine⟨_,rfl,r,6,x,c',rfl,rfl,(by rw[aj npr,af]),by omega,by omega,by decide,bG (by decide),fun x6 v6 h60 h61=>?_⟩
 have hf:∃f:Int,atI [D.int 1,D.int (10^15)] (if decide (v6=0)=true then 1 else 0)=some (.int f)/\1<=f/\f<=10^15:=by
  by_cases z:v6=0
  ·exact⟨10^15,by rw[if_pos (by simpa using z)];rfl,by decide,by decide⟩
  ·exact⟨1,by rw[if_neg (by simpa using z)];rfl,by decide,by decide⟩
 obtain⟨f,ef,hf0,hf1⟩:=hf;refine⟨_,_,(by rw[aj npr.symm,af];rfl),ef,?_⟩;have bf:Bd 64 f:=by show f.natAbs<2^64;omega
 refine⟨_,rfl,_,rfl,_,rfl,_,rfl,r,41,x6,c'+1,rfl,rfl,af,by omega,by omega,by decide,bG (by decide),fun x7 v7 h70 h71=>⟨trivial,aQ bf,?_⟩⟩;refine⟨_,rfl,_,rfl,r,41,x7,c'+1+1,rfl,rfl,af,by omega,by omega,by decide,bG (by decide),fun x8 v8 h80 h81=>⟨trivial,aQ bf,nbL rfl,?_⟩⟩
 have bnd:∀v:Int,0<=v->v<41->-(10^17)<=f*(v-20)/\f*(v-20)<=10^17:=fun v a b=>by
  have h1:f*(v-20)<=f*20:=Int.mul_le_mul_of_nonneg_left (by omega) (by omega)
  have h2:f*(-20)<=f*(v-20):=Int.mul_le_mul_of_nonneg_left (by omega) (by omega)
  omega
 have q7:=bnd v7 h70 h71;have q8:=bnd v8 h80 h81;refine⟨ax M r (.lst [.int x8,.int (c'+1+1+1)]),?_,k _ _ _ _ _ _ ⟨hb.1,by omega,hb.2.2.1,by omega,by omega,by omega,by omega,by omega⟩ (by omega) (by omega)⟩;simp only[bJ];refine .Gk ?_;intro a o ne e;have:a≠p:=fun z=>by subst z;rw[aj ne]at hp;rw[hp]at e;cases e
 rw[aj this,aj ne];exact e
theorem d4:FnScope ["_law_one","_law_two","_law_three","_law_far","_law_beside","_law_found"] ["_law_one","_law_two","_law_three"] (aq kf):=by walk_at "sc"
inductive Cn_law_turn(u v w:D)(M:MH)(Q:DK):Prop
 |mk (a b c d e f:Int) (_:u=.tup [.int a,.int b]) (_:v=.tup [.int c,.int d]) (_:w=.tup [.int e,.int f]) (_:Bd 6 a) (_:Bd 6 b) (_:Bd 6 c) (_:Bd 6 d) (_:Q (.int (GS (crs (c-a) (d-b) (e-a) (f-b)))) M)
theorem gJ(T:Tx K mg):Cal P w K mg base 1 "_law_turn" (sD3 Cn_law_turn):=by
 refine mQ (k:=0) T.f_law_turn d4 fun f cdv A outer s H E hr=>⟨_,(ai (az 3 d4.nd (aE (aa (au cE (aw (dv 1) ag) (aw (dv 0) ag)) (aa (au cE (aw (dv 1) ag) (aw (dv 0) ag)) ae)))) (ai (az 4 d4.nd (aE (aa (au cE (aw (dv 2) ag) (aw (dv 0) ag)) (aa (au cE (aw (dv 2) ag) (aw (dv 0) ag)) ae)))) (ai (az 5 d4.nd (au cE (au aG (aw (dv 3) ag) (aw (dv 4) ag)) (au aG (aw (dv 3) ag) (aw (dv 4) ag)))) (ao (aB (au cE (dq qh rfl T.b_int rE (aa (cZ (nN hr.units) (dv 5) ag) ae)) (dq qh rfl T.b_int rE (aa (cZ (fE hr.units) (dv 5) ag) ae)))))))),fun _ _ _ M Q h=>?_⟩;obtain⟨a,b,c,d,e,f,rfl,rfl,rfl,ha,hb,hc,hd,k⟩:=h;refine⟨_,rfl,_,rfl,_,rfl,_,rfl,trivial,_,rfl,_,rfl,_,rfl,_,rfl,trivial,nbL rfl,?_⟩;refine⟨_,rfl,_,rfl,_,rfl,_,rfl,trivial,_,rfl,_,rfl,_,rfl,_,rfl,trivial,nbL rfl,?_⟩;refine⟨_,rfl,_,rfl,_,rfl,_,rfl,aQ ((hc.sub ha).mono (by decide)),_,rfl,_,rfl,_,rfl,_,rfl,aQ ((hd.sub hb).mono (by decide)),trivial,?_⟩;refine⟨_,rfl,trivial,_,rfl,trivial,trivial,?_⟩
 have e1:(if decide (0<(c-a)*(f-b)-(d-b)*(e-a))=true then(1:Int)else 0)-(if decide ((c-a)*(f-b)-(d-b)*(e-a)<0)=true then(1:Int)else 0)=GS (crs (c-a) (d-b) (e-a) (f-b)):=by
  unfold crs;generalize (c-a)*(f-b)-(d-b)*(e-a)=z;rcases Gy z 0 with h|h|h
  ·rw[Hm h,if_neg (by simp;omega),if_pos (by simpa using h)];rfl
  ·subst h;rfl
  ·rw[HH h,if_pos (by simpa using h),if_neg (by simp;omega)];rfl
 dsimp only;rw[e1];exact rtn k
theorem um:FnScope ["_law_shut","_law_spot_here"] ["_law_shut","_law_spot_here"] (aq oP):=by walk_at "sc"
inductive Cn_law_on(u v:D)(M:MH)(Q:DK):Prop
 |mk (w:Wl) (x y:Int) (_:u=uw w) (_:v=.tup [.int x,.int y]) (_:Un5 w) (_:(0<=x/\x<=20)) (_:(0<=y/\y<=20)) (_:Q (.bl (decide (l1 w<=la x y)&&decide (la x y<=l2 w)&&decide (sd w x y=0))) M)
theorem wR(T:Tx K mg):Cal P w K mg base 2 "_law_on" (sD2 Cn_law_on):=by
 refine bw (k:=1) T.f_law_on um fun f cdv A outer s H E hr=>⟨_,(ao (aB (oh (yq (wM hr.units) (wM hr.units) (aw (dv 0) ag) (dv 1) (aw (dv 0) ag)) (nR (cZ (cK hr.units) (ak (gJ T).m hr (aa (aw (dv 0) ag) (aa (aw (dv 0) ag) (aa (dv 1) ae)))) ag))))),fun _ _ M Q h=>?_⟩;obtain⟨w,x,y,rfl,rfl,W,hx,hy,k⟩:=h;(try dsimp only[SD.gC,SD.dX,SD.br,SD.gV,SD.h8,SD.dO,SD.ff,SD.tBD,SD.iz])
 refine Aj (decide (l1 w<=la x y)&&decide (la x y<=l2 w)) (decide (sd w x y=0)) (fun K hK=>?_) (fun _ K hK=>?_) (rtn k)
 ·refine⟨_,rfl,_,rfl,_,rfl,[w.1,w.2.1],[x,y],rfl,rfl,_,rfl,?_⟩;rw[Av W.b hy];refine b6 (fun h=>?_) (fun h=>?_)
  ·refine⟨_,rfl,_,rfl,[x,y],[w.2.2.1,w.2.2.2],rfl,rfl,?_⟩;rw[Av hy W.d];have h':decide (l1 w<=la x y)=true:=h;rw[h',Hw]at hK;exact hK
  ·have h':decide (l1 w<=la x y)=false:=eq_false_of_ne_true h;rw[h',Hd]at hK;exact hK
 ·refine⟨_,rfl,_,rfl,_,rfl,_,rfl,_,rfl,w.1,w.2.1,w.2.2.1,w.2.2.2,x,y,rfl,rfl,rfl,eG W.a,eG W.b,eG W.c,eG W.d,?_⟩;have e:decide (GS (crs (w.2.2.1-w.1) (w.2.2.2-w.2.1) (x-w.1) (y-w.2.1))=0)=decide (sd w x y=0):=by rw[decide_eq_decide];exact Int.sign_eq_zero_iff_zero
  try dsimp only
  show K (.bl (decide _)) _;rw[e];exact hK
theorem cG:FnScope ["_law_one","_law_other","_law_shut","_law_beside","_law_spot_here","_law_sides","_law_others"] ["_law_one","_law_other"] (aq kA):=by walk_at "sc"
inductive Cn_law_fair(u v:D)(M:MH)(Q:DK):Prop
 |mk (U V:Wl) (_:u=uw U) (_:v=uw V) (_:Un5 U) (_:Un5 V) (_:∀b:Bool,(b=true->Fair U V)->Q (.bl b) M)
theorem qY(T:Tx K mg):Cal P w K mg base 3 "_law_fair" (sD2 Cn_law_fair):=by
 refine bw (k:=2) T.f_law_fair cG fun f cdv A outer s H E hr=>⟨_,(ai (bF (aN (cK hr.units) (dv 0) (dv 1)) (ao (aB jU)) aP) (ai (bV GO rfl (aU (aE (aa (aE (aa (dv 0) (aa (dv 1) ae))) (aa (aE (aa (dv 1) (aa (dv 0) ae))) ae)))) (bH rfl (aA (ay 2 cG.nd) (aA (ay 3 cG.nd) ba))) (ao (bV GO rfl (aU (dv 3)) (ay 4 cG.nd) (ao (bF (uP (ly (aN (xH (kY hr)) (dv 4) (dv 2) (by with_unfolding_all rfl)) (hZ (en (ak (wR T).m hr (aa (dv 2) (aa (dv 4) ae))))))) (ao (aB jU)) aP))))) (ai (ic 5 cG.nd (CScope.of (xs:=["_law_spot_here"]) (js:=[0]) rfl) rfl (aU (dv 1)) (fun _ _ _ _=>dh) (fun _ _ _ _=>(ak (gJ T).m hr (aa (aw (dv 1) ag) (aa (aw (dv 1) ag) (aa (dv 0) ae)))))) (ai (ic 6 cG.nd (CScope.of (xs:=["_law_spot_here"]) (js:=[1]) rfl) rfl (aU (dv 0)) (fun _ _ _ _=>dh) (fun _ _ _ _=>(ak (gJ T).m hr (aa (aw (dv 1) ag) (aa (aw (dv 1) ag) (aa (dv 0) ae)))))) (ao (aB (Fj (cZ wY (au aG (aw (dv 5) ag) (aw (dv 5) ag)) ag) (nR (cZ wY (au aG (aw (dv 6) ag) (aw (dv 6) ag)) ag))))))))),fun _ _ M Q h=>?_⟩;obtain⟨U,V,rfl,rfl,HU,HV,k⟩:=h;refine⟨_,rfl,_,rfl,_,_,Pd.of rfl,Pd.of rfl,rfl,rfl,_,rfl,?_⟩;refine b6 (fun h=>rtn (k false (fun z=>absurd z GA))) (fun h=>?_);have hne:¬(l1 U=l1 V/\l2 U=l2 V):=fun⟨z1,z2⟩=>by apply h;obtain⟨a1,a2⟩:=eR HU.b HV.b z1;obtain⟨a3,a4⟩:=eR HU.d HV.d z2;simp only[Hu,HX,jN,a1,a2,a3,a4];simp
 dsimp only[SD.dO];refine cy (fun δ M'=>M'=M/\(∃o2 o3 o4,δ=[some (uw U),some (uw V),o2,o3,o4,none,none])/\(bg U (l1 V) (sd1 U V)/\bg U (l2 V) (sd2 U V))/\(bg V (l1 U) (sd1 V U)/\bg V (l2 U) (sd2 V U))) ?_ (fun hu=>?_);rotate_left
 ·refine⟨_,rfl,_,rfl,nbL rfl,_,rfl,_,rfl,nbL rfl,nbL rfl,[.tup [uw U,uw V],.tup [uw V,uw U]],rfl,?_⟩;refine⟨fun i δ M'=>M'=M/\(∃o2 o3 o4,δ=[some (uw U),some (uw V),o2,o3,o4,none,none])/\(0<i->bg U (l1 V) (sd1 U V)/\bg U (l2 V) (sd2 U V))/\(1<i->bg V (l1 U) (sd1 V U)/\bg V (l2 U) (sd2 V U)),⟨rfl,⟨_,_,_,rfl⟩,fun z=>absurd z (by decide),fun z=>absurd z (by decide)⟩,fun _ _ _ _ _=>rfl,?_,?_⟩
  ·rintro i d δ M' hi hd ⟨rfl,⟨o2,o3,o4,rfl⟩,p1,p2⟩;have hi:i<2:=hi;have hd:[D.tup [uw U,uw V],.tup [uw V,uw U]][i]?=some d:=hd
   have pick:∃A B,d=.tup [uw A,uw B]/\Un5 A/\Un5 B/\((bg A (l1 B) (sd1 A B)/\bg A (l2 B) (sd2 A B))->(0<i+1->bg U (l1 V) (sd1 U V)/\bg U (l2 V) (sd2 U V))/\(1<i+1->bg V (l1 U) (sd1 V U)/\bg V (l2 U) (sd2 V U))):=by
    rcases(show i=0\/i=1 by omega)with rfl|rfl
    ·cases hd;exact⟨U,V,rfl,HU,HV,fun z=>⟨fun _=>z,fun y=>absurd y (by decide)⟩⟩
    ·cases hd;exact⟨V,U,rfl,HV,HU,fun z=>⟨fun _=>p1 (by decide),fun _=>z⟩⟩
   obtain⟨A,B,rfl,HA,HB,nxt⟩:=pick;refine⟨_,rfl,rfl,_,_,rfl,_,_,rfl,rfl,?_⟩;refine⟨_,rfl,[.tup [.int B.1,.int B.2.1],.tup [.int B.2.2.1,.int B.2.2.2]],rfl,?_⟩;refine⟨fun j δ M''=>M''=M'/\(∃o4,δ=[some (uw U),some (uw V),some (uw A),some (uw B),o4,none,none])/\(0<j->bg A (l1 B) (sd1 A B))/\(1<j->bg A (l2 B) (sd2 A B)),⟨rfl,⟨_,rfl⟩,fun z=>absurd z (by decide),fun z=>absurd z (by decide)⟩,fun _ _ _ _ _=>rfl,?_,?_⟩
   ·rintro j d δ M'' hj hd ⟨rfl,⟨o4,rfl⟩,q1,q2⟩;have hj:j<2:=hj;have hd:[D.tup [.int B.1,.int B.2.1],.tup [.int B.2.2.1,.int B.2.2.2]][j]?=some d:=hd
    have pk:∃x y,d=.tup [.int x,.int y]/\(0<=x/\x<=20)/\(0<=y/\y<=20)/\(bg A (la x y) (sd A x y)->(0<j+1->bg A (l1 B) (sd1 A B))/\(1<j+1->bg A (l2 B) (sd2 A B))):=by
     rcases(show j=0\/j=1 by omega)with rfl|rfl
     ·cases hd;exact⟨_,_,rfl,HB.a,HB.b,fun z=>⟨fun _=>z,fun y=>absurd y (by decide)⟩⟩
     ·cases hd;exact⟨_,_,rfl,HB.c,HB.d,fun z=>⟨fun _=>q1 (by decide),fun _=>z⟩⟩
    obtain⟨x,y,rfl,hx,hy,nx2⟩:=pk;(try dsimp only[SD.gC,SD.dX,SD.br,SD.gV,SD.h8,SD.dO,SD.ff,SD.tBD,SD.iz])
    refine wN (!(decide (A.1=x/\A.2.1=y)||decide (A.2.2.1=x/\A.2.2.2=y))) (decide (l1 A<=la x y)&&decide (la x y<=l2 A)&&decide (sd A x y=0)) (fun K hK=>⟨_,rfl,_,rfl,BS _ A x y _ _ ⟨_,rfl,hK⟩⟩) (fun _ K hK=>⟨_,rfl,_,rfl,A,x,y,rfl,rfl,HA,hx,hy,_,rfl,hK⟩) ?_;refine b6 (fun _=>rtn (k false (fun z=>absurd z GA))) (fun h=>?_);exact⟨rfl,⟨_,rfl⟩,nx2 (xZ HA hy (eq_false_of_ne_true h))⟩
   ·rintro δ M'' ⟨rfl,⟨o4,rfl⟩,q1,q2⟩;exact⟨rfl,⟨_,_,_,rfl⟩,nxt ⟨q1 (show 0<2 by decide),q2 (show 1<2 by decide)⟩⟩
  ·rintro δ M' ⟨rfl,⟨o2,o3,o4,rfl⟩,p1,p2⟩;exact hu _ _ ⟨rfl,⟨_,_,_,rfl⟩,p1 (show 0<2 by decide),p2 (show 1<2 by decide)⟩
 rintro δ M' ⟨rfl,⟨o2,o3,o4,rfl⟩,⟨e1,e2⟩,⟨e3,e4⟩⟩;refine⟨_,rfl,[.tup [.int V.1,.int V.2.1],.tup [.int V.2.2.1,.int V.2.2.2]],rfl,comp_map (fun j=>if j=0 then .int (GS (sd1 U V))else .int (GS (sd2 U V))) (nbL rfl) (fun _ _ _=>rfl) ?_ (fun p hp=>?_)⟩
 ·intro j e' M2 hj he' _;have hj:j<2:=hj;have he':[D.tup [.int V.1,.int V.2.1],.tup [.int V.2.2.1,.int V.2.2.2]][j]?=some e':=he';rcases(show j=0\/j=1 by omega)with rfl|rfl
  ·cases he';exact⟨_,rfl,fun K2 hK2=>⟨_,rfl,_,rfl,_,rfl,_,rfl,_,rfl,U.1,U.2.1,U.2.2.1,U.2.2.2,_,_,rfl,rfl,rfl,eG HU.a,eG HU.b,eG HU.c,eG HU.d,hK2 _ .refl⟩⟩
  ·cases he';exact⟨_,rfl,fun K2 hK2=>⟨_,rfl,_,rfl,_,rfl,_,rfl,_,rfl,U.1,U.2.1,U.2.2.1,U.2.2.2,_,_,rfl,rfl,rfl,eG HU.a,eG HU.b,eG HU.c,eG HU.d,hK2 _ .refl⟩⟩
 refine⟨_,rfl,[.tup [.int U.1,.int U.2.1],.tup [.int U.2.2.1,.int U.2.2.2]],rfl,comp_map (fun j=>if j=0 then .int (GS (sd1 V U))else .int (GS (sd2 V U))) (nbL rfl) (fun _ _ _=>rfl) ?_ (fun p2 hp2=>?_)⟩
 ·intro j e' M2 hj he' _;have hj:j<2:=hj;have he':[D.tup [.int U.1,.int U.2.1],.tup [.int U.2.2.1,.int U.2.2.2]][j]?=some e':=he';rcases(show j=0\/j=1 by omega)with rfl|rfl
  ·cases he';exact⟨_,rfl,fun K2 hK2=>⟨_,rfl,_,rfl,_,rfl,_,rfl,_,rfl,V.1,V.2.1,V.2.2.1,V.2.2.2,_,_,rfl,rfl,rfl,eG HV.a,eG HV.b,eG HV.c,eG HV.d,hK2 _ .refl⟩⟩
  ·cases he';exact⟨_,rfl,fun K2 hK2=>⟨_,rfl,_,rfl,_,rfl,_,rfl,_,rfl,V.1,V.2.1,V.2.2.1,V.2.2.2,_,_,rfl,rfl,rfl,eG HV.a,eG HV.b,eG HV.c,eG HV.d,hK2 _ .refl⟩⟩
 have n12:p≠p2:=av af hp2;have c1:(ax (ax M' p (.lst [.int (GS (sd1 U V)),.int (GS (sd2 U V))])) p2 (.lst [.int (GS (sd1 V U)),.int (GS (sd2 V U))])) p=some (.lst [.int (GS (sd1 U V)),.int (GS (sd2 U V))]):=by rw[aj n12,af]
 (try dsimp only[SD.gC,SD.dX,SD.br,SD.gV,SD.h8,SD.dO,SD.ff,SD.tBD,SD.iz])
 refine orV (decide (0<=GS (sd1 U V)*GS (sd2 U V))) (decide (0<=GS (sd1 V U)*GS (sd2 V U))) (fun K hK=>⟨_,rfl,_,_,c1,rfl,_,rfl,_,_,c1,rfl,aQ (Am _),trivial,hK⟩) (fun _ K hK=>⟨_,rfl,_,_,af,rfl,_,rfl,_,_,af,rfl,aQ (Am _),trivial,hK⟩) ?_;refine⟨M',.new hp2 (.new hp .refl),k _ fun z=>⟨hne,e1,e2,e3,e4,?_⟩⟩;rw[Bool.or_eq_true,decide_eq_true_eq,decide_eq_true_eq]at z;exact z
theorem aT:FnScope ["_law_row","_law_most","_law_size","_law_shuts","_law_turn_here","_law_one","_law_other","_law_shut"] ["_law_row","_law_most","_law_size"] (aq eN):=by walk_at "sc"
inductive Cn_law_shuts_here(u m n:D)(M:MH)(Q:DK):Prop
 |mk (r:Addr) (x c m':Int) (_:u=.ref r) (_:m=.int m') (_:(0<=m'/\m'<=12)) (_:n=.int 5) (_:M r=some (.lst [.int x,.int c])) (_:0<=c) (_:c<1000) (_:∀(M'':MH) (x' c':Int) (l:Addr) (ws:List Wl),r≠l->M'' r=some (.lst [.int x',.int c'])->M'' l=some (.lst (ws.map uw))->0<=c'->c'<=c+140->(ws.length:Int)<=m'->(∀w∈ws,Un5 w)->PF ws->Q (.ref l) M'')
theorem iR(T:Tx K mg):Cal P w K mg base 4 "_law_shuts_here" (sD3 Cn_law_shuts_here):=by
 refine mQ (k:=3) T.f_law_shuts_here aT fun f cdv A outer s H E hr=>⟨_,(ai (az 3 aT.nd (b7 ae)) (ai (d8 GO rfl rfl T.b_range (aa (ak (aC T).m hr (aa (dv 0) (aa (au aI (dv 1) ag) ae))) ae) (ay 4 aT.nd) (ai (az 5 aT.nd (aE (aa (ak (aC T).m hr (aa (dv 0) (aa (dv 2) ae))) (aa (ak (aC T).m hr (aa (dv 0) (aa (dv 2) ae))) ae)))) (ai (az 6 aT.nd (aE (aa (ak (aC T).m hr (aa (dv 0) (aa (dv 2) ae))) (aa (ak (aC T).m hr (aa (dv 0) (aa (dv 2) ae))) ae)))) (ai (bF (uP (ly (aN (jq hr.units) (dv 3) (b7 ae)) (hZ (aN (nN hr.units) (ak (aC T).m hr (aa (dv 0) (aa ag ae))) ag)))) (ao (az 5 aT.nd (aw (aw (dv 3) (ak (aC T).m hr (aa (dv 0) (aa (aO dP rfl T.b_len dA (aa (dv 3) ae)) ae)))) (ak (aC T).m hr (aa (dv 0) (aa ag ae)))))) aP) (ai (az 7 aT.nd (aE (aa (aO (jT rfl hr.units) rfl T.b_min nU (aa (dv 5) (aa (dv 6) ae))) (aa (aO (nW rfl hr.units) rfl T.b_max qu (aa (dv 5) (aa (dv 6) ae))) ae)))) (ao (bF (uP (ly (aN (jq hr.units) (dv 5) (dv 6)) (hZ (en (aO (Bs rfl) rfl T.b_all Cs (aa (lp (CScope.of (xs:=["_law_beside"]) (js:=[7]) rfl) rfl (aU (dv 3)) (fun _ _ _ _=>dh) (fun _ _ _ _=>(ak (qY T).m hr (aa (dv 1) (aa (dv 0) ae))))) ae)))))) (ao (cR (bL (dv 3) (aa (dv 7) ae)))) aP))))))) (ao (aB (dv 3))))),fun _ _ _ M Q h=>?_⟩;obtain⟨r,x0,c0,m,rfl,rfl,hm,rfl,hM,hc0,hc1,k⟩:=h;refine⟨nbL rfl,fun l hl=>?_⟩;have nrl:r≠l:=av hM hl;refine⟨_,rfl,_,rfl,r,m+1,x0,c0,rfl,rfl,(by rw[aj nrl];exact hM),hc0,by omega,by omega,bG (by omega),fun x1 v h0 h1=>?_⟩;refine⟨v.toNat,?_,by omega,fun i δ M'=>∃(x c:Int) (ws:List Wl) (o4 o5 o6 o7:Option D),δ=[some (.ref r),some (.int m),some (.int 5),some (.ref l),o4,o5,o6,o7]/\M' r=some (.lst [.int x,.int c])/\M' l=some (.lst (ws.map uw))/\0<=c/\c<=c0+1+10*i/\ws.length<=i/\(∀w∈ws,Un5 w)/\PF ws,?_,?_,?_⟩
 ·rw[Int.toNat_of_nonneg h0]
 ·refine⟨x1,c0+1,[],_,_,_,_,rfl,af,(by rw[aj nrl.symm,af];rfl),by omega,by omega,by decide,fun w hw=>absurd hw (by simp),By⟩
 rotate_left
 ·rintro δ M' ⟨x,c,ws,o4,o5,o6,o7,rfl,hr',hl',g0,g1,g2,g3,g4⟩;exact⟨_,rfl,rtn (k M' x c l ws nrl hr' hl' g0 (by omega) (by omega) g3 g4)⟩
 rintro i δ M' hi ⟨x,c,ws,o4,o5,o6,o7,rfl,hr',hl',g0,g1,g2,g3,g4⟩;have hi8:i<=12:=by omega
 refine⟨_,rfl,_,rfl,r,5,x,c,rfl,rfl,hr',g0,by omega,by decide,bG (by decide),fun x1 p hp0 hp1=>?_⟩;refine⟨_,rfl,_,rfl,r,5,x1,c+1,rfl,rfl,af,by omega,by omega,by decide,bG (by decide),fun x2 q hq0 hq1=>⟨nbL rfl,?_⟩⟩;refine⟨_,rfl,_,rfl,r,5,x2,c+1+1,rfl,rfl,af,by omega,by omega,by decide,bG (by decide),fun x3 e he0 he1=>?_⟩;refine⟨_,rfl,_,rfl,r,5,x3,c+1+1+1,rfl,rfl,af,by omega,by omega,by decide,bG (by decide),fun x4 f hf0 hf1=>⟨nbL rfl,?_⟩⟩;have hl4:(ax (ax (ax (ax M' r (.lst [.int x1,.int (c+1)])) r (.lst [.int x2,.int (c+1+1)])) r (.lst [.int x3,.int (c+1+1+1)])) r (.lst [.int x4,.int (c+1+1+1+1)])) l=some (.lst (ws.map uw)):=by rw[aj nrl.symm,aj nrl.symm,aj nrl.symm,aj nrl.symm];exact hl'
 have hr4:(ax (ax (ax (ax M' r (.lst [.int x1,.int (c+1)])) r (.lst [.int x2,.int (c+1+1)])) r (.lst [.int x3,.int (c+1+1+1)])) r (.lst [.int x4,.int (c+1+1+1+1)])) r=some (.lst [.int x4,.int (c+1+1+1+1)]):=af;generalize ax (ax (ax (ax M' r (.lst [.int x1,.int (c+1)])) r (.lst [.int x2,.int (c+1+1)])) r (.lst [.int x3,.int (c+1+1+1)])) r (.lst [.int x4,.int (c+1+1+1+1)])=M4 at hl4 hr4 ⊢;(try dsimp only[SD.br])
 refine cy (fun δ M'=>∃(x c' p q:Int) (o7:Option D),δ=[some (.ref r),some (.int m),some (.int 5),some (.ref l),some (.int (i:Int)),some (.tup [.int p,.int q]),some (.tup [.int e,.int f]),o7]/\M' r=some (.lst [.int x,.int c'])/\M' l=some (.lst (ws.map uw))/\0<=c'/\c'<=c+10/\(0<=p/\p<=20)/\(0<=q/\q<=20)) ?_ (fun hu=>?_);rotate_left
 ·refine⟨_,rfl,nbL rfl,fun z hz=>?_⟩;have nrz:r≠z:=av hr4 hz;have nlz:l≠z:=av hl4 hz;have hl5:(ax M4 z (.lst [])) l=some (.lst (ws.map uw)):=by rw[aj nlz];exact hl4
  have hr5:(ax M4 z (.lst [])) r=some (.lst [.int x4,.int (c+1+1+1+1)]):=by rw[aj nrz];exact hr4
  refine⟨_,_,.lst hl5 (vh ws),.lst af .nil,uz ws,rfl,_,rfl,?_⟩;rw[rh];refine b6 (fun hne=>?_) (fun hnil=>?_)
  ·have hpos:0<ws.length:=by
    cases ws with
    |nil=>simp at hne
    |cons w ws=>simp
   refine⟨_,rfl,r,3,x4,c+1+1+1+1,rfl,rfl,hr5,by omega,by omega,by decide,bG (by decide),fun x5 v5 h50 h51=>⟨trivial,_,rfl,?_⟩⟩;have hl6:(ax (ax M4 z (.lst [])) r (.lst [.int x5,.int (c+1+1+1+1+1)])) l=some (.lst (ws.map uw)):=by rw[aj nrl.symm];exact hl5
   refine b6 (fun _=>?_) (fun _=>?_)
   ·refine⟨_,rfl,_,rfl,_,rfl,_,hl6,r,((ws.map uw).length:Int),x5,c+1+1+1+1+1,rfl,rfl,af,by omega,by omega,by simpa using hpos,bG (by simp;omega),fun x6 v6 h60 h61=>?_⟩;obtain⟨w,hw,ew⟩:=za (ws:=ws) h60 (by simpa using h61);have hw5:=g3 w hw;refine⟨_,_,(by rw[aj nrl.symm];exact hl6),ew,?_⟩;refine⟨_,rfl,r,2,x6,c+1+1+1+1+1+1,rfl,rfl,af,by omega,by omega,by decide,bG (by decide),fun x7 v7 h70 h71=>?_⟩;obtain⟨a,b,ea,ha,hb⟩:=vy hw5 h70 h71;refine⟨_,ea,hu _ _ ⟨x7,_,a,b,_,rfl,af,(by rw[aj nrl.symm,aj nrl.symm];exact hl6),by omega,by omega,ha,hb⟩⟩
   ·exact hu _ _ ⟨x5,_,p,q,_,rfl,af,hl6,by omega,by omega,by omega,by omega⟩
  ·refine iA rfl ?_;exact hu _ _ ⟨x4,_,p,q,_,rfl,hr5,hl5,by omega,by omega,by omega,by omega⟩
 rintro δ M5 ⟨x5,c5,p,q,o7,rfl,hr5,hl5,k0,k1,hp,hq⟩;have he:0<=e/\e<=20:=by omega
 have hf:0<=f/\f<=20:=by omega
 refine⟨_,rfl,_,rfl,[p,q],[e,f],rfl,rfl,?_⟩;refine⟨_,rfl,_,rfl,[p,q],[e,f],rfl,rfl,nbL rfl,?_⟩;refine⟨_,rfl,_,rfl,_,_,Pd.of rfl,Pd.of rfl,rfl,rfl,_,rfl,?_⟩;rw[n8];refine b6 (fun hne=>?_) (fun _=>?_);rotate_left
 ·refine iA rfl ?_;exact⟨x5,c5,ws,_,_,_,_,rfl,hr5,hl5,k0,by omega,by omega,g3,g4⟩
 obtain⟨w,e1,e2,hw⟩:=uR hp hq he hf (fun⟨a,b⟩=>by simp[a,b]at hne);rw[e1,e2];refine⟨_,rfl,ws.map uw,hl5,?_⟩;refine⟨by simp;omega,fun z hz=>?_⟩;have nrz:r≠z:=av hr5 hz;have nlz:l≠z:=av hl5 hz;refine⟨fun j ys M'=>∃bs:List Bool,ys=bs.map D.bl/\bs.length=j/\(∀(t:Nat) (v:Wl),bs[t]?=some true->ws[t]?=some v->Fair w v)/\M'=ax M5 z (.lst ys),⟨[],rfl,rfl,fun t v h=>by simp at h,rfl⟩,?_,?_,?_⟩
 ·rintro j ys M' _ ⟨bs,_,_,_,rfl⟩;show(ax M5 z _) l=_;rw[aj nlz];exact hl5
 ·rintro j ys d M' hj hd ⟨bs,rfl,hlen,hf,rfl⟩;have hd:(ws.map uw)[j]?=some d:=hd;rw[Gr]at hd;cases ev:ws[j]? with
  |none=>rw[ev]at hd;cases hd
  |some v=>
   rw[ev]at hd
   cases hd
   refine⟨_,rfl,?_⟩
   dsimp only[SD.lT]
   refine CU ?_
   refine⟨_,rfl,_,rfl,w,v,rfl,rfl,hw,g3 v (Gu ev),fun b hb=>?_⟩
   refine⟨_,.refl,af,bs++[b],by simp,by simp[hlen],fun t v' ht hv'=>?_,by rw[bJ]⟩
   rcases Nat.lt_trichotomy t bs.length with y|y|y
   ·rw[Hy y]at ht;exact hf t v' ht hv'
   ·subst y;rw[Ht (Gq _)]at ht;have hb':b=true:=by simpa using ht
    rw[hlen,ev]at hv';cases hv';exact hb hb'
   ·rw[List.getElem?_eq_none (by simp;omega)]at ht;cases ht
 rintro ys M' ⟨bs,rfl,hlen,hf,rfl⟩;have hlen':bs.length=ws.length:=by rw[hlen];simp
 have hl6:(ax M5 z (.lst (bs.map D.bl))) l=some (.lst (ws.map uw)):=by rw[aj nlz];exact hl5
 have hr6:(ax M5 z (.lst (bs.map D.bl))) r=some (.lst [.int x5,.int c5]):=by rw[aj nrz];exact hr5
 refine⟨bs,af,_,rfl,?_⟩;refine b6 (fun hall=>?_) (fun _=>?_)
 ·refine⟨_,rfl,l,_,rfl,hl6,_,rfl,ws.map uw,_,rfl,hl6,by simp;omega,?_⟩;refine⟨x5,c5,ws++[w],_,_,_,_,rfl,by rw[aj nrl];exact hr6,by rw[af,GV];rfl,k0,by omega,by simp;omega,fun v hv=>?_,u9 g4 fun t v hv=>hf t v ?_ hv⟩
  ·rcases GY.mp hv with y|y
   ·exact g3 v y
   ·rw[HE.mp y];exact hw
  ·have ht:t<bs.length:=by rw[hlen'];exact(Gz.mp hv).1
   rw[G8 ht];have:=Hs.mp hall _ (HC ht);exact congrArg some this
 ·exact⟨x5,c5,ws,_,_,_,_,rfl,hr6,hl6,k0,by omega,by omega,g3,g4⟩
theorem eP:FnScope ["_law_at","_law_wide","_law_x","_law_y","_law_spots"] ["_law_at","_law_wide"] (aq mr):=by walk_at "sc"
inductive Cn_law_box(u v:D)(M:MH)(Q:DK):Prop
 |mk (x y w:Int) (_:u=.tup [.int x,.int y]) (_:v=.int w) (_:0<w) (_:∀(M'':MH) (l:Addr),SD.Sub M M''->M l=none->M'' l=some (.lst ((bxy x y w).map uw))->Q (.ref l) M'')
theorem iX(T:Tx K mg):Cal P w K mg base 1 "_law_box" (sD2 Cn_law_box):=by
 refine bw (k:=0) T.f_law_box eP fun f cdv A outer s H E hr=>⟨_,(ai (cv (dv 0) (bH rfl (aA (ay 2 eP.nd) (aA (ay 3 eP.nd) ba)))) (ai (az 4 eP.nd (b7 (aa (aE (aa (dv 2) (aa (dv 3) ae))) (aa (aE (aa (au aI (dv 2) (dv 1)) (aa (dv 3) ae))) (aa (aE (aa (au aI (dv 2) (dv 1)) (aa (au aI (dv 3) (dv 1)) ae))) (aa (aE (aa (dv 2) (aa (au aI (dv 3) (dv 1)) ae))) ae)))))) (ao (aB (pL (CScope.of (xs:=["_law_one","_law_other"]) (js:=[]) rfl) rfl (Bu rfl T.b_zip (aa (dv 4) (aa (au aI (oS (dv 4) (tH ag) tZ) (oS (dv 4) tZ (tH ag))) ae))) (fun _ _ _ _=>dh) (fun _ _ _ _=>(aE (aa (aO (jT rfl hr.units) rfl T.b_min nU (aa (dv 0) (aa (dv 1) ae))) (aa (aO (nW rfl hr.units) rfl T.b_max qu (aa (dv 0) (aa (dv 1) ae))) ae))))))))),fun _ _ M Q h=>?_⟩;obtain⟨x,y,w,rfl,rfl,hw,k⟩:=h;refine⟨_,rfl,_,rfl,rfl,_,_,rfl,_,_,rfl,rfl,?_⟩;refine⟨_,rfl,_,rfl,nbL rfl,_,rfl,_,rfl,_,rfl,nbL rfl,_,rfl,_,rfl,_,rfl,_,rfl,nbL rfl,_,rfl,_,rfl,_,rfl,nbL rfl,nbL rfl,fun ls hls=>?_⟩;refine⟨_,rfl,_,rfl,1,rfl,_,af,fun p1 hp1=>?_⟩;have n1:ls≠p1:=av af hp1;refine⟨_,rfl,1,rfl,_,(by rw[aj n1,af]),fun p2 hp2=>?_⟩;have n2:p1≠p2:=av af hp2;have n3:ls≠p2:=av (by rw[aj n1,af]) hp2;refine⟨_,_,(by rw[aj n2,af]),af,nbL rfl,fun p3 hp3=>?_⟩;have n4:ls≠p3:=av (by rw[aj n3,aj n1,af]) hp3;have sb:=SD.Sub.new (o:=.lst (cutD (bsp x y w) (some 1) none++cutD (bsp x y w) none (some 1))) hp3 (.new hp2 (.new hp1 (.new hls .refl)));have c1:=(show(ax (ax (ax (ax M ls (.lst (bsp x y w))) p1 (.lst (cutD (bsp x y w) (some 1) none))) p2 (.lst (cutD (bsp x y w) none (some 1)))) p3 (.lst (cutD (bsp x y w) (some 1) none++cutD (bsp x y w) none (some 1)))) ls=some (.lst (bsp x y w)) by rw[aj n4,aj n3,aj n1,af]);refine⟨ls,p3,_,[.tup [.int (x+w),.int y],.tup [.int (x+w),.int (y+w)],.tup [.int x,.int (y+w)],.tup [.int x,.int y]],rfl,c1,af,?_⟩;have c2:=(show(ax (ax (ax (ax M ls (.lst (bsp x y w))) p1 (.lst (cutD (bsp x y w) (some 1) none))) p2 (.lst (cutD (bsp x y w) none (some 1)))) p3 (.lst (cutD (bsp x y w) (some 1) none++cutD (bsp x y w) none (some 1)))) p3=some (.lst [.tup [.int (x+w),.int y],.tup [.int (x+w),.int (y+w)],.tup [.int x,.int (y+w)],.tup [.int x,.int y]])from af);refine comp_map (fun i=>(((bxy x y w).map uw)[i]?).getD .non) (nbL rfl) (fun q ys hq=>⟨by rw[aj (av c1 hq)];exact c1,by rw[aj (av c2 hq)];exact c2⟩) ?_ (fun p hp=>?_)
 ·intro i d M6 hi hd sb6;have hi:i<4:=hi;have L:∀a b c e:Int,HT.lexLt [a,b] [c,e]=decide (a<c\/(a=c/\b<e)):=fun a b c e=>by rw[ID,Ma.cF,decide_eq_true_eq]
  have G:∀a b c e:Int,HT.bN [a,b] [c,e]=decide (c<a\/(c=a/\e<b)):=fun a b c e=>by rw[Ma.mT,L]
  rcases(show i=0\/i=1\/i=2\/i=3 by omega)with rfl|rfl|rfl|rfl
  ·cases hd;refine⟨_,⟨_,rfl,rfl,rfl⟩,fun K hK=>?_⟩;refine⟨_,rfl,_,rfl,[x,y],[x+w,y],rfl,rfl,_,rfl,_,rfl,[x,y],[x+w,y],rfl,rfl,nbL rfl,?_⟩;rw[L,G,if_neg (by simp;omega),if_pos (by simp;omega)];exact hK M6 .refl
  ·cases hd;refine⟨_,⟨_,rfl,rfl,rfl⟩,fun K hK=>?_⟩;refine⟨_,rfl,_,rfl,[x+w,y],[x+w,y+w],rfl,rfl,_,rfl,_,rfl,[x+w,y],[x+w,y+w],rfl,rfl,nbL rfl,?_⟩;rw[L,G,if_neg (by simp;omega),if_pos (by simp;omega)];exact hK M6 .refl
  ·cases hd;refine⟨_,⟨_,rfl,rfl,rfl⟩,fun K hK=>?_⟩;refine⟨_,rfl,_,rfl,[x+w,y+w],[x,y+w],rfl,rfl,_,rfl,_,rfl,[x+w,y+w],[x,y+w],rfl,rfl,nbL rfl,?_⟩;rw[L,G,if_pos (by simp;omega),if_neg (by simp;omega)];exact hK M6 .refl
  ·cases hd;refine⟨_,⟨_,rfl,rfl,rfl⟩,fun K hK=>?_⟩;refine⟨_,rfl,_,rfl,[x,y+w],[x,y],rfl,rfl,_,rfl,_,rfl,[x,y+w],[x,y],rfl,rfl,nbL rfl,?_⟩;rw[L,G,if_pos (by simp;omega),if_neg (by simp;omega)];exact hK M6 .refl
 ·refine rtn (k _ p (.new hp sb) ?_ ?_)
  ·cases e:M p with
   |none=>rfl
   |some o=>exact absurd ((sb _ _ e).symm.trans hp) (by simp)
  ·rw[af];rfl
theorem eY:FnScope ["_law_row","_law_many","_law_found","_law_number"] ["_law_row","_law_many"] (aq jo):=by walk_at "sc"
inductive Cn_law_order(u v:D)(M:MH)(Q:DK):Prop
 |mk (r:Addr) (x c:Int) (n:Nat) (_:u=.ref r) (_:v=.int (n:Int)) (_:n<=40) (_:M r=some (.lst [.int x,.int c])) (_:0<=c) (_:c<2000) (_:∀(M'':MH) (x':Int) (l:Addr) (os:List Nat),r≠l->M'' r=some (.lst [.int x',.int (c+n)])->(∀a o,a≠r->M a=some o->M'' a=some o)->M l=none->M'' l=some (.lst (os.map fun o:Nat=>D.int (o:Int)))->os.Perm (GR n)->Q (.ref l) M'')
theorem pR(T:Tx K mg):Cal P w K mg base 2 "_law_order" (sD2 Cn_law_order):=by
 refine bw (k:=1) T.f_law_order eY fun f cdv A outer s H E hr=>⟨_,(ai (az 2 eY.nd (b7 ae)) (ai (d8 GO rfl rfl T.b_range (aa (dv 1) ae) (ay 3 eY.nd) (ao (cR (jv (dv 2) (aa (ak (aC T).m hr (aa (dv 0) (aa (au aI (dv 3) ag) ae))) (aa (dv 3) ae)))))) (ao (aB (dv 2))))),fun _ _ M Q h=>?_⟩;obtain⟨r,x,c,n,rfl,rfl,hn,hM,hc0,hc1,k⟩:=h;refine⟨nbL rfl,fun l hl=>?_⟩;have nr:r≠l:=av hM hl;refine⟨_,rfl,n,rfl,by omega,fun i δ M'=>∃(x':Int) (os:List Nat) (o3:Option D),δ=[some (.ref r),some (.int (n:Int)),some (.ref l),o3]/\M' r=some (.lst [.int x',.int (c+i)])/\(∀a o,a≠r->M a=some o->M' a=some o)/\M' l=some (.lst (os.map fun o:Nat=>D.int (o:Int)))/\os.Perm (GR i),⟨x,[],_,rfl,(by rw[aj nr];simpa using hM),(fun a o _ h=>by rw[aj (av h hl)];exact h),af,by simp⟩,?_,?_⟩
 ·rintro i δ M4 hi ⟨x',os,o3,rfl,hr',kp,hf',pm⟩;have hlen:os.length=i:=by rw[pm.length_eq,List.length_range]
  refine⟨_,rfl,l,_,rfl,hf',?_⟩;refine⟨_,rfl,_,rfl,r,(i:Int)+1,x',c+i,rfl,rfl,hr',by omega,by omega,by omega,bG (by omega),fun x2 v2 h20 h21=>?_⟩;obtain⟨j,rfl⟩:∃j:Nat,v2=(j:Int):=⟨v2.toNat,by omega⟩;refine⟨_,rfl,_,_,j,rfl,(by rw[aj nr.symm];exact hf'),by simp;omega,by simp;omega,?_⟩;refine⟨x2,gi os j i,_,rfl,(by rw[aj nr,af,show c+((i+1:Nat):Int)=c+(i:Int)+1 by omega]),(fun a o ha h=>?_),(by rw[af,pO]),?_⟩
  ·have na:a≠l:=av h hl;rw[aj na,aj ha];exact kp a o ha h
  ·rw[IU];exact(uS os j i).trans ((List.Perm.cons _ pm).trans (by simpa using(List.perm_append_comm (l₁:=[i]) (l₂:=GR i))))
 ·rintro δ M' ⟨x',os,o3,rfl,hr',kp,hf',pm⟩;exact⟨_,rfl,rtn (k M' x' l os nr hr' kp hl hf' pm)⟩
theorem bM:FnScope ["_law_row","_law_shuts","_law_at","_law_turn_here"] ["_law_row"] (aq mR):=by walk_at "sc"
inductive Cn_law_set(u:D)(M:MH)(Q:DK):Prop
 |mk (r:Addr) (x c:Int) (_:u=.ref r) (_:M r=some (.lst [.int x,.int c])) (_:0<=c) (_:c<1000) (_:∀(M'':MH) (x' c':Int) (l:Addr) (ws:List Wl),r≠l->M'' r=some (.lst [.int x',.int c'])->M'' l=some (.lst (ws.map uw))->0<=c'->c'<=c+100->ws.length<=19->(∀w∈ws,Un5 w)->PF ws->Q (.ref l) M'')
theorem uM(T:Tx K mg):Cal P w K mg base 3 "_law_set" (sD1 Cn_law_set):=by
 refine fm (k:=2) T.f_law_set bM fun f cdv A outer s H E hr=>⟨_,(ai (az 1 bM.nd (b7 ae)) (ai (az 2 bM.nd ag) (ai (d8 GO rfl rfl T.b_range (aa (au aI ag (ak (aC T).m hr (aa (dv 0) (aa ag ae)))) ae) (ay 3 bM.nd) (ai (az 1 bM.nd (au aI (dv 1) (ak (iX T).m hr (aa (aE (aa (dv 2) (aa (dv 2) ae))) (aa (au cE ag (au aG ag (dv 2))) ae))))) (ao (az 2 bM.nd (au aI (au aI (dv 2) ag) (ak (aC T).m hr (aa (dv 0) (aa ag ae)))))))) (ai (bF (aN (cK hr.units) (ak (aC T).m hr (aa (dv 0) (aa ag ae))) ag) (ao (az 1 bM.nd (au aI (dv 1) (ak (iX T).m hr (aa (aE (aa (au aI (dv 2) (ak (aC T).m hr (aa (dv 0) (aa ag ae)))) (aa (au aI (dv 2) (ak (aC T).m hr (aa (dv 0) (aa ag ae)))) ae))) (aa (au aI ag (ak (aC T).m hr (aa (dv 0) (aa ag ae)))) ae)))))) aP) (ai (bF (aN (cK hr.units) (ak (aC T).m hr (aa (dv 0) (aa ag ae))) ag) (ao (cR (bL (dv 1) (aa (aE (aa (aE (aa ag (aa ag ae))) (aa (aE (aa ag (aa ag ae))) ae))) ae)))) aP) (ai (d8 GO rfl rfl T.b_range (aa (ak (aC T).m hr (aa (dv 0) (aa ag ae))) ae) (ay 3 bM.nd) (ao (cR (bL (dv 1) (aa (aE (aa (aE (aa (dv 2) (aa (au aI ag (dv 3)) ae))) (aa (aE (aa (au aI (dv 2) ag) (aa (au aI ag (dv 3)) ae))) ae))) ae))))) (ai (bF (aN (cK hr.units) (ak (aC T).m hr (aa (dv 0) (aa ag ae))) ag) (ao (az 1 bM.nd (au aI (dv 1) (ak (iX T).m hr (aa (aE (aa ag (aa ag ae))) (aa ag ae)))))) aP) (ao (aB (lp (CScope.of (xs:=["_law_number"]) (js:=[1]) rfl) rfl (aU (ak (pR T).m hr (aa (dv 0) (aa (aO dP rfl T.b_len dA (aa (dv 1) ae)) ae)))) (fun _ _ _ _=>dh) (fun _ _ _ _=>(aw (dv 1) (dv 0))))))))))))),fun _ M Q h=>?_⟩;obtain⟨r,x,c,rfl,hM,hc0,hc1,k⟩:=h;have sz:1000000<=GD:=nbL rfl;have b4:∀(x y w:Int) (us:List Wl),us.length<=100->(us.map uw).length+((bxy x y w).map uw).length<=GD:=fun x y w us h=>by rw[Gx,Gx];show us.length+4<=GD;omega
 refine⟨nbL rfl,fun l0 hl0=>?_⟩;have nr0:r≠l0:=av hM hl0;have hr1:(ax M l0 (.lst [])) r=some (.lst [.int x,.int c]):=by rw[aj nr0];exact hM
 have hl1:(ax M l0 (.lst [])) l0=some (.lst (([]:List Wl).map uw)):=af;generalize ax M l0 (.lst [])=M1 at hr1 hl1 ⊢;(try dsimp only[SD.br])
 refine cy (fun δ M'=>δ=[some (.ref r),some (.ref l0),some (.int 0),none]/\M'=M1) ?_ (fun hu=>hu _ _ ⟨rfl,rfl⟩);rintro δ M' ⟨rfl,rfl⟩;refine cy (fun δ M'=>∃(l:Addr) (us:List Wl) (a x' c':Int) (o3:Option D),δ=[some (.ref r),some (.ref l),some (.int a),o3]/\M' r=some (.lst [.int x',.int c'])/\M' l=some (.lst (us.map uw))/\r≠l/\0<=c'/\c'<=c+3/\(us,a)∈nE) ?_ (fun hu=>?_);rotate_left
 ·refine⟨_,rfl,r,2,x,c,rfl,rfl,hr1,hc0,by omega,by decide,bG (by decide),fun x1 v h0 h1=>?_⟩;obtain⟨n,rfl⟩:∃n:Nat,v=(n:Int):=⟨v.toNat,by omega⟩;refine⟨1+n,by simp,by omega,fun i δ M'=>∃(l:Addr) (us:List Wl) (a x':Int) (o3:Option D),δ=[some (.ref r),some (.ref l),some (.int a),o3]/\M' r=some (.lst [.int x',.int (c+1+i)])/\M' l=some (.lst (us.map uw))/\r≠l/\((i=0/\us=[]/\a=0)\/(i=1/\us=bxy 0 0 12/\(a=1\/a=2))\/(i=2/\(us,a)∈nE)),⟨l0,[],0,x1,_,rfl,(by rw[af];simp),(by rw[aj nr0.symm];exact hl1),nr0,.inl ⟨rfl,rfl,rfl⟩⟩,?_,?_⟩
  ·rintro i δ M2 hi ⟨l,us,a,x',o3,rfl,hr2,hl2,nrl,st⟩
   have ha:0<=a/\a<=2/\us.length<=4/\i<=1:=by
    rcases st with⟨e1,e2,e3⟩|⟨e1,e2,e3⟩|⟨e1,_⟩
    ·subst e2;simp;omega
    ·subst e2;show _/\_/\4<=4/\_;omega
    ·omega
   have b64:Bd 64 a:=bG (by omega);refine⟨_,rfl,_,rfl,_,rfl,nbL rfl,_,rfl,e7 b64,trivial,a,a,12-2*a,rfl,rfl,by omega,fun M3 lb sb3 flb hlb=>?_⟩;refine⟨_,_,sb3 _ _ hl2,hlb,b4 _ _ _ us (by omega),fun l3 hl3=>?_⟩;have nr3:r≠l3:=av (sb3 _ _ hr2) hl3;refine⟨_,rfl,_,rfl,r,2,x',c+1+i,rfl,rfl,(by rw[aj nr3];exact sb3 _ _ hr2),by omega,by omega,by decide,bG (by decide),fun x2 v2 h20 h21=>?_⟩;refine⟨l3,us++bxy a a (12-2*a),a+1+v2,x2,_,rfl,(by rw[af,show c+1+((i+1:Nat):Int)=c+1+(i:Int)+1 by omega]),(by rw[aj nr3.symm,af,GV]),nr3,?_⟩;rcases st with⟨e1,rfl,rfl⟩|⟨e1,rfl,e3⟩|⟨e1,_⟩
   ·exact .inr (.inl ⟨by omega,rfl,by omega⟩)
   ·refine .inr (.inr ⟨by omega,?_⟩);rcases(show v2=0\/v2=1 by omega)with rfl|rfl<;>rcases e3 with rfl|rfl<;>simp[nE]
   ·omega
  ·rintro δ M' ⟨l,us,a,x',o3,rfl,hr2,hl2,nrl,st⟩;refine hu _ _ ⟨l,us,a,x',_,_,rfl,hr2,hl2,nrl,by omega,by omega,?_⟩;rcases st with⟨e1,_⟩|⟨e1,rfl,e3⟩|⟨e1,g⟩
   ·omega
   ·rcases e3 with rfl|rfl<;>simp[nE]
   ·exact g
 clear hr1 hl1 hl0 nr0;rintro δ M2 ⟨l,us,a,x2,c2,o3,rfl,hr2,hl2,nrl,c20,c21,gm⟩
 have ga:(1<=a/\a<=4)/\us.length<=8:=by
  have:(nE.all fun g=>decide ((1<=g.2/\g.2<=4)/\g.1.length<=8))=true:=by decide +kernel
  exact of_decide_eq_true (Hs.mp this _ gm)
 (try dsimp only[SD.br])
 refine cy (fun δ M'=>∃(l:Addr) (A:List Wl) (t1 t2 t3 x' c':Int) (o3:Option D),δ=[some (.ref r),some (.ref l),some (.int a),o3]/\M' r=some (.lst [.int x',.int c'])/\M' l=some (.lst ((us++A).map uw))/\r≠l/\0<=c'/\c'<=c+10/\(0<=t1/\t1<2)/\(0<=t2/\t2<2)/\(0<=t3/\t3<2)/\A.Sublist (bxy (a+t1) (a+t2) (1+t3))/\A.length<=4) ?_ (fun hu=>?_);rotate_left
 ·refine⟨_,rfl,r,2,x2,c2,rfl,rfl,hr2,c20,by omega,by decide,bG (by decide),fun x3 v3 h30 h31=>⟨_,rfl,?_⟩⟩;have hl3:(ax M2 r (.lst [.int x3,.int (c2+1)])) l=some (.lst (us.map uw)):=by rw[aj nrl.symm];exact hl2
  refine b6 (fun _=>?_) (fun _=>?_)
  ·refine⟨_,rfl,_,rfl,_,rfl,r,2,x3,c2+1,rfl,rfl,af,by omega,by omega,by decide,bG (by decide),fun x4 t1 h40 h41=>?_⟩;refine⟨_,rfl,_,rfl,r,2,x4,c2+1+1,rfl,rfl,af,by omega,by omega,by decide,bG (by decide),fun x5 t2 h50 h51=>⟨nbL rfl,?_⟩⟩;refine⟨_,rfl,r,2,x5,c2+1+1+1,rfl,rfl,af,by omega,by omega,by decide,bG (by decide),fun x6 t3 h60 h61=>?_⟩;refine⟨a+t1,a+t2,1+t3,rfl,rfl,by omega,fun M7 lb sb7 flb hlb=>?_⟩;have hl7:=sb7 l (.lst (us.map uw)) (by rw[aj nrl.symm,aj nrl.symm,aj nrl.symm];exact hl3);have hr7:=sb7 _ _ af;refine⟨_,_,hl7,hlb,b4 _ _ _ us (by omega),fun l8 hl8=>?_⟩;have nr8:r≠l8:=av hr7 hl8;exact hu _ _ ⟨l8,bxy (a+t1) (a+t2) (1+t3),t1,t2,t3,x6,_,_,rfl,(by rw[aj nr8];exact hr7),(by rw[af,GV]),nr8,by omega,by omega,⟨h40,h41⟩,⟨h50,h51⟩,⟨h60,h61⟩,List.Sublist.refl _,Gq _⟩
  ·exact hu _ _ ⟨l,[],0,0,0,x3,c2+1,_,rfl,af,(by rw[Ib];exact hl3),nrl,by omega,by omega,by decide,by decide,by decide,List.nil_sublist _,HR _⟩
 clear hr2 hl2 nrl;rintro δ M3 ⟨l,A,t1,t2,t3,x3,c3,o3,rfl,hr3,hl3,nrl,c30,c31,T1,T2,T3,sA,lA⟩;(try dsimp only[SD.br])
 refine cy (fun δ M'=>∃(B:List Wl) (x' c':Int),δ=[some (.ref r),some (.ref l),some (.int a),o3]/\M' r=some (.lst [.int x',.int c'])/\M' l=some (.lst (((us++A)++B).map uw))/\0<=c'/\c'<=c+11/\B.Sublist [(9,8,9,9)]/\B.length<=1) ?_ (fun hu=>?_);rotate_left
 ·refine⟨_,rfl,r,2,x3,c3,rfl,rfl,hr3,c30,by omega,by decide,bG (by decide),fun x4 v4 h40 h41=>⟨_,rfl,?_⟩⟩;have hl4:(ax M3 r (.lst [.int x4,.int (c3+1)])) l=some (.lst ((us++A).map uw)):=by rw[aj nrl.symm];exact hl3
  refine b6 (fun _=>?_) (fun _=>?_)
  ·refine⟨_,rfl,l,_,rfl,hl4,nbL rfl,nbL rfl,nbL rfl,_,_,rfl,hl4,by simp;omega,?_⟩;exact hu _ _ ⟨[(9,8,9,9)],x4,c3+1,rfl,(by rw[aj nrl,af]),(by rw[af,GV (l₂:=[(9,8,9,9)])];rfl),by omega,by omega,List.Sublist.refl _,Gq _⟩
  ·exact hu _ _ ⟨[],x4,c3+1,rfl,af,(by rw[Ib];exact hl4),by omega,by omega,List.nil_sublist _,HR _⟩
 clear hr3 hl3;rintro δ M4 ⟨B,x4,c4,rfl,hr4,hl4,c40,c41,sB,lB⟩;(try dsimp only[SD.br])
 refine cy (fun δ M'=>∃(C:List Wl) (x' c':Int) (o3:Option D),δ=[some (.ref r),some (.ref l),some (.int a),o3]/\M' r=some (.lst [.int x',.int c'])/\M' l=some (.lst ((((us++A)++B)++C).map uw))/\0<=c'/\c'<=c+12/\C.Sublist [(a,8,a+1,8),(a,9,a+1,9)]/\C.length<=2) ?_ (fun hu=>?_);rotate_left
 ·refine⟨_,rfl,r,3,x4,c4,rfl,rfl,hr4,c40,by omega,by decide,bG (by decide),fun x5 v5 h50 h51=>?_⟩;obtain⟨n,rfl⟩:∃n:Nat,v5=(n:Int):=⟨v5.toNat,by omega⟩;refine⟨n,by simp,by omega,fun i δ M'=>∃(o3:Option D),δ=[some (.ref r),some (.ref l),some (.int a),o3]/\M' r=some (.lst [.int x5,.int (c4+1)])/\M' l=some (.lst ((((us++A)++B)++([(a,8,a+1,8),(a,9,a+1,9)]:List Wl).take i).map uw)),⟨_,rfl,af,(by rw[aj nrl.symm];simpa using hl4)⟩,?_,?_⟩
  ·rintro i δ M5 hi ⟨o3,rfl,hr5,hl5⟩;refine⟨_,rfl,l,_,rfl,hl5,_,rfl,_,rfl,nbL rfl,_,rfl,_,rfl,nbL rfl,nbL rfl,_,_,rfl,hl5,by simp;omega,?_⟩;refine⟨_,rfl,(by rw[aj nrl];exact hr5),?_⟩;rw[af];rcases(show i=0\/i=1 by omega)with rfl|rfl
   ·simp[uw]
   ·simp[uw]
  ·rintro δ M5 ⟨o3,rfl,hr5,hl5⟩;exact hu _ _ ⟨_,x5,c4+1,_,rfl,hr5,hl5,by omega,by omega,List.take_sublist _ _,by simp;omega⟩
 clear hr4 hl4;rintro δ M5 ⟨C,x5,c5,o3',rfl,hr5,hl5,c50,c51,sC,lC⟩;(try dsimp only[SD.br])
 refine cy (fun δ M'=>∃(l':Addr) (E:List Wl) (x' c':Int),δ=[some (.ref r),some (.ref l'),some (.int a),o3']/\M' r=some (.lst [.int x',.int c'])/\M' l'=some (.lst (((((us++A)++B)++C)++E).map uw))/\r≠l'/\0<=c'/\c'<=c+13/\E.Sublist (bxy 12 12 2)/\E.length<=4) ?_ (fun hu=>?_);rotate_left
 ·refine⟨_,rfl,r,2,x5,c5,rfl,rfl,hr5,c50,by omega,by decide,bG (by decide),fun x6 v6 h60 h61=>⟨_,rfl,?_⟩⟩;have hl6:(ax M5 r (.lst [.int x6,.int (c5+1)])) l=some (.lst ((((us++A)++B)++C).map uw)):=by rw[aj nrl.symm];exact hl5
  refine b6 (fun _=>?_) (fun _=>?_)
  ·refine⟨_,rfl,nbL rfl,12,12,2,rfl,rfl,by decide,fun M7 lb sb7 flb hlb=>?_⟩;refine⟨_,_,sb7 _ _ hl6,hlb,b4 _ _ _ _ (by simp;omega),fun l8 hl8=>?_⟩;have nr8:r≠l8:=av (sb7 _ _ af) hl8;exact hu _ _ ⟨l8,bxy 12 12 2,x6,c5+1,rfl,(by rw[aj nr8];exact sb7 _ _ af),(by rw[af];simp only[GV]),nr8,by omega,by omega,List.Sublist.refl _,Gq _⟩
  ·exact hu _ _ ⟨l,[],x6,c5+1,rfl,af,(by rw[Ib];exact hl6),nrl,by omega,by omega,List.nil_sublist _,HR _⟩
 clear hr5 hl5 nrl;rintro δ M6 ⟨l',E,x6,c6,rfl,hr6,hl6,nrl,c60,c61,sE,lE⟩;have sub:(((((us++A)++B)++C)++E)).Sublist (mxl us a t1 t2 t3):=by unfold mxl;rw[Jo,Jo,Jo];exact(List.Sublist.refl us).append (sA.append (sB.append (sC.append sE)))
 have lv:(((((us++A)++B)++C)++E)).length<=30:=by simp;omega
 generalize ((((us++A)++B)++C)++E)=vs at hl6 sub lv;refine⟨_,rfl,_,rfl,_,hl6,r,x6,c6,vs.length,rfl,by simp,by omega,hr6,c60,by omega,fun M7 x7 lo os nro hr7 kp7 flo hlo pm=>?_⟩;have hl7:=kp7 _ _ nrl.symm hl6;have ol:os.length=vs.length:=by rw[pm.length_eq,List.length_range]
 refine⟨_,hlo,comp_map (fun i=>(((os.map fun o=>(vs[o]?).getD (0,0,0,0)).map uw)[i]?).getD .non) (by show(os.map fun o:Nat=>D.int (o:Int)).length<=1000000;rw[Gx];omega) (fun q ys hq=>by show(ax M7 q _) lo=_;rw[aj (av hlo hq)];exact hlo) ?_ (fun p hp=>?_)⟩
 ·intro i d M8 hi hd sb8;have hd:(os.map fun o:Nat=>D.int (o:Int))[i]?=some d:=hd;rw[Gr]at hd;cases eo:os[i]? with
  |none=>rw[eo]at hd;cases hd
  |some o=>
   rw[eo]at hd
   cases hd
   have ov:o<vs.length:=Hq.mp (pm.mem_iff.mp (Gu eo))
   refine⟨_,rfl,fun K hK=>?_⟩
   have hK':=hK M8 .refl
   rw[List.map_map,getD_map eo]at hK'
   refine⟨_,rfl,_,rfl,_,_,sb8 _ _ hl7,b8 (v:=uw vs[o]) (by rw[Gr,G8 ov];rfl),?_⟩
   have e:(vs[o]?).getD (0,0,0,0)=vs[o]:=by rw[G8 ov];rfl
   rw[<-e]
   exact hK'
 have e:(GR (os.map fun o:Nat=>D.int (o:Int)).length).map (fun i=>(((os.map fun o=>(vs[o]?).getD (0,0,0,0)).map uw)[i]?).getD .non)=(os.map fun o=>(vs[o]?).getD (0,0,0,0)).map uw:=by
  have:=SD.range_getD ((os.map fun o=>(vs[o]?).getD (0,0,0,0)).map uw)
  simpa using this
 dsimp only;rw[e]
 have pv:(os.map fun o=>(vs[o]?).getD (0,0,0,0)).Perm vs:=by
  refine(pm.map _).trans ?_
  have:(GR vs.length).map (fun o=>(vs[o]?).getD (0,0,0,0))=vs:=by
   apply List.ext_getElem
   ·simp
   ·intro i h1 h2;simp[h2]
  rw[this]
 obtain⟨q1,q2,q3⟩:=BZ gm T1 T2 T3 sub pv;exact rtn (k _ x7 _ p _ (av hr7 hp) (by rw[aj (av hr7 hp)];exact hr7) af (by omega) (by omega) q3 q2 q1)
theorem dr:FnScope ["_law_top","_law_bottom","_law_one","_law_other"] ["_law_top","_law_bottom"] (aq mK):=by walk_at "sc"
inductive Cn_law_low(x y:D)(M:MH)(Q:DK):Prop
 |mk (t:_) (b:_) (_:x=.int t) (_:y=.int b) (_:b≠0) (_:Bd 8000 t) (_:Bd 8000 b) (_:Q (Ma.fr (Rat.divInt t b)) M)
theorem gg(T:Tx K mg):Cal P w K mg base 1 "_law_low" (sD2 Cn_law_low):=by
 refine bw (k:=0) T.f_law_low dr fun f cdv A outer s H E hr=>⟨_,(ai (az 2 dr.nd (aO ou rfl T.b_abs nP (aa (dv 0) ae))) (ai (az 3 dr.nd (aO ou rfl T.b_abs nP (aa (dv 1) ae))) (ai (iq GO (aN (jq hr.units) (dv 3) ag) (ao (eV 2 3 rfl dr.nd (aa (dv 3) (aa (au fF (dv 2) (dv 3)) ae))))) (ai (bF (aN (fE hr.units) (dv 1) ag) (ao (az 2 dr.nd (oW g9 (dv 2)))) aP) (ao (aB (aE (aa (au gw (dv 0) (dv 2)) (aa (au gw (dv 1) (dv 2)) ae))))))))),fun _ _ M Q h=>?_⟩;obtain⟨t,b,rfl,rfl,hb,ht,hbb,q⟩:=h;refine⟨_,rfl,_,rfl,?_⟩;have hg:=Ma.eJ (t:=t) hb;have hgd:Bd 8000 ((Jg t.natAbs b.natAbs:Nat):Int):=hbb.of_le (by simpa using Nat.gcd_le_right t.natAbs (show 0<b.natAbs by omega));refine⟨fun m δ M'=>M'=M/\∃x y:Nat,δ=[some (.int t),some (.int b),some (.int x),some (.int y)]/\Jg x y=Jg t.natAbs b.natAbs/\m=y,⟨_,rfl,_,_,rfl,rfl,rfl⟩,?_⟩;rintro m δ M' ⟨rfl,x,y,rfl,hxy,hm⟩;refine⟨_,rfl,_,rfl,?_⟩;refine b6 (fun h=>?_) (fun h=>?_)
 ·have hy:(y:Int)≠0:=by simpa using h
  refine⟨_,rfl,_,rfl,_,rfl,hy,_,_,rfl,?_⟩;have hy':0<y:=by omega
  refine⟨x%y,by rw[hm];exact Nat.mod_lt _ hy',rfl,y,x%y,?_,?_,rfl⟩
  ·rw[<-Ma.sJ];rfl
  ·rw[<-hxy,Nat.gcd_comm x y,Nat.gcd_rec y x,Nat.gcd_comm]
 ·have hy:y=0:=by simpa using h
  subst hy;rw[Nat.gcd_zero_right]at hxy;subst hxy;(repeat (first|refine⟨_,rfl,?_⟩|refine⟨trivial,?_⟩|refine⟨_,_,rfl,?_⟩|refine⟨rfl,?_⟩|refine⟨nbL rfl,?_⟩))
  refine b6 (fun h=>?_) (fun h=>?_)
  ·have hneg:b<0:=by simpa using h
   obtain⟨e1,e2⟩:=Ma.tu (t:=t) hneg;refine⟨_,rfl,_,rfl,_,rfl,⟨by omega,hgd.neg⟩,_,rfl,_,rfl,⟨by omega,hgd.neg⟩,nbL rfl,?_⟩;dsimp only;rw[e1,e2];exact rtn q
  ·have hpos:0<b:=by
    have:¬b<0:=by simpa using h
    omega
   obtain⟨e1,e2⟩:=Ma.tY (t:=t) hpos;refine⟨_,rfl,_,rfl,⟨by omega,hgd⟩,_,rfl,_,rfl,⟨by omega,hgd⟩,nbL rfl,?_⟩;dsimp only;rw[e1,e2];exact rtn q
theorem cW:FnScope ["_law_scale_here","_law_unit","_law_top","_law_bottom","_law_x","_law_y"] ["_law_scale_here","_law_unit"] (aq lh):=by walk_at "sc"
inductive Cn_law_spot(s v:D)(M:MH)(Q:DK):Prop
 |mk (t b x y p q:Int) (_:s=scl t b x y) (_:v=.tup [.int p,.int q]) (_:Scl t b x y) (_:(-(10^6)<=p/\p<=10^6)) (_:(-(10^6)<=q/\q<=10^6)) (_:Q (Ma.spt (Ma.ut t b x 1 p) (Ma.ut t b y 1 q)) M)
theorem kW(T:Tx K mg):Cal P w K mg base 2 "_law_spot" (sD2 Cn_law_spot):=by
 refine bw (k:=1) T.f_law_spot cW fun f cdv A outer s H E hr=>⟨_,(ai (cv (dv 0) (bH rfl (aA (ay 2 cW.nd) (aA (ay 3 cW.nd) (aA (ay 4 cW.nd) (aA (ay 5 cW.nd) ba)))))) (ao (aB (aE (aa (ak (gg T).m hr (aa (au aI (au aG (aw (dv 1) ag) (dv 2)) (dv 4)) (aa (dv 3) ae))) (aa (ak (gg T).m hr (aa (au aI (au aG (aw (dv 1) ag) (dv 2)) (dv 5)) (aa (dv 3) ae))) ae)))))),fun _ _ M Q h=>?_⟩;obtain⟨t,b,x,y,p,q,rfl,rfl,S,hp,hq,k⟩:=h;have bt:Bd 100 t:=by have:=S.t0;have:=S.t1;show t.natAbs<2^100;omega
 have bp:∀{z:Int},(-(10^6)<=z/\z<=10^6)->Bd 64 z:=fun{z} h=>by show z.natAbs<2^64;omega
 have bb:Bd 8000 b:=by have:=S.b0;have:=S.b1;exact Bd.mono (m:=100) (by show b.natAbs<2^100;omega) (by decide)
 have big:∀{z w:Int},(-(10^6)<=z/\z<=10^6)->(-(10^30)<=w/\w<=10^30)->Bd 8000 (z*t+w):=fun{z w} h1 h2=>by
  have e1:Bd 164 (z*t):=(bp h1).mul bt
  have e2:Bd 164 w:=by show w.natAbs<2^164;omega
  exact(e1.add e2).mono (by decide)
 have hb0:b≠0:=by have:=S.b0;omega
 refine⟨_,rfl,_,rfl,rfl,_,_,rfl,_,_,rfl,_,_,rfl,_,_,rfl,rfl,?_⟩;refine⟨_,rfl,_,rfl,_,rfl,aQ (bp hp),_,rfl,_,rfl,p*t+x,b,rfl,rfl,hb0,big hp ⟨S.x0,S.x1⟩,bb,?_⟩;refine⟨_,rfl,_,rfl,_,rfl,aQ (bp hq),_,rfl,_,rfl,q*t+y,b,rfl,rfl,hb0,big hq ⟨S.y0,S.y1⟩,bb,nbL rfl,?_⟩;rw[Ma.xO,Ma.xO];exact rtn k
theorem oV:FnScope ["_law_scale_here","_law_shuts"] ["_law_scale_here","_law_shuts"] (aq jX):=by walk_at "sc"
inductive Cn_law_made(s v:D)(M:MH)(Q:DK):Prop
 |mk (t b x y:Int) (l:Addr) (ws:List (Int×Int×Int×Int)) (_:s=scl t b x y) (_:v=.ref l) (_:M l=some (.lst (ws.map uw))) (_:Scl t b x y) (_:ws.length<=1000) (_:(∀w∈ws,Uok (10^6) w)) (_:Q (.tup (ws.map (rwl t b x y))) M)
theorem qZ(T:Tx K mg):Cal P w K mg base 3 "_law_made" (sD2 Cn_law_made):=by
 refine bw (k:=2) T.f_law_made oV fun f cdv A outer s H E hr=>⟨_,(ao (aB (dq wJ rfl T.b_tuple xW (aa (pL (CScope.of (xs:=["_law_first","_law_second"]) (js:=[0]) rfl) rfl (aU (dv 1)) (fun _ _ _ _=>dh) (fun _ _ _ _=>(aE (aa (ak (kW T).m hr (aa (dv 2) (aa (dv 0) ae))) (aa (ak (kW T).m hr (aa (dv 2) (aa (dv 1) ae))) ae))))) ae)))),fun _ _ M Q h=>?_⟩;obtain⟨t,b,x,y,l,ws,rfl,rfl,hM,S,hl,hw,k⟩:=h;refine⟨_,rfl,ws.map uw,hM,comp_map (fun i=>((ws.map (rwl t b x y))[i]?).getD .non) (by simp;omega) (fun p ys hp=>?_) ?_ (fun p hp=>⟨_,af,?_⟩)⟩
 ·show(ax M p _) l=_;rw[aj (av hM hp)];exact hM
 ·intro i e M' hi he _;have he:(ws.map uw)[i]?=some e:=he;rw[Gr]at he;cases ew:ws[i]? with
  |none=>rw[ew]at he;cases he
  |some w=>
   rw[ew]at he
   cases he
   obtain⟨u1,u2,u3,u4⟩:=hw w (Gu ew)
   refine⟨_,⟨_,rfl,rfl,rfl⟩,fun K hK=>?_⟩
   have hK':=hK M' .refl
   rw[getD_map ew]at hK'
   refine⟨_,rfl,_,rfl,t,b,x,y,w.1,w.2.1,rfl,rfl,S,u1,u2,?_⟩
   exact⟨_,rfl,_,rfl,t,b,x,y,w.2.2.1,w.2.2.2,rfl,rfl,S,u3,u4,nbL rfl,hK'⟩
 ·refine⟨_,.new hp .refl,?_⟩
  have e:(GR (ws.map uw).length).map (fun i=>((ws.map (rwl t b x y))[i]?).getD .non)=ws.map (rwl t b x y):=by
   have:=SD.range_getD (ws.map (rwl t b x y))
   rw[Gx]at this ⊢
   exact this
  dsimp only;rw[e];exact k
theorem eU:FnScope ["plot","face","first","second"] ["plot","face"] (aq jr):=by walk_at "sc"
inductive Cn_face_ends(u v:D)(M:MH)(Q:DK):Prop
 |mk (t b X Y:Int) (ws:List Wl) (f:Nat) (_:u=.tup (ws.map (rwl t b X Y))) (_:v=.int (f:Int)) (_:f<2*ws.length) (_:ws.length<=1000) (_:Q (rwl t b X Y (fw ws f)) M)
theorem bW(T:Tx K mg):Cal P w K mg base 1 "face_ends" (sD2 Cn_face_ends):=by
 refine bw (k:=0) T.f_face_ends eU fun f cdv A outer s H E hr=>⟨_,(ai (cv (aw (dv 0) (au gw (dv 1) ag)) (bH rfl (aA (ay 2 eU.nd) (aA (ay 3 eU.nd) ba)))) (ao (aB (fV (aN (cK hr.units) (au fF (dv 1) ag) ag) (aE (aa (dv 2) (aa (dv 3) ae))) (aE (aa (dv 3) (aa (dv 2) ae))))))),fun _ _ M Q h=>?_⟩;obtain⟨t,b,X,Y,ws,f,rfl,rfl,hf,hlen,k⟩:=h;obtain⟨w1,w2,w3⟩:=aV (ws:=ws) (k:=((f/2:Nat):Int)) (by omega) (by omega);have ed:(f:Int).fdiv 2=((f/2:Nat):Int):=by rw[HD _ (by decide)];omega
 have em:(f:Int).fmod 2=((f%2:Nat):Int):=by rw[Int.fmod_eq_emod_of_nonneg _ (by decide)];omega
 have at1:atI (ws.map (rwl t b X Y)) ((f:Int).fdiv 2)=some (rwl t b X Y (wAt ws ((f/2:Nat):Int))):=by rw[ed];refine b8 ?_;rw[HQ]at w1;rw[Gr,w1];rfl
 refine⟨_,rfl,_,rfl,⟨by decide,bG (by decide)⟩,_,at1,?_⟩;refine⟨_,rfl,rfl,_,_,rfl,_,_,rfl,rfl,?_⟩;refine⟨_,rfl,(show(2:Int)≠0 by decide),_,rfl,?_⟩;dsimp only;rw[em];refine b6 (fun h=>?_) (fun h=>?_)
 ·have h:f%2=0:=by have:((f%2:Nat):Int)=0:=by simpa using h
                   omega
  refine⟨_,rfl,_,rfl,nbL rfl,rtn ?_⟩;unfold fw at k;rw[if_pos h]at k;exact k
 ·have h:¬f%2=0:=fun z=>by rw[z]at h;simp at h
  refine⟨_,rfl,_,rfl,nbL rfl,rtn ?_⟩;unfold fw at k;rw[if_neg h]at k;exact k
theorem cM:FnScope ["plot","leaving","face"] ["plot"] (aq eL):=by walk_at "sc"
def spk(t b X Y:Int)(p:Vc):SpK:=((Ma.ut t b X 1 p.1).num,((Ma.ut t b X 1 p.1).den:Int),(Ma.ut t b Y 1 p.2).num,((Ma.ut t b Y 1 p.2).den:Int))
theorem tG{t b X Y:Int}(ht:0<t)(hb:0<b){p q:Vc}(h:spk t b X Y p=spk t b X Y q):p=q:=by unfold spk at h;injection h with h1 h;injection h with h2 h;injection h with h3 h4;have e1:Ma.ut t b X 1 p.1=Ma.ut t b X 1 q.1:=Rat.ext h1 (by exact_mod_cast h2);have e2:Ma.ut t b Y 1 p.2=Ma.ut t b Y 1 q.2:=Rat.ext h3 (by exact_mod_cast h4);have f1:=(Ma.dz ht hb (by decide) (by decide)).mp e1;have f2:=(Ma.dz ht hb (by decide) (by decide)).mp e2;exact Prod.ext (by omega) (by omega)
def lvs(ws:List Wl)(i:Nat)(p:Vc):List Int:=((GR i).filter fun g=>decide (fa ws g=p)).map fun g:Nat=>(g:Int)
theorem p6(ws:List Wl)(i:Nat)(p:Vc):lvs ws (i+1) p=lvs ws i p++(if fa ws i=p then[(i:Int)]else[]):=by
 unfold lvs;rw[IU,List.filter_append,GV];by_cases h:fa ws i=p
 ·simp[h]
 ·simp[h]
theorem Ac(ws:List Wl)(i:Nat)(p:Vc):(lvs ws i p).length<=i:=by unfold lvs;rw[Gx];have:=List.length_filter_le (fun g=>decide (fa ws g=p)) (GR i);simpa using this
theorem xK{kvs:SpT}{k:SpK}(d:D)(h:dg kvs k=none)(j:SpK):dg (putD kvs k d) j=if j=k then some d else dg kvs j:=by
 have ha:(kvs.any fun x=>decide (x.1=k))=false:=by unfold dg at h;rw[Option.map_eq_none_iff,List.find?_eq_none]at h;rw[List.any_eq_false];exact h
 unfold putD;rw[if_neg (by rw[ha];decide)];unfold dg at *;rw[List.find?_append];by_cases e:j=k
 ·subst e;rw[if_pos rfl];rw[Option.map_eq_none_iff]at h;rw[h];simp
 ·rw[if_neg e];have:¬k=j:=fun z=>e z.symm;cases kvs.find? fun x=>decide (x.1=j)<;>simp[this]
structure Lvn(t b X Y:Int)(ws:List Wl)(i:Nat)(M M':MH)(ld:Addr)(kvs:SpT)(L:Vc->Addr):Prop where
 d:M' ld=some (dsM kvs)
 some:∀p,lvs ws i p≠[]->dg kvs (spk t b X Y p)=.some (.ref (L p))/\M' (L p)=.some (.lst ((lvs ws i p).map D.int))/\L p≠ld/\M (L p)=none
 none:∀p,lvs ws i p=[]->dg kvs (spk t b X Y p)=.none
 inj:∀p q,lvs ws i p≠[]->lvs ws i q≠[]->L p=L q->p=q
inductive Cn_faces_by_start(u:D)(M:MH)(Q:DK):Prop
 |mk (t b X Y:Int) (ws:List Wl) (_:u=.tup (ws.map (rwl t b X Y))) (_:Scl t b X Y) (_:ws.length<=40) (_:∀(M':MH) (ld:Addr) (kvs:SpT) (L:Vc->Addr),SD.Sub M M'->Lvn t b X Y ws (2*ws.length) M M' ld kvs L->Q (.ref ld) M')
theorem iM(T:Tx K mg):Cal P w K mg base 2 "faces_by_start" (sD1 Cn_faces_by_start):=by
 refine fm (k:=1) T.f_faces_by_start cM fun f cdv A outer s H E hr=>⟨_,(ai (az 1 cM.nd pU) (ai (d8 GO rfl rfl T.b_range (aa (au aG ag (aO dP rfl T.b_len dA (aa (dv 0) ae))) ae) (ay 2 cM.nd) (ao (cR (bL (yR (kY hr) (dv 1) (aa (aw (ak (bW T).m hr (aa (dv 0) (aa (dv 2) ae))) ag) (aa (b7 ae) ae))) (aa (dv 2) ae))))) (ao (aB (dv 1))))),fun _ M Q h=>?_⟩;obtain⟨t,b,X,Y,ws,rfl,S,hlen,k⟩:=h;have hwl:(ws.map (rwl t b X Y)).length=ws.length:=by simp
 refine fun ld hld=>?_;refine⟨_,rfl,aQ (bG (by decide)),2*ws.length,(by rw[hwl];simp),by omega,?_⟩;refine⟨fun i δ M'=>∃(kvs:SpT) (L:Vc->Addr) (o2:Option D),δ=[some (.tup (ws.map (rwl t b X Y))),some (.ref ld),o2]/\SD.Sub M M'/\kvs.length<=i/\Lvn t b X Y ws i M M' ld kvs L,?_,?_,?_⟩
 ·exact⟨[],fun _=>0,_,rfl,.new hld .refl,Gq _,af,fun p h=>absurd rfl h,fun p _=>rfl,fun p q h=>absurd rfl h⟩
 ·rintro i δ M' hi ⟨kvs,L,o2,rfl,sb,hk,V⟩;have hdq:∀{q:Addr} {o},M' q=none->(ax M' q o) ld=some (dsM kvs):=fun hq=>by rw[aj (av V.d hq)];exact V.d
  have lone:∀p,fa ws i≠p->lvs ws (i+1) p=lvs ws i p:=fun p h=>by rw[p6,if_neg h,Ib]
  have lthe:lvs ws (i+1) (fa ws i)=lvs ws i (fa ws i)++[(i:Int)]:=by rw[p6,if_pos rfl]
  have ll:=Ac ws i (fa ws i);refine⟨_,rfl,ld,kvs,rfl,V.d,_,rfl,_,rfl,t,b,X,Y,ws,i,rfl,rfl,hi,by omega,_,rfl,nbL rfl,fun q hq=>?_⟩;refine⟨kvs,spk t b X Y (fa ws i),.ref q,rfl,hdq hq,by omega,fun d' hd=>?_,fun hn=>?_⟩
  ·have ne:lvs ws i (fa ws i)≠[]:=fun z=>by rw[V.none _ z]at hd;cases hd
   obtain⟨v1,v2,v3,v4⟩:=V.some _ ne;rw[v1]at hd;cases hd;have c1:∀{a o},M' a=some o->(ax M' q (.lst [])) a=some o:=fun h=>by rw[aj (av h hq)];exact h
   refine⟨L (fa ws i),_,rfl,c1 v2,_,rfl,_,_,rfl,c1 v2,(by rw[Gx];omega),?_⟩;have c2:∀{a o G},M' a=some o->a≠L (fa ws i)->(ax (ax M' q (.lst [])) (L (fa ws i)) G) a=some o:=fun h n=>by rw[aj n];exact c1 h
   refine⟨kvs,L,_,rfl,fun a o h=>c2 (sb _ _ h) (fun z=>by subst z;rw[v4]at h;cases h),by omega,c2 V.d v3.symm,fun p h=>?_,fun p h=>?_,fun p p' h h' e=>?_⟩
   ·by_cases z:fa ws i=p
    ·subst z;refine⟨v1,?_,v3,v4⟩;rw[af,lthe,GV];rfl
    ·rw[lone p z]at h ⊢;obtain⟨u1,u2,u3,u4⟩:=V.some p h;exact⟨u1,c2 u2 (fun y=>z (V.inj _ _ ne h y.symm)),u3,u4⟩
   ·by_cases z:fa ws i=p
    ·subst z;rw[lthe]at h;simp at h
    ·rw[lone p z]at h;exact V.none p h
   ·have g:∀p,lvs ws (i+1) p≠[]->lvs ws i p≠[]:=fun p h=>by
     by_cases z:fa ws i=p
     ·subst z;exact ne
     ·rw[lone p z]at h;exact h
    exact V.inj p p' (g p h) (g p' h') e
  ·have em:lvs ws i (fa ws i)=[]:=by
    cases z:lvs ws i (fa ws i)with
    |nil=>rfl
    |cons x xs=>
     have:=(V.some _ (by rw[z];simp)).1
     rw[hn]at this;cases this
   have nql:q≠ld:=(av V.d hq).symm;have cq:(ax (ax M' q (.lst [])) ld (dsM (putD kvs (spk t b X Y (fa ws i)) (.ref q)))) q=some (.lst []):=by rw[aj nql,af]
   refine⟨q,[],rfl,cq,_,rfl,_,_,rfl,cq,by decide,?_⟩;have c2:∀{a o D' G},M' a=some o->a≠ld->(ax (ax (ax M' q (.lst [])) ld D') q G) a=some o:=fun h n=>by rw[aj (av h hq),aj n,aj (av h hq)];exact h
   have mq:M q=none:=by
    cases z:M q with
    |none=>rfl
    |some o=>rw[sb _ _ z]at hq;cases hq
   have vn:=fun j=>xK (.ref q) hn j;refine⟨putD kvs (spk t b X Y (fa ws i)) (.ref q),fun p=>if fa ws i=p then q else L p,_,rfl,fun a o h=>c2 (sb _ _ h) (fun z=>by subst z;rw[hld]at h;cases h),?_,(by rw[aj nql.symm,af]),fun p h=>?_,fun p h=>?_,fun p p' h h' e=>?_⟩
   ·have:(putD kvs (spk t b X Y (fa ws i)) (.ref q)).length<=kvs.length+1:=by
     unfold putD;split
     ·rw[Gx];omega
     ·simp
    omega
   ·by_cases z:fa ws i=p
    ·subst z;refine⟨by rw[vn,if_pos rfl,if_pos rfl],?_,by rw[if_pos rfl];exact nql,by rw[if_pos rfl];exact mq⟩;rw[if_pos rfl,af,lthe,em];rfl
    ·rw[lone p z]at h ⊢;obtain⟨u1,u2,u3,u4⟩:=V.some p h;rw[if_neg z];exact⟨by rw[vn,if_neg (fun y=>z (tG S.t0 S.b0 y).symm)];exact u1,c2 u2 u3,u3,u4⟩
   ·by_cases z:fa ws i=p
    ·subst z;rw[lthe]at h;simp at h
    ·rw[lone p z]at h;rw[vn,if_neg (fun y=>z (tG S.t0 S.b0 y).symm)];exact V.none p h
   ·by_cases z:fa ws i=p<;>by_cases z':fa ws i=p'
    ·rw[<-z,<-z']
    ·rw[lone p' z']at h';rw[if_pos z,if_neg z']at e;have:=(V.some p' h').2.1;rw[<-e,hq]at this;cases this
    ·rw[lone p z]at h;rw[if_neg z,if_pos z']at e;have:=(V.some p h).2.1;rw[e,hq]at this;cases this
    ·rw[lone p z]at h;rw[lone p' z']at h';rw[if_neg z,if_neg z']at e;exact V.inj p p' h h' e
 ·rintro δ M' ⟨kvs,L,o2,rfl,sb,hk,V⟩;exact⟨_,rfl,⟨M',.refl,k M' ld kvs L sb V⟩⟩
theorem Bg:FnScope ["one","other"] ["one","other"] (aq AF):=by walk_at "sc"
inductive Cn_gap(x y:D)(M:MH)(Q:DK):Prop
 |mk (t1 b1 t2 b2:Int) (_:x=.tup [.int t1,.int b1]) (_:y=.tup [.int t2,.int b2]) (_:Bd 1000000 t1) (_:Bd 1000000 b1) (_:Bd 1000000 t2) (_:Bd 1000000 b2) (_:Q (.tup [.int (t1*b2-t2*b1),.int (b1*b2)]) M)
theorem pH(T:Tx K mg):Cal P w K mg base 1 "gap" (sD2 Cn_gap):=by refine bw (k:=0) T.f_gap Bg fun f cdv A outer s H E hr=>⟨_,(ao (aB (aE (aa (au cE (au aG (aw (dv 0) ag) (aw (dv 1) ag)) (au aG (aw (dv 1) ag) (aw (dv 0) ag))) (aa (au aG (aw (dv 0) ag) (aw (dv 1) ag)) ae))))),fun _ _ M Q h=>?_⟩;obtain⟨t1,b1,t2,b2,rfl,rfl,h1,h2,h3,h4,k⟩:=h;refine⟨_,rfl,_,rfl,_,rfl,_,rfl,d6 h1 h4,_,rfl,_,rfl,_,rfl,_,rfl,d6 h3 h2,trivial,?_⟩;exact⟨_,rfl,_,rfl,_,rfl,_,rfl,d6 h2 h4,nbL rfl,rtn k⟩
theorem dm:FnScope ["wall","spot","a","b","c","d","x","y","across","up","along","high"] ["wall","spot"] (aq xF):=by walk_at "sc"
inductive Cn_lean(u v:D)(M:MH)(Q:DK):Prop
 |mk (n:Nat) (a b c d x y:Rat) (_:u=Ma.wll a b c d) (_:v=Ma.spt x y) (_:Ma.Bq n a) (_:Ma.Bq n b) (_:Ma.Bq n c) (_:Ma.Bq n d) (_:Ma.Bq n x) (_:Ma.Bq n y) (_:n<=20000) (_:∀t e:Int,0<e->Rat.divInt t e=Ma.cr a b c d x y->Bd (8*n+3) t->Bd (8*n+3) e->Q (.tup [.int t,.int e]) M)
theorem Cv(T:Tx K mg):Cal P w K mg base 2 "lean" (sD2 Cn_lean):=by
 refine bw (k:=1) T.f_lean dm fun f cdv A outer s H E hr=>⟨_,(ai (cv (dv 0) (bH rfl (aA (bH rfl (aA (ay 2 dm.nd) (aA (ay 3 dm.nd) ba))) (aA (bH rfl (aA (ay 4 dm.nd) (aA (ay 5 dm.nd) ba))) ba)))) (ai (cv (dv 1) (bH rfl (aA (ay 6 dm.nd) (aA (ay 7 dm.nd) ba)))) (ai (eV 8 9 rfl dm.nd (aa (ak (pH T).m hr (aa (dv 4) (aa (dv 2) ae))) (aa (ak (pH T).m hr (aa (dv 5) (aa (dv 3) ae))) ae))) (ai (eV 10 11 rfl dm.nd (aa (ak (pH T).m hr (aa (dv 6) (aa (dv 2) ae))) (aa (ak (pH T).m hr (aa (dv 7) (aa (dv 3) ae))) ae))) (ao (aB (ak (pH T).m hr (aa (aE (aa (au aG (aw (dv 8) ag) (aw (dv 11) ag)) (aa (au aG (aw (dv 8) ag) (aw (dv 11) ag)) ae))) (aa (aE (aa (au aG (aw (dv 9) ag) (aw (dv 10) ag)) (aa (au aG (aw (dv 9) ag) (aw (dv 10) ag)) ae))) ae))))))))),fun _ _ M Q h=>?_⟩;obtain⟨n,a,b,c,d,x,y,rfl,rfl,ha,hb,hc,hd,hx,hy,hn,k⟩:=h;have mo:∀{m:Nat} {i:Int},Bd m i->m<=1000000->Bd 1000000 i:=fun z l=>z.mono l;have q1:=hc.so ha;have q2:=hd.so hb;have q3:=hx.so ha;have q4:=hy.so hb;have e1:=hc.2.mul ha.2;have e2:=hd.2.mul hb.2;have e3:=hx.2.mul ha.2;have e4:=hy.2.mul hb.2;refine⟨_,rfl,_,rfl,rfl,_,_,rfl,⟨_,rfl,rfl,_,_,rfl,_,_,rfl,rfl,?_⟩⟩;refine⟨_,_,rfl,⟨_,rfl,rfl,_,_,rfl,_,_,rfl,rfl,?_⟩⟩;refine⟨rfl,_,rfl,_,rfl,rfl,_,_,rfl,_,_,rfl,rfl,?_⟩;refine⟨_,rfl,_,rfl,_,_,_,_,rfl,rfl,mo hc.1 (by omega),mo hc.2 (by omega),mo ha.1 (by omega),mo ha.2 (by omega),?_⟩;refine⟨_,rfl,_,rfl,_,_,_,_,rfl,rfl,mo hd.1 (by omega),mo hd.2 (by omega),mo hb.1 (by omega),mo hb.2 (by omega),?_⟩;refine⟨_,_,rfl,?_⟩;refine⟨_,rfl,_,rfl,_,_,_,_,rfl,rfl,mo hx.1 (by omega),mo hx.2 (by omega),mo ha.1 (by omega),mo ha.2 (by omega),?_⟩;refine⟨_,rfl,_,rfl,_,_,_,_,rfl,rfl,mo hy.1 (by omega),mo hy.2 (by omega),mo hb.1 (by omega),mo hb.2 (by omega),?_⟩;refine⟨_,_,rfl,?_⟩;refine⟨_,rfl,_,rfl,_,rfl,_,rfl,d6 (mo q1 (by omega)) (mo q4 (by omega)),?_⟩;refine⟨_,rfl,_,rfl,_,rfl,_,rfl,d6 (mo e1 (by omega)) (mo e4 (by omega)),nbL rfl,?_⟩;refine⟨_,rfl,_,rfl,_,rfl,_,rfl,d6 (mo q2 (by omega)) (mo q3 (by omega)),?_⟩;refine⟨_,rfl,_,rfl,_,rfl,_,rfl,d6 (mo e2 (by omega)) (mo e3 (by omega)),nbL rfl,?_⟩;refine⟨_,_,_,_,rfl,rfl,mo (q1.mul q4) (by omega),mo (e1.mul e4) (by omega),mo (q2.mul q3) (by omega),mo (e2.mul e3) (by omega),?_⟩;have pe:∀q r:Rat,0<(q.den:Int)*(r.den:Int):=fun q r=>GF (Ma.den_pos q) (Ma.den_pos r);refine rtn (k _ _ (GF (GF (pe c a) (pe y b)) (GF (pe d b) (pe x a))) (Ma.zC a b c d x y) ?_ ?_)
 ·exact((((q1.mul q4).mul (e2.mul e3)).mono (show _<=8*n+2 by omega)).sub (((q2.mul q3).mul (e1.mul e4)).mono (show _<=8*n+2 by omega)))
 ·exact((e1.mul e4).mul (e2.mul e3)).mono (by omega)
theorem kj:FnScope ["wall","spot","top"] ["wall","spot"] (aq mE):=by walk_at "sc"
inductive Cn_side_of(u v:D)(M:MH)(Q:DK):Prop
 |mk (n:Nat) (a b c d x y:Rat) (_:u=Ma.wll a b c d) (_:v=Ma.spt x y) (_:Ma.Bq n a) (_:Ma.Bq n b) (_:Ma.Bq n c) (_:Ma.Bq n d) (_:Ma.Bq n x) (_:Ma.Bq n y) (_:n<=1900) (_:Q (.int (Ma.sgn (Ma.cr a b c d x y))) M)
theorem cQ(T:Tx K mg):Cal P w K mg base 3 "side_of" (sD2 Cn_side_of):=by
 refine bw (k:=2) T.f_side_of kj fun f cdv A outer s H E hr=>⟨_,(ai (az 2 kj.nd (aw (ak (Cv T).m hr (aa (dv 0) (aa (dv 1) ae))) ag)) (ai (bF (aN (nN hr.units) (dv 2) ag) (ao (aB ag)) aP) (ai (bF (aN (fE hr.units) (dv 2) ag) (ao (aB (oW g9 ag))) aP) (ao (aB ag))))),fun _ _ M Q h=>?_⟩;obtain⟨n,a,b,c,d,x,y,rfl,rfl,ha,hb,hc,hd,hx,hy,hn,k⟩:=h;refine⟨_,rfl,_,rfl,n,a,b,c,d,x,y,rfl,rfl,ha,hb,hc,hd,hx,hy,by omega,fun t e he hte _ _=>⟨_,rfl,?_⟩⟩;rw[<-hte,Ma.Ag he]at k;refine⟨_,rfl,trivial,_,rfl,?_⟩;refine b6 (fun h=>?_) (fun h=>?_)
 ·rw[if_pos (by simpa using h)]at k;exact rtn k
 rw[if_neg (by simpa using h)]at k;refine⟨_,rfl,trivial,_,rfl,?_⟩;refine b6 (fun h=>?_) (fun h=>?_)
 ·rw[if_pos (by simpa using h)]at k;exact rtn k
 ·rw[if_neg (by simpa using h)]at k;exact rtn k
theorem cP:FnScope ["corner","came_from","one","other","turn","other_turn"] ["corner","came_from","one","other"] (aq fh):=by walk_at "sc"
inductive Cn_is_met_sooner(u v x y:D)(M:MH)(Q:DK):Prop
 |mk (t b X Y:Int) (c p q r:Vc) (_:u=Ma.spt (Ma.ut t b X 1 c.1) (Ma.ut t b Y 1 c.2)) (_:v=Ma.spt (Ma.ut t b X 1 p.1) (Ma.ut t b Y 1 p.2)) (_:x=Ma.spt (Ma.ut t b X 1 q.1) (Ma.ut t b Y 1 q.2)) (_:y=Ma.spt (Ma.ut t b X 1 r.1) (Ma.ut t b Y 1 r.2)) (_:Scl t b X Y) (_:(0<=c.1/\c.1<=20)) (_:(0<=c.2/\c.2<=20)) (_:(0<=p.1/\p.1<=20)) (_:(0<=p.2/\p.2<=20)) (_:(0<=q.1/\q.1<=20)) (_:(0<=q.2/\q.2<=20)) (_:(0<=r.1/\r.1<=20)) (_:(0<=r.2/\r.2<=20)) (_:Q (.bl (snr (p.1-c.1,p.2-c.2) (q.1-c.1,q.2-c.2) (r.1-c.1,r.2-c.2))) M)
theorem jF(T:Tx K mg):Cal P w K mg base 4 "is_met_sooner" (sD4 Cn_is_met_sooner):=by
 refine E9 (k:=3) T.f_is_met_sooner cP fun f cdv A outer s H E hr=>⟨_,(ai (az 4 cP.nd (ak (cQ T).m hr (aa (aE (aa (dv 0) (aa (dv 1) ae))) (aa (dv 2) ae)))) (ai (az 5 cP.nd (ak (cQ T).m hr (aa (aE (aa (dv 0) (aa (dv 1) ae))) (aa (dv 3) ae)))) (ai (bF (aN (jq hr.units) (dv 4) (dv 5)) (ao (aB (cZ (fE hr.units) (dv 4) (dv 5)))) aP) (ao (aB (cZ (cK hr.units) (ak (cQ T).m hr (aa (aE (aa (dv 0) (aa (dv 2) ae))) (aa (dv 3) ae))) (oW g9 ag))))))),fun _ _ _ _ M Q h=>?_⟩;obtain⟨t,b,X,Y,c,p,q,r,rfl,rfl,rfl,rfl,S,c1,c2,p1,p2,q1,q2,r1,r2,k⟩:=h;have one:(0:Int)<1/\(1:Int)<=10^6:=by decide
 have W6:∀{z:Int},(0<=z/\z<=20)->(-(10^6)<=z/\z<=10^6):=fun{z} h=>by omega
 have bx:∀{z:Int},(0<=z/\z<=20)->Ma.Bq 200 (Ma.ut t b X 1 z):=fun{z} h=>S.bx one (W6 h);have by':∀{z:Int},(0<=z/\z<=20)->Ma.Bq 200 (Ma.ut t b Y 1 z):=fun{z} h=>S.by' one (W6 h)
 have e1:=ji (X:=X) (Y:=Y) S.t0 S.b0 (c.1,c.2,p.1,p.2) q.1 q.2;have e2:=ji (X:=X) (Y:=Y) S.t0 S.b0 (c.1,c.2,p.1,p.2) r.1 r.2;have e3:=ji (X:=X) (Y:=Y) S.t0 S.b0 (c.1,c.2,q.1,q.2) r.1 r.2;have f1:sd (c.1,c.2,p.1,p.2) q.1 q.2=vc (p.1-c.1,p.2-c.2) (q.1-c.1,q.2-c.2):=rfl;have f2:sd (c.1,c.2,p.1,p.2) r.1 r.2=vc (p.1-c.1,p.2-c.2) (r.1-c.1,r.2-c.2):=rfl;have f3:sd (c.1,c.2,q.1,q.2) r.1 r.2=vc (q.1-c.1,q.2-c.2) (r.1-c.1,r.2-c.2):=rfl;rw[f1]at e1;rw[f2]at e2;rw[f3]at e3;dsimp only at e1 e2 e3;refine⟨_,rfl,_,rfl,nbL rfl,_,rfl,200,_,_,_,_,_,_,rfl,rfl,bx c1,by' c2,bx p1,by' p2,bx q1,by' q2,by decide,?_⟩;rw[e1];refine⟨_,rfl,_,rfl,nbL rfl,_,rfl,200,_,_,_,_,_,_,rfl,rfl,bx c1,by' c2,bx p1,by' p2,bx r1,by' r2,by decide,?_⟩;rw[e2];refine⟨_,rfl,_,rfl,_,rfl,?_⟩;unfold snr at k;refine b6 (fun h=>?_) (fun h=>?_)
 ·have ne:¬GS (vc (p.1-c.1,p.2-c.2) (q.1-c.1,q.2-c.2))=GS (vc (p.1-c.1,p.2-c.2) (r.1-c.1,r.2-c.2)):=fun z=>by rw[z]at h;simp at h
  rw[if_neg ne]at k;exact⟨_,rfl,_,rfl,trivial,rtn k⟩
 ·have eq:GS (vc (p.1-c.1,p.2-c.2) (q.1-c.1,q.2-c.2))=GS (vc (p.1-c.1,p.2-c.2) (r.1-c.1,r.2-c.2)):=by simpa using h
  rw[if_pos eq]at k;refine⟨_,rfl,_,rfl,nbL rfl,_,rfl,200,_,_,_,_,_,_,rfl,rfl,bx c1,by' c2,bx q1,by' q2,bx r1,by' r2,by decide,?_⟩;rw[e3];have e:decide (vc (q.1-c.1,q.2-c.2) (r.1-c.1,r.2-c.2)<0)=decide (GS (vc (q.1-c.1,q.2-c.2) (r.1-c.1,r.2-c.2))=-1):=by rw[decide_eq_decide];rcases ft (vc (q.1-c.1,q.2-c.2) (r.1-c.1,r.2-c.2))with z|z|z<;>omega
  rw[e]at k;exact rtn k
theorem bj:FnScope ["plot","leaving","face","came_from","corner","back","best","rival"] ["plot","leaving","face"] (aq gr):=by walk_at "sc"
def dU(ws:List Wl)(f j:Nat):Option Nat:=((((GR (2*ws.length)).filter fun g=>decide (fa ws g=fb ws f)).take j).filter fun g=>decide (g≠fx f)).foldl (c8 (snF ws f)) none
theorem mU(R:Nat->Nat->Bool):∀(l:List Nat) (o:Option Nat) {h:Nat},l.foldl (c8 R) o=some h->h∈l\/o=some h
 |[],o,h,e=>.inr e
 |g::l,o,h,e=>by
  rw[Ji]at e
  rcases mU R l _ e with z|z
  ·exact .inl (by simp[z])
  ·cases o with
   |none=>cases z;exact .inl (by simp)
   |some k=>
    unfold c8 at z
    dsimp only at z
    by_cases r:R g k=true
    ·rw[if_pos r]at z;cases z;exact .inl (by simp)
    ·rw[if_neg r]at z;exact .inr z
theorem rW(ws:List Wl)(f j:Nat)(h:((GR (2*ws.length)).filter fun g=>decide (fa ws g=fb ws f)).length<=j):dU ws f j=(gI ws f).foldl (c8 (snF ws f)) none:=by
 unfold dU gI vW;rw[Ih h,List.filter_filter]
 congr 1
 apply List.filter_congr;intro x _;rw[Bool.and_comm]
theorem rX{ws:List Wl}{f j h:Nat}(e:dU ws f j=some h):h∈gI ws f:=by
 unfold dU at e;rcases mU _ _ _ e with z|z
 ·have z':=GQ.mp z;have z2:=GQ.mp (List.mem_of_mem_take z'.1);exact bA.mpr ⟨by simpa using z2.1,by simpa using z2.2,by simpa using z'.2⟩
 ·cases z
inductive Cn_face_behind(u v w:D)(M:MH)(Q:DK):Prop
 |mk (t b X Y:Int) (ws:List Wl) (M0:MH) (ld:Addr) (kvs:SpT) (L:Vc->Addr) (f:Nat) (_:u=.tup (ws.map (rwl t b X Y))) (_:v=.ref ld) (_:w=.int (f:Int)) (_:Scl t b X Y) (_:ws.length<=40) (_:(∀w∈ws,Un5 w)) (_:f<2*ws.length) (_:Lvn t b X Y ws (2*ws.length) M0 M ld kvs L) (_:Q (.int (bh ws f:Int)) M)
theorem gA(T:Tx K mg):Cal P w K mg base 5 "face_behind" (sD3 Cn_face_behind):=by
 refine mQ (k:=4) T.f_face_behind bj fun f cdv A outer s H E hr=>⟨_,(ai (cv (ak (bW T).m hr (aa (dv 0) (aa (dv 2) ae))) (bH rfl (aA (ay 3 bj.nd) (aA (ay 4 bj.nd) ba)))) (ai (az 5 bj.nd (au Bv (dv 2) ag)) (ai (az 6 bj.nd (dv 5)) (ai (bV GO rfl (aU (ph (kY hr) (dv 1) (dv 4) (by intro _ _;with_unfolding_all rfl))) (ay 7 bj.nd) (ao (bF (uP (ly (aN (jq hr.units) (dv 7) (dv 5)) (hZ (uP (Fl (aN (cK hr.units) (dv 6) (dv 5)) (Bx (en (ak (jF T).m hr (aa (dv 4) (aa (dv 3) (aa (aw (ak (bW T).m hr (aa (dv 0) (aa (dv 7) ae))) ag) (aa (aw (ak (bW T).m hr (aa (dv 0) (aa (dv 6) ae))) ag) ae)))))))))))) (ao (az 6 bj.nd (dv 7))) aP))) (ao (aB (dv 6))))))),fun _ _ _ M Q h=>?_⟩;obtain⟨t,b,X,Y,ws,M0,ld,kvs,L,f,rfl,rfl,rfl,S,hlen,hU,hf,V,k⟩:=h;have exf:Builtin.bitXor (f:Int) 1=((fx f:Nat):Int):=B2 f (by omega)
 have rg:∀g:Nat,g<2*ws.length->((0<=(fa ws g).1/\(fa ws g).1<=20)/\(0<=(fa ws g).2/\(fa ws g).2<=20))/\((0<=(fb ws g).1/\(fb ws g).1<=20)/\(0<=(fb ws g).2/\(fb ws g).2<=20)):=fun g hg=>by
  obtain⟨_,_,w3⟩:=aV (ws:=ws) (k:=((g/2:Nat):Int)) (by omega) (by omega)
  have W:=hU _ w3
  unfold fa fb fw
  by_cases h:g%2=0
  ·rw[if_pos h];exact⟨⟨W.a,W.b⟩,W.c,W.d⟩
  ·rw[if_neg h];exact⟨⟨W.c,W.d⟩,W.a,W.b⟩
 have ne:lvs ws (2*ws.length) (fb ws f)≠[]:=by
  unfold lvs
  have:fx f∈(GR (2*ws.length)).filter fun g=>decide (fa ws g=fb ws f):=GQ.mpr ⟨Hq.mpr (jz hf),by simpa using ez ws f⟩
  intro z
  rw[List.map_eq_nil_iff]at z
  rw[z]at this
  cases this
 obtain⟨v1,v2,v3,v4⟩:=V.some _ ne;refine⟨_,rfl,_,rfl,t,b,X,Y,ws,f,rfl,rfl,hf,by omega,?_⟩;refine⟨_,rfl,rfl,_,_,rfl,_,_,rfl,rfl,?_⟩;refine⟨_,rfl,trivial,?_⟩;dsimp only;rw[exf];refine⟨_,rfl,?_⟩;refine⟨_,rfl,_,rfl,ld,kvs,spk t b X Y (fb ws f),_,rfl,rfl,V.d,v1,(lvs ws (2*ws.length) (fb ws f)).map D.int,v2,?_⟩;refine⟨fun j δ M'=>M'=M/\∃o7,δ=[some (.tup (ws.map (rwl t b X Y))),some (.ref ld),some (.int (f:Int)),some (Ma.spt (Ma.ut t b X 1 (fw ws f).1) (Ma.ut t b Y 1 (fw ws f).2.1)),some (Ma.spt (Ma.ut t b X 1 (fw ws f).2.2.1) (Ma.ut t b Y 1 (fw ws f).2.2.2)),some (.int ((fx f:Nat):Int)),some (.int (((dU ws f j).getD (fx f):Nat):Int)),o7],⟨rfl,_,rfl⟩,fun j δ M' _ z=>by obtain⟨rfl,_⟩:=z;exact v2,?_,?_⟩
 ·rintro j d δ M' hj hd ⟨rfl,o7,rfl⟩;have hd:((((GR (2*ws.length)).filter fun g=>decide (fa ws g=fb ws f)).map fun g:Nat=>(g:Int)).map D.int)[j]?=some d:=hd;rw[Gr,Gr]at hd;cases eg:((GR (2*ws.length)).filter fun g=>decide (fa ws g=fb ws f))[j]? with
  |none=>rw[eg]at hd;cases hd
  |some g=>
   rw[eg]at hd
   cases hd
   have hgm:=GQ.mp (Gu eg)
   have hg:g<2*ws.length:=by simpa using hgm.1
   have hga:fa ws g=fb ws f:=by simpa using hgm.2
   have nx:dU ws f (j+1)=if g=fx f then dU ws f j else c8 (snF ws f) (dU ws f j) g:=by
    unfold dU;rw[IM,eg,Option.toList_some,List.filter_append,List.foldl_append];by_cases z:g=fx f
    ·simp[z]
    ·simp[z]
   have hmem:∀h,dU ws f j=some h->h∈gI ws f:=fun h e=>rX e
   generalize dU ws f j=o at nx hmem ⊢
   by_cases z:g=fx f
   ·(try dsimp only[SD.gC,SD.dX,SD.br,SD.gV,SD.h8,SD.dO,SD.ff,SD.tBD,SD.iz])
    refine wN false false (fun K hK=>⟨_,rfl,_,rfl,_,rfl,?_⟩) (fun q=>absurd q (by decide)) (iA rfl ⟨rfl,some (.int (g:Int)),?_⟩)
    ·rw[show(!decide ((g:Int)=((fx f:Nat):Int)))=false by rw[z];simp];exact hK
    ·rw[nx,if_pos z];rfl
   ·rw[if_neg z]at nx
    have zz:(!decide ((g:Int)=((fx f:Nat):Int)))=true:=by
     have:¬((g:Int)=((fx f:Nat):Int)):=fun q=>z (by omega)
     rw[decide_eq_false this];rfl
    cases o with
    |none=>
     (try dsimp only[SD.gC,SD.dX,SD.br,SD.gV,SD.h8,SD.dO,SD.ff,SD.tBD,SD.iz])
     refine wN true true (fun K hK=>⟨_,rfl,_,rfl,_,rfl,by rw[zz];exact hK⟩) (fun _ K hK=>orT true true (fun K' hK'=>⟨_,rfl,_,rfl,_,rfl,?_⟩) (fun q=>absurd q (by decide)) hK) (rm rfl ⟨_,rfl,rfl,some (.int (g:Int)),?_⟩)
     ·rw[show decide ((((none:Option Nat).getD (fx f):Nat):Int)=((fx f:Nat):Int))=true by simp];exact hK'
     ·rw[nx];rfl
    |some h=>
     have hh:=bA.mp (hmem h rfl)
     have d1:fd ws (fx f)=((fa ws f).1-(fb ws f).1,(fa ws f).2-(fb ws f).2):=by unfold fd fa fb;rw[we];rfl
     have d2:∀g,fa ws g=fb ws f->fd ws g=((fb ws g).1-(fb ws f).1,(fb ws g).2-(fb ws f).2):=fun g e=>by rw[<-e];rfl
     have es:snF ws f g h=snr ((fa ws f).1-(fb ws f).1,(fa ws f).2-(fb ws f).2) ((fb ws g).1-(fb ws f).1,(fb ws g).2-(fb ws f).2) ((fb ws h).1-(fb ws f).1,(fb ws h).2-(fb ws f).2):=by unfold snF;rw[d1,d2 g hga,d2 h hh.2.1]
     have hne:decide ((((some h).getD (fx f):Nat):Int)=((fx f:Nat):Int))=false:=decide_eq_false (fun q=>hh.2.2 (by have q':((h:Nat):Int)=((fx f:Nat):Int):=q;omega))
     (try dsimp only[SD.gC,SD.dX,SD.br,SD.gV,SD.h8,SD.dO,SD.ff,SD.tBD,SD.iz])
     refine wN true (false||snF ws f g h) (fun K hK=>⟨_,rfl,_,rfl,_,rfl,by rw[zz];exact hK⟩) (fun _ K hK=>orT false (snF ws f g h) (fun K' hK'=>⟨_,rfl,_,rfl,_,rfl,by rw[hne];exact hK'⟩) (fun _ K' hK'=>?_) hK) ?_
     ·refine⟨_,rfl,_,rfl,_,rfl,_,rfl,t,b,X,Y,ws,g,rfl,rfl,hg,by omega,_,rfl,_,rfl,_,rfl,t,b,X,Y,ws,h,rfl,rfl,hh.1,by omega,_,rfl,t,b,X,Y,fb ws f,fa ws f,fb ws g,fb ws h,rfl,rfl,rfl,rfl,S,(rg f hf).2.1,(rg f hf).2.2,(rg f hf).1.1,(rg f hf).1.2,(rg g hg).2.1,(rg g hg).2.2,(rg h hh.1).2.1,(rg h hh.1).2.2,_,rfl,?_⟩;rw[<-es];exact hK'
     ·refine b6 (fun q=>?_) (fun q=>?_)
      ·refine⟨_,rfl,rfl,some (.int (g:Int)),?_⟩;have q:snF ws f g h=true:=by simpa using q
       have e:c8 (snF ws f) (some h) g=some g:=by unfold c8;simp[q]
       rw[nx,e];rfl
      ·refine⟨rfl,some (.int (g:Int)),?_⟩;have q:¬snF ws f g h=true:=by simpa using q
       have e:c8 (snF ws f) (some h) g=some h:=by unfold c8;simp[q]
       rw[nx,e];rfl
 ·rintro δ M' ⟨rfl,o7,rfl⟩;have e:=rW ws f ((lvs ws (2*ws.length) (fb ws f)).map D.int).length (by simp[lvs]);dsimp only;rw[e];exact⟨_,rfl,rtn k⟩
theorem c9:FnScope ["plot","leaving","face","ring","at"] ["plot","leaving","face"] (aq jy):=by walk_at "sc"
theorem sW{t b X Y:Int}{ws:List Wl}{i:Nat}{M0 M:MH}{ld:Addr}{kvs:SpT}{L:Vc->Addr}{p:Addr}{o:MO}(V:Lvn t b X Y ws i M0 M ld kvs L)(hp:M p=none):Lvn t b X Y ws i M0 (ax M p o) ld kvs L:=⟨by rw[aj (av V.d hp)];exact V.d,fun q h=>let⟨a,c,e,g⟩:=V.some q h;⟨a,by rw[aj (av c hp)];exact c,e,g⟩,V.none,V.inj⟩
inductive Cn_ring_from(u v w:D)(M:MH)(Q:DK):Prop
 |mk (t b X Y:Int) (ws:List Wl) (M0:MH) (ld:Addr) (kvs:SpT) (L:Vc->Addr) (f:Nat) (_:u=.tup (ws.map (rwl t b X Y))) (_:v=.ref ld) (_:w=.int (f:Int)) (_:Scl t b X Y) (_:ws.length<=40) (_:(∀w∈ws,Un5 w)) (_:PF ws) (_:f<2*ws.length) (_:Lvn t b X Y ws (2*ws.length) M0 M ld kvs L) (_:∀(p:Addr) (kk:Nat),M p=none->NR ws f kk->bh ws (itb ws f kk)=f->Q (.ref p) (ax M p (.lst ((rn ws f kk).map fun g:Nat=>D.int (g:Int)))))
theorem pD(T:Tx K mg):Cal P w K mg base 6 "ring_from" (sD3 Cn_ring_from):=by
 refine mQ (k:=5) T.f_ring_from c9 fun f cdv A outer s H E hr=>⟨_,(ai (az 3 c9.nd (b7 (aa (dv 2) ae))) (ai (az 4 c9.nd (ak (gA T).m hr (aa (dv 0) (aa (dv 1) (aa (dv 2) ae))))) (ai (iq GO (aN (jq hr.units) (dv 4) (dv 2)) (ai (cR (bL (dv 3) (aa (dv 4) ae))) (ao (az 4 c9.nd (ak (gA T).m hr (aa (dv 0) (aa (dv 1) (aa (dv 4) ae)))))))) (ao (aB (dv 3)))))),fun _ _ _ M Q h=>?_⟩;obtain⟨t,b,X,Y,ws,M0,ld,kvs,L,f,rfl,rfl,rfl,S,hlen,hU,hF,hf,V,k⟩:=h;refine⟨_,rfl,nbL rfl,fun p hp=>?_⟩;refine⟨_,rfl,_,rfl,_,rfl,t,b,X,Y,ws,M0,ld,kvs,L,f,rfl,rfl,rfl,S,hlen,hU,hf,sW V hp,?_⟩;refine⟨fun m δ M''=>∃kk,δ=[some (.tup (ws.map (rwl t b X Y))),some (.ref ld),some (.int (f:Int)),some (.ref p),some (.int ((itb ws f (kk+1):Nat):Int))]/\M''=ax M p (.lst ((rn ws f kk).map fun g:Nat=>D.int (g:Int)))/\NR ws f kk/\m=2*ws.length-kk,⟨_,0,rfl,rfl,zk ws f,rfl⟩,?_⟩;rintro m δ M'' ⟨kk,rfl,rfl,nr,rfl⟩;have kb:=tP hU hF hf nr;refine⟨_,rfl,_,rfl,_,rfl,?_⟩;refine b6 (fun h=>?_) (fun h=>?_)
 ·have ne:bh ws (itb ws f kk)≠f:=fun z=>by
   have:itb ws f (kk+1)=f:=z
   rw[this]at h;simp at h
  have nr':=yI hU hF hf nr ne;have kb':=tP hU hF hf nr';refine⟨_,rfl,p,_,rfl,af,_,rfl,_,_,rfl,af,(by rw[Gx,iV];omega),?_⟩;have e:ax (ax M p (.lst ((rn ws f kk).map fun g:Nat=>D.int (g:Int)))) p (.lst (((rn ws f kk).map fun g:Nat=>D.int (g:Int))++[.int ((itb ws f (kk+1):Nat):Int)]))=ax M p (.lst ((rn ws f (kk+1)).map fun g:Nat=>D.int (g:Int))):=by rw[bJ,ox,GV];rfl
  rw[e];refine⟨_,rfl,_,rfl,_,rfl,t,b,X,Y,ws,M0,ld,kvs,L,itb ws f (kk+1),rfl,rfl,rfl,S,hlen,hU,cY hU hF hf (kk+1),sW V hp,?_⟩;exact⟨2*ws.length-(kk+1),by omega,kk+1,rfl,rfl,nr',rfl⟩
 ·have eq:bh ws (itb ws f kk)=f:=by
   have:((itb ws f (kk+1):Nat):Int)=(f:Int):=by simpa using h
   have e:itb ws f (kk+1)=bh ws (itb ws f kk):=rfl
   omega
  exact⟨_,rfl,⟨_,.refl,k p kk hp nr eq⟩⟩
theorem bY:FnScope ["plot","leaving","rings","gone_along","face","ring","part"] ["plot"] (aq kS):=by walk_at "sc"
theorem zd{t b X Y:Int}{ws:List Wl}{i:Nat}{M0 M M':MH}{ld:Addr}{kvs:SpT}{L:Vc->Addr}(V:Lvn t b X Y ws i M0 M ld kvs L)(s:SD.Sub M M'):Lvn t b X Y ws i M0 M' ld kvs L:=⟨s _ _ V.d,fun q h=>let⟨a,c,e,g⟩:=V.some q h;⟨a,s _ _ c,e,g⟩,V.none,V.inj⟩
theorem lW{M M':MH}(s:SD.Sub M M'){p:Addr}(h:M' p=none):M p=none:=by
 cases z:M p with
 |none=>rfl
 |some o=>rw[s _ _ z]at h;cases h
inductive Cn_rings_of(u:D)(M:MH)(Q:DK):Prop
 |mk (t b X Y:Int) (ws:List Wl) (_:u=.tup (ws.map (rwl t b X Y))) (_:Scl t b X Y) (_:ws.length<=40) (_:(∀w∈ws,Un5 w)) (_:PF ws) (_:∀(M':MH) (lr:Addr) (ps:List Addr) (rs:List (List Nat)),SD.Sub M M'->M lr=none->M' lr=some (.lst (ps.map D.ref))->Rgs ws (2*ws.length) rs->RL M' ps rs->(∀p∈ps,p≠lr/\M p=none)->Q (.ref lr) M')
theorem rK(T:Tx K mg):Cal P w K mg base 7 "rings_of" (sD1 Cn_rings_of):=by
 refine fm (k:=6) T.f_rings_of bY fun f cdv A outer s H E hr=>⟨_,(ai (az 1 bY.nd (ak (iM T).m hr (aa (dv 0) ae))) (ai (az 2 bY.nd (b7 ae)) (ai (az 3 bY.nd yl) (ai (d8 GO rfl rfl T.b_range (aa (au aG ag (aO dP rfl T.b_len dA (aa (dv 0) ae))) ae) (ay 4 bY.nd) (ao (bF (qp (kY hr) (dv 4) (dv 3)) (ai (az 5 bY.nd (ak (pD T).m hr (aa (dv 0) (aa (dv 1) (aa (dv 4) ae))))) (ai (cR (bL (dv 2) (aa (dv 5) ae))) (ao (bV GO rfl (aU (dv 5)) (ay 6 bY.nd) (ao (xT (kY hr) (dv 3) (dv 6) jU)))))) aP))) (ao (aB (dv 2))))))),fun _ M Q h=>?_⟩;obtain⟨t,b,X,Y,ws,rfl,S,hlen,hU,hF,k⟩:=h;have hwl:(ws.map (rwl t b X Y)).length=ws.length:=by simp
 refine⟨_,rfl,t,b,X,Y,ws,rfl,S,hlen,fun M1 ld kvs L sb1 V=>?_⟩;refine⟨nbL rfl,fun lr hlr=>fun lg hlg=>?_⟩;have nlg:lg≠lr:=fun z=>by subst z;rw[af]at hlg;cases hlg
 have hlg1:M1 lg=none:=by have h:=hlg;rw[aj nlg]at h;exact h
 refine⟨_,rfl,aQ (bG (by decide)),2*ws.length,(by rw[hwl];simp),by omega,?_⟩;refine⟨fun i δ M'=>∃(ps:List Addr) (rs:List (List Nat)) (n:Nat) (Sg:Int->Bool) (o4 o5 o6:Option D),δ=[some (.tup (ws.map (rwl t b X Y))),some (.ref ld),some (.ref lr),some (.ref lg),o4,o5,o6]/\SD.Sub M1 M'/\M' lr=some (.lst (ps.map D.ref))/\M' lg=some (diM n Sg)/\ps.length<=i/\n<=i*80/\(∀g:Nat,Sg (g:Int)=decide (g∈rs.flatten))/\Rgs ws i rs/\RL M' ps rs/\∀p∈ps,p≠lr/\p≠lg/\M1 p=none,?_,?_,?_⟩
 ·exact⟨[],[],0,fun _=>false,_,_,_,rfl,.new hlg (.new hlr .refl),(by rw[aj nlg.symm,af];rfl),af,Gq _,HR _,fun g=>by simp,rfl,.nil,fun p hp=>by cases hp⟩
 ·rintro i δ M' hi ⟨ps,rs,n,Sg,o4,o5,o6,rfl,sb,hr,hg,hp1,hn1,hS,R,RLs,hps⟩;refine⟨_,rfl,_,rfl,(i:Int),lg,n,Sg,rfl,rfl,hg,_,rfl,?_⟩;rw[hS];refine b6 (fun h=>?_) (fun h=>⟨ps,rs,n,Sg,_,_,_,rfl,sb,hr,hg,by omega,by omega,hS,⟨rs,R,.inl ⟨by simpa using h,rfl⟩⟩,RLs,hps⟩);have hni:i∉rs.flatten:=by simpa using h
  refine⟨_,rfl,_,rfl,_,rfl,t,b,X,Y,ws,M,ld,kvs,L,i,rfl,rfl,rfl,S,hlen,hU,hF,hi,zd V sb,fun p kk hp nr eq=>?_⟩;have kb:=tP hU hF hi nr;have c1:∀{a o G},M' a=some o->(ax M' p G) a=some o:=fun h=>by rw[aj (av h hp)];exact h
  have plr:p≠lr:=(av hr hp).symm;have plg:p≠lg:=(av hg hp).symm;refine⟨_,rfl,lr,_,rfl,c1 hr,_,rfl,_,_,rfl,c1 hr,(by simp;omega),?_⟩;have c2:∀{a o G D'},M' a=some o->a≠lr->(ax (ax M' p G) lr D') a=some o:=fun h n=>by rw[aj n];exact c1 h
  have hg2:=c2 (G:=.lst ((rn ws i kk).map fun g:Nat=>D.int (g:Int))) (D':=.lst (ps.map D.ref++[.ref p])) hg nlg;have hp2:(ax (ax M' p (.lst ((rn ws i kk).map fun g:Nat=>D.int (g:Int)))) lr (.lst (ps.map D.ref++[.ref p]))) p=some (.lst ((rn ws i kk).map fun g:Nat=>D.int (g:Int))):=by rw[aj plr,af]
  have hr2:(ax (ax M' p (.lst ((rn ws i kk).map fun g:Nat=>D.int (g:Int)))) lr (.lst (ps.map D.ref++[.ref p]))) lr=some (.lst (ps.map D.ref++[.ref p])):=af;have c3:∀{a o},M' a=some o->a≠lr->(ax (ax M' p (.lst ((rn ws i kk).map fun g:Nat=>D.int (g:Int)))) lr (.lst (ps.map D.ref++[.ref p]))) a=some o:=fun h n=>c2 h n;clear c2;generalize ax (ax M' p (.lst ((rn ws i kk).map fun g:Nat=>D.int (g:Int)))) lr (.lst (ps.map D.ref++[.ref p]))=N2 at hg2 hp2 hr2 c3 ⊢;refine⟨_,rfl,(rn ws i kk).map fun g:Nat=>D.int (g:Int),hp2,?_⟩;refine⟨fun a δ M''=>∃(n':Nat) (S':Int->Bool) (o6:Option D),δ=[some (.tup (ws.map (rwl t b X Y))),some (.ref ld),some (.ref lr),some (.ref lg),some (.int (i:Int)),some (.ref p),o6]/\M'' lg=some (diM n' S')/\(∀c,c≠lg->M'' c=N2 c)/\n'<=n+a/\∀g:Nat,S' (g:Int)=(decide (g∈rs.flatten)||decide (g∈(rn ws i kk).take a)),⟨n,Sg,_,rfl,hg2,fun _ _=>rfl,Gq _,fun g=>by rw[hS];simp⟩,fun a δ M'' _ z=>by obtain⟨_,_,_,_,_,z,_⟩:=z;show M'' p=_;rw[z p plg];exact hp2,?_,?_⟩
  ·rintro a d δ M'' ha hd ⟨n',S',o6,rfl,h1,h2,h3,h4⟩;have ha':a<kk+1:=by have:a<((rn ws i kk).map fun g:Nat=>D.int (g:Int)).length:=ha;simpa[iV]using this
   have hd:((rn ws i kk).map fun g:Nat=>D.int (g:Int))[a]?=some d:=hd;rw[Gr]at hd;cases eg:(rn ws i kk)[a]? with
   |none=>rw[eg]at hd;cases hd
   |some g=>
    rw[eg]at hd
    cases hd
    refine⟨_,rfl,_,rfl,lg,(g:Int),n',S',rfl,rfl,h1,by omega,?_⟩
    refine⟨n'+1,_,_,rfl,af,fun c hc=>by rw[aj hc];exact h2 c hc,by omega,fun g'=>?_⟩
    rw[h4,IM,eg]
    have e:decide (((g':Nat):Int)=((g:Nat):Int))=decide (g'=g):=by rw[decide_eq_decide];omega
    rw[e]
    simp only[GY,Option.toList_some,HE,Bool.decide_or]
    cases decide (g'=g)<;>cases decide (g'∈rs.flatten)<;>simp
  ·rintro δ M'' ⟨n',S',o6,rfl,h1,h2,h3,h4⟩;have h3:n'<=n+(kk+1):=by simpa[iV]using h3
   have h4:∀g:Nat,S' (g:Int)=(decide (g∈rs.flatten)||decide (g∈(rn ws i kk).take ((rn ws i kk).map fun g:Nat=>D.int (g:Int)).length)):=h4;have et:(rn ws i kk).take ((rn ws i kk).map fun g:Nat=>D.int (g:Int)).length=rn ws i kk:=Ih (by simp);rw[et]at h4;have c4:∀{a o},M' a=some o->a≠lr->a≠lg->M'' a=some o:=fun h n n'=>by rw[h2 _ n'];exact c3 h n
   refine⟨ps++[p],rs++[rn ws i kk],n',S',_,_,_,rfl,fun a o h=>c4 (sb _ _ h) (fun z=>by subst z;rw[hlr]at h;cases h) (fun z=>by subst z;rw[hlg1]at h;cases h),(by rw[h2 lr nlg.symm,GV];exact hr2),h1,by simp;omega,by omega,fun g=>?_,⟨rs,R,.inr ⟨hni,_,⟨kk,nr,eq,rfl⟩,rfl⟩⟩,?_,fun p' hp'=>?_⟩
   ·rw[h4];simp only[List.flatten_append,GY,Jn,List.flatten_nil,Ib,Bool.decide_or]
   ·exact(RLs.mono fun q hq o e=>c4 e (hps q hq).1 (hps q hq).2.1).snoc (by rw[h2 p plg];exact hp2)
   ·rcases GY.mp hp' with z|z
    ·exact hps p' z
    ·have:p'=p:=by simpa using z
     subst this;exact⟨plr,plg,lW sb hp⟩
 ·rintro δ M' ⟨ps,rs,n,Sg,o4,o5,o6,rfl,sb,hr,hg,hp1,hn1,hS,R,RLs,hps⟩;exact⟨_,rfl,⟨M',.refl,k M' lr ps rs (SD.Sub.trans sb1 sb) (lW sb1 hlr) hr R RLs fun p hp=>⟨(hps p hp).1,lW sb1 (hps p hp).2.2⟩⟩⟩
theorem c7:FnScope ["one","other"] ["one","other"] (aq dQ):=by walk_at "sc"
inductive Cn_greatest_divisor(x y:D)(M:MH)(Q:DK):Prop
 |mk (a b:Nat) (_:x=.int (a:Int)) (_:y=.int (b:Int)) (_:Q (.int ((Jg a b:Nat):Int)) M)
theorem dH(T:Tx K mg):Cal P w K mg base 1 "greatest_divisor" (sD2 Cn_greatest_divisor):=by
 refine bw (k:=0) T.f_greatest_divisor c7 fun f cdv A outer s H E hr=>⟨_,(ai (iq GO (aN (jq hr.units) (dv 1) ag) (ao (eV 0 1 rfl c7.nd (aa (dv 1) (aa (au fF (dv 0) (dv 1)) ae))))) (ao (aB (dv 0)))),fun _ _ M Q h=>?_⟩;obtain⟨a,b,rfl,rfl,q⟩:=h;refine⟨fun m δ M'=>M'=M/\∃x y:Nat,δ=[some (.int x),some (.int y)]/\Jg x y=Jg a b/\m=y,⟨_,rfl,_,_,rfl,rfl,rfl⟩,?_⟩;rintro m δ M' ⟨rfl,x,y,rfl,hxy,hm⟩;refine⟨_,rfl,_,rfl,?_⟩;refine b6 (fun h=>?_) (fun h=>?_)
 ·have hy:(y:Int)≠0:=by simpa using h
  refine⟨_,rfl,_,rfl,_,rfl,hy,_,_,rfl,?_⟩;have hy':0<y:=by omega
  refine⟨x%y,by rw[hm];exact Nat.mod_lt _ hy',rfl,y,x%y,?_,?_,rfl⟩
  ·rw[<-Ma.sJ];rfl
  ·rw[<-hxy,Nat.gcd_comm x y,Nat.gcd_rec y x,Nat.gcd_comm]
 ·have hy:y=0:=by simpa using h
  subst hy;rw[Nat.gcd_zero_right]at hxy;subst hxy;exact⟨_,rfl,rtn q⟩
theorem cj:FnScope ["parts","common","part"] ["parts"] (aq fj):=by walk_at "sc"
inductive Cn_common_bottom(u:D)(M:MH)(Q:DK):Prop
 |mk (p:Addr) (qs:List Rat) (b:Nat) (_:u=.ref p) (_:M p=some (.lst (qs.map Ma.fr))) (_:0<b) (_:b<=10^26) (_:(∀q∈qs,q.den ∣ b)) (_:∀c:Nat,0<c->c ∣ b->(∀q∈qs,q.den ∣ c)->Q (.int (c:Int)) M)
theorem fq(T:Tx K mg):Cal P w K mg base 2 "common_bottom" (sD1 Cn_common_bottom):=by
 refine fm (k:=1) T.f_common_bottom cj fun f cdv A outer s H E hr=>⟨_,(ai (az 1 cj.nd ag) (ai (bV GO rfl (aU (dv 0)) (ay 2 cj.nd) (ao (az 1 cj.nd (au aG (au gw (dv 1) (ak (dH T).m hr (aa (dv 1) (aa (aw (dv 2) ag) ae)))) (aw (dv 2) ag))))) (ao (aB (dv 1))))),fun _ M Q h=>?_⟩;obtain⟨p,qs,b,rfl,hp,hb0,hb1,hq,k⟩:=h;refine⟨_,rfl,qs.map Ma.fr,hp,?_⟩;refine⟨fun i δ M'=>M'=M/\∃(c:Nat) (o2:Option D),δ=[some (.ref p),some (.int (c:Int)),o2]/\0<c/\c ∣ b/\∀q∈qs.take i,q.den ∣ c,⟨rfl,1,_,rfl,by decide,Nat.one_dvd _,fun q hq=>by simp at hq⟩,fun i δ M' _ z=>by obtain⟨rfl,_⟩:=z;exact hp,?_,?_⟩
 ·rintro i d δ M' hi hd ⟨rfl,c,o2,rfl,c0,cb,cq⟩;have hd:(qs.map Ma.fr)[i]?=some d:=hd;rw[Gr]at hd;cases eg:qs[i]? with
  |none=>rw[eg]at hd;cases hd
  |some q=>
   rw[eg]at hd
   cases hd
   have hqm:=Gu eg
   have g0:0<Jg c q.den:=Nat.gcd_pos_of_pos_left _ c0
   have cb':c<=b:=Nat.le_of_dvd hb0 cb
   have gle:Jg c q.den<=c:=Nat.gcd_le_left _ c0
   have bd:∀{n:Nat},n<=10^26->Bd 100 (n:Int):=fun{n} h=>by show(n:Int).natAbs<2^100;omega
   have bd2:Bd 100 ((c:Int).fdiv ((Jg c q.den:Nat):Int)):=(bd (n:=c) (by omega)).of_le (by rw[HD _ (by omega)];exact Int.natAbs_ediv_le_natAbs _ _)
   have el:(c:Int).fdiv ((Jg c q.den:Nat):Int)*(q.den:Int)=((Nat.lcm c q.den:Nat):Int):=by
    rw[HD _ (by omega),<-Int.natCast_ediv,<-Int.natCast_mul]
    congr 1
    rw[Nat.lcm,Nat.mul_comm c q.den,Nat.mul_div_assoc _ (Nat.gcd_dvd_left c q.den),Nat.mul_comm]
   refine⟨_,rfl,_,rfl,_,rfl,_,rfl,c,q.den,rfl,rfl,⟨by omega,(bd (by omega)).mono (by decide)⟩,_,rfl,_,rfl,d6 (bd2.mono (by decide)) ((bd (HF (Nat.le_of_dvd hb0 (hq q hqm)) hb1)).mono (by decide)),?_⟩
   dsimp only
   rw[el]
   refine⟨rfl,Nat.lcm c q.den,_,rfl,Nat.lcm_pos c0 q.den_pos,Nat.lcm_dvd cb (hq q hqm),fun q' hq'=>?_⟩
   rw[IM,eg]at hq'
   rcases GY.mp hq' with z|z
   ·exact Nat.dvd_trans (cq q' z) (Nat.dvd_lcm_left c q.den)
   ·have:q'=q:=by simpa using z
    subst this;exact Nat.dvd_lcm_right c q'.den
 ·rintro δ M' ⟨rfl,c,o2,rfl,c0,cb,cq⟩;exact⟨_,rfl,rtn (k c c0 cb (by have e:qs.take (qs.map Ma.fr).length=qs:=Ih (by simp);rw[<-e];exact cq))⟩
theorem pY:FnScope ["part","bottom"] ["part","bottom"] (aq lR):=by walk_at "sc"
inductive Cn_top_over(u v:D)(M:MH)(Q:DK):Prop
 |mk (q:Rat) (B:Int) (_:u=Ma.fr q) (_:v=.int B) (_:Ma.Bq 200 q) (_:0<B) (_:B<=10^26) (_:Q (.int (q.num*B.fdiv (q.den:Int))) M)
theorem e9(T:Tx K mg):Cal P w K mg base 1 "top_over" (sD2 Cn_top_over):=by
 refine bw (k:=0) T.f_top_over pY fun f cdv A outer s H E hr=>⟨_,(ao (aB (au aG (aw (dv 0) ag) (au gw (dv 1) (aw (dv 0) ag))))),fun _ _ M Q h=>?_⟩;obtain⟨q,B,rfl,rfl,hq,h0,h1,k⟩:=h;have bB:Bd 100 B:=by show B.natAbs<2^100;omega
 have dB:(B.fdiv (q.den:Int)).natAbs<=B.natAbs:=by rw[HD _ (by omega)];exact Int.natAbs_ediv_le_natAbs _ _
 exact⟨_,rfl,_,rfl,_,rfl,_,rfl,_,rfl,⟨Ma.gS q,hq.2.mono (by decide)⟩,d6 (hq.1.mono (by decide)) ((bB.of_le dB).mono (by decide)),rtn k⟩
theorem aR:FnScope ["plot","ring","ways","x_bottom","y_bottom","total","x","y","next_x","next_y"] ["plot","ring"] (aq iB):=by walk_at "sc"
theorem mN{I:ItD}{js:List Nat}{wd2:TID}{te:TD}{δ:DS}{M1:MH}{Q:DK}(c0 c1 g0 g1:Nat->D)(hn:I.n<=1000)(hC:∀p ys,M1 p=none->I.C (ax M1 p (.lst ys)))(hit:∀i d,i<I.n->I.item i=some d->d=.tup [c0 i,c1 i]) (hw:∀i M R,i<I.n->R ⟨2,fun j=>[c0 i,c1 i][j]?,fun M=>BW M (.tup [c0 i,c1 i]) [c0 i,c1 i]⟩ M->wd2 (cδ [some (.tup [c0 i,c1 i]),none] js δ) M R) (h0:∀i M (K:DK),i<I.n->K (g0 i) M->te (cδ [some (.tup [c0 i,c1 i]),some (c0 i)] js δ) M K) (h1:∀i M (K:DK),i<I.n->K (g1 i) M->te (cδ [some (.tup [c0 i,c1 i]),some (c1 i)] js δ) M K) (hq:∀p,M1 p=none->Q (.ref p) (ax M1 p (.lst ((GR I.n).flatMap fun i=>[g0 i,g1 i])))):DZ I js wd2 te δ M1 Q:=by
 refine⟨hn,fun p hp=>⟨fun i ys M=>ys=(GR i).flatMap (fun i=>[g0 i,g1 i])/\M=ax M1 p (.lst ys),⟨rfl,rfl⟩,?_,?_,?_⟩⟩
 ·rintro i ys M _ ⟨_,rfl⟩;exact hC p ys hp
 ·rintro i ys d M hi hd ⟨rfl,rfl⟩;obtain rfl:=hit i d hi hd;refine hw i _ _ hi ⟨nbL rfl,fun j zs M=>zs=(GR i).flatMap (fun i=>[g0 i,g1 i])++[g0 i,g1 i].take j/\M=ax M1 p (.lst zs),⟨by simp,rfl⟩,fun _ _ _ _ _=>rfl,?_,?_⟩
  ·rintro j zs e M hj he ⟨rfl,rfl⟩;have hj:j<2:=hj;have he:[c0 i,c1 i][j]?=some e:=he;rcases(show j=0\/j=1 by omega)with rfl|rfl
   ·cases he;exact h0 i _ _ hi ⟨_,.refl,af,by simp,by rw[bJ]⟩
   ·cases he;exact h1 i _ _ hi ⟨_,.refl,af,by simp,by rw[bJ]⟩
  ·rintro zs M ⟨rfl,rfl⟩;refine⟨?_,rfl⟩;rw[IU,List.flatMap_append];simp
 ·rintro ys M ⟨rfl,rfl⟩;exact hq p hp
inductive Cn_twice_area(u v:D)(M:MH)(Q:DK):Prop
 |mk (t b X Y:Int) (ws:List Wl) (p:Addr) (r:List Nat) (_:u=.tup (ws.map (rwl t b X Y))) (_:v=.ref p) (_:M p=some (.lst (r.map fun g:Nat=>D.int (g:Int)))) (_:Scl t b X Y) (_:(∀w∈ws,Un5 w)) (_:ws.length<=40) (_:r.length<=80) (_:(∀g∈r,g<2*ws.length)) (_:∀tot B:Int,0<B->B<=10^52->Bd 1000 tot->(tot:Rat)=(r.map (arT t b X Y ws)).sum*(B:Rat)->Q (.tup [.int tot,.int B]) M)
theorem nQ(T:Tx K mg):Cal P w K mg base 3 "twice_area" (sD2 Cn_twice_area):=by
 refine bw (k:=2) T.f_twice_area aR fun f cdv A outer s H E hr=>⟨_,(ai (ic 2 aR.nd (CScope.of (xs:=["face"]) (js:=[0]) rfl) rfl (aU (dv 1)) (fun _ _ _ _=>dh) (fun _ _ _ _=>(ak (bW T).m hr (aa (dv 1) (aa (dv 0) ae))))) (ai (az 3 aR.nd (ak (fq T).m hr (aa (wW (CScope.of (xs:=["way","corner"]) (js:=[]) rfl) rfl (aU (dv 2)) (fun _ _ _ _=>(aU (dv 0))) (fun _ _ _ _=>(aw (dv 1) ag))) ae))) (ai (az 4 aR.nd (ak (fq T).m hr (aa (wW (CScope.of (xs:=["way","corner"]) (js:=[]) rfl) rfl (aU (dv 2)) (fun _ _ _ _=>(aU (dv 0))) (fun _ _ _ _=>(aw (dv 1) ag))) ae))) (ai (az 5 aR.nd ag) (ai (bV GO rfl (aU (dv 2)) (bH rfl (aA (bH rfl (aA (ay 6 aR.nd) (aA (ay 7 aR.nd) ba))) (aA (bH rfl (aA (ay 8 aR.nd) (aA (ay 9 aR.nd) ba))) ba))) (ai (vB 5 aR.nd CY (au aG (ak (e9 T).m hr (aa (dv 6) (aa (dv 3) ae))) (ak (e9 T).m hr (aa (dv 9) (aa (dv 4) ae))))) (ao (vB 5 aR.nd Br (au aG (ak (e9 T).m hr (aa (dv 8) (aa (dv 3) ae))) (ak (e9 T).m hr (aa (dv 7) (aa (dv 4) ae)))))))) (ao (aB (aE (aa (dv 5) (aa (au aG (dv 3) (dv 4)) ae)))))))))),fun _ _ M Q h=>?_⟩;obtain⟨t,b,X,Y,ws,p,r,rfl,rfl,hp,S,hU,hlen,hrl,hr,k⟩:=h;refine⟨_,rfl,_,hp,comp_map (fun j=>rwl t b X Y (fw ws ((r[j]?).getD 0))) (by show(r.map fun g:Nat=>D.int (g:Int)).length<=1000000;simp;omega) (fun q ys hq=>by show(ax M q _) p=_;rw[aj (av hp hq)];exact hp) ?_ (fun pw hpw=>?_)⟩
 ·intro j d M6 hj hd sb;have hd:(r.map fun g:Nat=>D.int (g:Int))[j]?=some d:=hd;rw[Gr]at hd;cases eg:r[j]? with
  |none=>rw[eg]at hd;cases hd
  |some g=>
   rw[eg]at hd
   cases hd
   exact⟨_,rfl,fun K hK=>⟨_,rfl,_,rfl,t,b,X,Y,ws,g,rfl,rfl,hr g (Gu eg),by omega,hK _ .refl⟩⟩
 have e1:(GR (r.map fun g:Nat=>D.int (g:Int)).length).map (fun j=>rwl t b X Y (fw ws ((r[j]?).getD 0)))=r.map fun g=>rwl t b X Y (fw ws g):=by
  rw[Gx];apply List.ext_getElem
  ·simp
  ·intro i h1 h2;simp at h1;simp[h1]
 dsimp only;rw[e1];have hw1:(ax M pw (.lst (r.map fun g=>rwl t b X Y (fw ws g)))) pw=some (.lst (r.map fun g=>rwl t b X Y (fw ws g))):=af;have sbM:SD.Sub M (ax M pw (.lst (r.map fun g=>rwl t b X Y (fw ws g)))):=.new hpw .refl;generalize ax M pw (.lst (r.map fun g=>rwl t b X Y (fw ws g)))=M1 at hw1 sbM ⊢;have hil:(r.map fun g=>rwl t b X Y (fw ws g)).length=r.length:=by simp
 refine⟨_,rfl,_,hw1,mN (fun i=>Ma.spt (Ma.ut t b X 1 (fa ws ((r[i]?).getD 0)).1) (Ma.ut t b Y 1 (fa ws ((r[i]?).getD 0)).2)) (fun i=>Ma.spt (Ma.ut t b X 1 (fb ws ((r[i]?).getD 0)).1) (Ma.ut t b Y 1 (fb ws ((r[i]?).getD 0)).2)) (fun i=>Ma.fr (Ma.ut t b X 1 (fa ws ((r[i]?).getD 0)).1)) (fun i=>Ma.fr (Ma.ut t b X 1 (fb ws ((r[i]?).getD 0)).1)) (by show(r.map fun g=>rwl t b X Y (fw ws g)).length<=1000;omega) (fun q ys hq=>by show(ax M1 q _) pw=_;rw[aj (av hw1 hq)];exact hw1) (fun i d hi hd=>?_) (fun i M R hi h=>⟨_,rfl,_,rfl,h⟩) (fun i M K hi h=>⟨_,rfl,_,rfl,h⟩) (fun i M K hi h=>⟨_,rfl,_,rfl,h⟩) (fun px hpx=>?_)⟩
 ·have hd:(r.map fun g=>rwl t b X Y (fw ws g))[i]?=some d:=hd;rw[Gr]at hd;cases eg:r[i]? with
  |none=>rw[eg]at hd;cases hd
  |some g=>
   rw[eg]at hd
   cases hd
   rfl
 obtain⟨bn,rfl⟩:∃bn:Nat,b=(bn:Int):=⟨b.toNat,by have:=S.b0;omega⟩;have hb0:0<bn:=by have:=S.b0;omega
 have dv:∀(Z x:Int),(Ma.ut t (bn:Int) Z 1 x).den ∣ bn:=fun Z x=>by
  have h:=yE (n:=x*t+Z*1) (d:=(bn:Int)*1) (by omega)
  rw[Int.mul_one (bn:Int)]at h
  unfold Ma.ut
  rw[Int.mul_one (bn:Int)]
  exact Int.ofNat_dvd.mp h
 have eX:∀(Z:Int) (φ:Vc->Int) (n:Nat),((GR n).flatMap fun i=>[Ma.fr (Ma.ut t (bn:Int) Z 1 (φ (fa ws ((r[i]?).getD 0)))),Ma.fr (Ma.ut t (bn:Int) Z 1 (φ (fb ws ((r[i]?).getD 0))))])=((GR n).flatMap fun i=>[Ma.ut t (bn:Int) Z 1 (φ (fa ws ((r[i]?).getD 0))),Ma.ut t (bn:Int) Z 1 (φ (fb ws ((r[i]?).getD 0)))]).map Ma.fr:=fun Z φ n=>by rw[List.map_flatMap];rfl
 have memX:∀(Z:Int) (φ:Vc->Int) (n:Nat) (q:Rat),q∈((GR n).flatMap fun i=>[Ma.ut t (bn:Int) Z 1 (φ (fa ws ((r[i]?).getD 0))),Ma.ut t (bn:Int) Z 1 (φ (fb ws ((r[i]?).getD 0)))])->q.den ∣ bn:=fun Z φ n q hq=>by
  obtain⟨i,_,hi⟩:=List.mem_flatMap.mp hq;rcases Hf.mp hi with z|z
  ·rw[z];exact dv _ _
  ·rw[show q=_ from by simpa using z];exact dv _ _
 have useX:∀(Z:Int) (φ:Vc->Int) (c:Nat),(∀q∈((GR r.length).flatMap fun i=>[Ma.ut t (bn:Int) Z 1 (φ (fa ws ((r[i]?).getD 0))),Ma.ut t (bn:Int) Z 1 (φ (fb ws ((r[i]?).getD 0)))]),q.den ∣ c)->∀(i g:Nat),r[i]?=some g->(Ma.ut t (bn:Int) Z 1 (φ (fa ws g))).den ∣ c/\(Ma.ut t (bn:Int) Z 1 (φ (fb ws g))).den ∣ c:=fun Z φ c h i g eg=>by
  have hi:i<r.length:=(Gz.mp eg).1
  refine⟨h _ (List.mem_flatMap.mpr ⟨i,Hq.mpr hi,?_⟩),h _ (List.mem_flatMap.mpr ⟨i,Hq.mpr hi,?_⟩)⟩
  ·rw[eg];simp
  ·rw[eg];simp
 have hbb:bn<=10^26:=by have:=S.b1;omega
 refine⟨px,_,bn,rfl,(by rw[af];dsimp only;rw[hil];exact congrArg (fun z=>some (MO.lst z)) (eX X (fun v=>v.1) r.length)),hb0,hbb,memX X (fun v=>v.1) _,fun xb xb0 xbd xbq=>?_⟩;have hw2:∀{o},(ax M1 px o) pw=some (.lst (r.map fun g=>rwl t (bn:Int) X Y (fw ws g))):=fun{o}=>by rw[aj (av hw1 hpx)];exact hw1
 have sb2:∀{o},SD.Sub M (ax M1 px o):=fun{o}=>.new hpx sbM;refine⟨_,rfl,_,hw2,mN (fun i=>Ma.spt (Ma.ut t (bn:Int) X 1 (fa ws ((r[i]?).getD 0)).1) (Ma.ut t (bn:Int) Y 1 (fa ws ((r[i]?).getD 0)).2)) (fun i=>Ma.spt (Ma.ut t (bn:Int) X 1 (fb ws ((r[i]?).getD 0)).1) (Ma.ut t (bn:Int) Y 1 (fb ws ((r[i]?).getD 0)).2)) (fun i=>Ma.fr (Ma.ut t (bn:Int) Y 1 (fa ws ((r[i]?).getD 0)).2)) (fun i=>Ma.fr (Ma.ut t (bn:Int) Y 1 (fb ws ((r[i]?).getD 0)).2)) (by show(r.map fun g=>rwl t (bn:Int) X Y (fw ws g)).length<=1000;omega) (fun q ys hq=>by show(ax _ q _) pw=_;rw[aj (av hw2 hq)];exact hw2) (fun i d hi hd=>?_) (fun i M R hi h=>⟨_,rfl,_,rfl,h⟩) (fun i M K hi h=>⟨_,rfl,_,rfl,h⟩) (fun i M K hi h=>⟨_,rfl,_,rfl,h⟩) (fun py hpy=>?_)⟩
 ·have hd:(r.map fun g=>rwl t (bn:Int) X Y (fw ws g))[i]?=some d:=hd;rw[Gr]at hd;cases eg:r[i]? with
  |none=>rw[eg]at hd;cases hd
  |some g=>
   rw[eg]at hd
   cases hd
   rfl
 refine⟨py,_,bn,rfl,(by rw[af];dsimp only;rw[hil];exact congrArg (fun z=>some (MO.lst z)) (eX Y (fun v=>v.2) r.length)),hb0,hbb,memX Y (fun v=>v.2) _,fun yb yb0 ybd ybq=>?_⟩;have ux:=useX X (fun v=>v.1) xb xbq;have uy:=useX Y (fun v=>v.2) yb ybq;have hw3:∀{o o'},py≠pw->(ax (ax M1 px o) py o') pw=some (.lst (r.map fun g=>rwl t (bn:Int) X Y (fw ws g))):=fun ne=>by rw[aj ne.symm];exact hw2
 have npy:py≠pw:=(av hw2 hpy).symm;refine⟨_,rfl,_,hw3 npy,?_⟩;have sb3:=SD.Sub.new (o:=MO.lst ((GR (r.map fun g=>rwl t (bn:Int) X Y (fw ws g)).length).flatMap fun i=>[Ma.fr (Ma.ut t (bn:Int) Y 1 (fa ws ((r[i]?).getD 0)).2),Ma.fr (Ma.ut t (bn:Int) Y 1 (fb ws ((r[i]?).getD 0)).2)])) hpy sb2;dsimp only at sb3 ⊢;have hw4:=hw3 (o:=MO.lst ((GR (r.map fun g=>rwl t (bn:Int) X Y (fw ws g)).length).flatMap fun i=>[Ma.fr (Ma.ut t (bn:Int) X 1 (fa ws ((r[i]?).getD 0)).1),Ma.fr (Ma.ut t (bn:Int) X 1 (fb ws ((r[i]?).getD 0)).1)])) (o':=MO.lst ((GR (r.map fun g=>rwl t (bn:Int) X Y (fw ws g)).length).flatMap fun i=>[Ma.fr (Ma.ut t (bn:Int) Y 1 (fa ws ((r[i]?).getD 0)).2),Ma.fr (Ma.ut t (bn:Int) Y 1 (fb ws ((r[i]?).getD 0)).2)])) npy;generalize ax (ax M1 px (MO.lst ((GR (r.map fun g=>rwl t (bn:Int) X Y (fw ws g)).length).flatMap fun i=>[Ma.fr (Ma.ut t (bn:Int) X 1 (fa ws ((r[i]?).getD 0)).1),Ma.fr (Ma.ut t (bn:Int) X 1 (fb ws ((r[i]?).getD 0)).1)]))) py (MO.lst ((GR (r.map fun g=>rwl t (bn:Int) X Y (fw ws g)).length).flatMap fun i=>[Ma.fr (Ma.ut t (bn:Int) Y 1 (fa ws ((r[i]?).getD 0)).2),Ma.fr (Ma.ut t (bn:Int) Y 1 (fb ws ((r[i]?).getD 0)).2)]))=M3 at sb3 hw4 ⊢;have hx1:(0:Int)<(xb:Int)/\(xb:Int)<=10^26:=by have:=Nat.le_of_dvd hb0 xbd;omega
 have hy1:(0:Int)<(yb:Int)/\(yb:Int)<=10^26:=by have:=Nat.le_of_dvd hb0 ybd;omega
 refine⟨fun i δ M'=>M'=M3/\∃(tot:Int) (o6 o7 o8 o9:Option D),δ=[some (.tup (ws.map (rwl t (bn:Int) X Y))),some (.ref p),some (.ref pw),some (.int (xb:Int)),some (.int (yb:Int)),some (.int tot),o6,o7,o8,o9]/\(tot:Rat)=((r.take i).map (arT t (bn:Int) X Y ws)).sum*(((xb:Int)*(yb:Int):Int):Rat)/\Bd (600+2*i) tot,⟨rfl,0,_,_,_,_,rfl,(by simp),(by show(0:Int).natAbs<2^(600+2*0);decide)⟩,fun i δ M' _ z=>by obtain⟨rfl,_⟩:=z;exact hw4,?_,?_⟩
 ·rintro i d δ M' hi hd ⟨rfl,tot,o6,o7,o8,o9,rfl,et,bt⟩;have hd:(r.map fun g=>rwl t (bn:Int) X Y (fw ws g))[i]?=some d:=hd;rw[Gr]at hd;cases eg:r[i]? with
  |none=>rw[eg]at hd;cases hd
  |some g=>
   rw[eg]at hd
   cases hd
   have hg:=hr g (Gu eg)
   obtain⟨_,_,w3⟩:=aV (ws:=ws) (k:=((g/2:Nat):Int)) (by omega) (by omega)
   have W:=hU _ w3
   have W6:∀{z:Int},(0<=z/\z<=20)->(-(10^6)<=z/\z<=10^6):=fun{z} h=>by omega
   have one:(0:Int)<1/\(1:Int)<=10^6:=by decide
   have rg:((0<=(fa ws g).1/\(fa ws g).1<=20)/\(0<=(fa ws g).2/\(fa ws g).2<=20))/\((0<=(fb ws g).1/\(fb ws g).1<=20)/\(0<=(fb ws g).2/\(fb ws g).2<=20)):=by
    unfold fa fb fw;by_cases h:g%2=0
    ·rw[if_pos h];exact⟨⟨W.a,W.b⟩,W.c,W.d⟩
    ·rw[if_neg h];exact⟨⟨W.c,W.d⟩,W.a,W.b⟩
   have bxa:Ma.Bq 200 (Ma.ut t (bn:Int) X 1 (fa ws g).1):=S.bx one (W6 rg.1.1)
   have bya:Ma.Bq 200 (Ma.ut t (bn:Int) Y 1 (fa ws g).2):=S.by' one (W6 rg.1.2)
   have bxb:Ma.Bq 200 (Ma.ut t (bn:Int) X 1 (fb ws g).1):=S.bx one (W6 rg.2.1)
   have byb:Ma.Bq 200 (Ma.ut t (bn:Int) Y 1 (fb ws g).2):=S.by' one (W6 rg.2.2)
   have tb:∀{q:Rat} {B:Int},Ma.Bq 200 q->0<B->B<=10^26->Bd 300 (q.num*B.fdiv (q.den:Int)):=fun{q B} h h0 h1=>by
    have bB:Bd 100 B:=by show B.natAbs<2^100;omega
    have dB:(B.fdiv (q.den:Int)).natAbs<=B.natAbs:=by rw[HD _ (by omega)];exact Int.natAbs_ediv_le_natAbs _ _
    exact h.1.mul (bB.of_le dB)
   have m6:∀{z:Int},Bd 300 z->Bd 1000000 z:=fun h=>h.mono (by decide)
   refine⟨_,rfl,rfl,_,_,rfl,_,rfl,rfl,_,_,rfl,_,_,rfl,rfl,_,_,rfl,_,rfl,rfl,_,_,rfl,_,_,rfl,rfl,rfl,?_⟩
   refine⟨tot,rfl,_,rfl,_,rfl,Ma.ut t (bn:Int) X 1 (fa ws g).1,(xb:Int),rfl,rfl,bxa,hx1.1,hx1.2,_,rfl,_,rfl,Ma.ut t (bn:Int) Y 1 (fb ws g).2,(yb:Int),rfl,rfl,byb,hy1.1,hy1.2,d6 (m6 (tb bxa hx1.1 hx1.2)) (m6 (tb byb hy1.1 hy1.2)),_,rfl,?_⟩
   refine⟨_,rfl,_,rfl,_,rfl,Ma.ut t (bn:Int) X 1 (fb ws g).1,(xb:Int),rfl,rfl,bxb,hx1.1,hx1.2,_,rfl,_,rfl,Ma.ut t (bn:Int) Y 1 (fa ws g).2,(yb:Int),rfl,rfl,bya,hy1.1,hy1.2,d6 (m6 (tb bxb hx1.1 hx1.2)) (m6 (tb bya hy1.1 hy1.2)),_,rfl,?_⟩
   refine⟨rfl,_,_,_,_,_,rfl,?_,?_⟩
   ·rw[IM,eg,Option.toList_some,GV,List.sum_append];have ex:=ux i g eg;have ey:=uy i g eg;have t1:=tJ (Ma.ut t (bn:Int) X 1 (fa ws g).1) (xb:Int) (Int.ofNat_dvd.mpr ex.1);have t2:=tJ (Ma.ut t (bn:Int) Y 1 (fb ws g).2) (yb:Int) (Int.ofNat_dvd.mpr ey.2);have t3:=tJ (Ma.ut t (bn:Int) X 1 (fb ws g).1) (xb:Int) (Int.ofNat_dvd.mpr ex.2);have t4:=tJ (Ma.ut t (bn:Int) Y 1 (fa ws g).2) (yb:Int) (Int.ofNat_dvd.mpr ey.1);dsimp only;rw[IC,IV,et,Hj,Hj,t1,t2,Hj,t3,t4];simp only[Gs,Ig,Hz,List.sum_nil];unfold arT;grind
   ·have p1:=((tb bxa hx1.1 hx1.2).mul (tb byb hy1.1 hy1.2)).mono (show 300+300<=600+2*i by omega);have p2:=((tb bxb hx1.1 hx1.2).mul (tb bya hy1.1 hy1.2)).mono (show 300+300<=600+2*i+1 by omega);exact((bt.add p1).sub p2).mono (by omega)
 ·rintro δ M' ⟨rfl,tot,o6,o7,o8,o9,rfl,et,bt⟩;have e:r.take (r.map fun g=>rwl t (bn:Int) X Y (fw ws g)).length=r:=Ih (by simp);rw[e]at et;have bx64:Bd 100 (xb:Int):=by show(xb:Int).natAbs<2^100;omega
  have by64:Bd 100 (yb:Int):=by show(yb:Int).natAbs<2^100;omega
  have pp:=GF hx1.1 hy1.1
  have pl:(xb:Int)*(yb:Int)<=10^52:=by
   have h1:=Int.mul_le_mul hx1.2 hy1.2 (HI hy1.1) (show(0:Int)<=10^26 by decide)
   exact Int.le_trans h1 (by decide)
  exact⟨_,rfl,_,rfl,_,rfl,d6 (bx64.mono (by decide)) (by64.mono (by decide)),nbL rfl,⟨M,sb3,k tot _ pp pl (bt.mono (by rw[hil];first|omega|(dsimp only;omega)|(simp only[Gx]at *;omega))) et⟩⟩
theorem cA:FnScope ["plot","outers","inners","ring"] ["plot"] (aq d7):=by walk_at "sc"
inductive Cn_outer_and_inner(u:D)(M:MH)(Q:DK):Prop
 |mk (t b X Y:Int) (ws:List Wl) (_:u=.tup (ws.map (rwl t b X Y))) (_:Scl t b X Y) (_:ws.length<=40) (_:(∀w∈ws,Un5 w)) (_:PF ws) (_:∀(M':MH) (lo li:Addr) (ps qs:List Addr) (rs:List (List Nat)),SD.Sub M M'->Rgs ws (2*ws.length) rs->M' lo=some (.lst (ps.map D.ref))->M' li=some (.lst (qs.map D.ref))->RL M' ps (rs.filter (aM ws))->RL M' qs (rs.filter fun r=>!aM ws r)->M lo=none->M li=none->(∀p∈ps++qs,M p=none)->Q (.tup [.ref lo,.ref li]) M')
theorem iI(T:Tx K mg):Cal P w K mg base 8 "outer_and_inner" (sD1 Cn_outer_and_inner):=by
 refine fm (k:=7) T.f_outer_and_inner cA fun f cdv A outer s H E hr=>⟨_,(ai (eV 1 2 rfl cA.nd (aa (b7 ae) (aa (b7 ae) ae))) (ai (bV GO rfl (aU (ak (rK T).m hr (aa (dv 0) ae))) (ay 3 cA.nd) (ao (bF (aN (nN hr.units) (aw (ak (nQ T).m hr (aa (dv 0) (aa (dv 3) ae))) ag) ag) (ao (cR (bL (dv 1) (aa (dv 3) ae)))) (ao (cR (bL (dv 2) (aa (dv 3) ae))))))) (ao (aB (aE (aa (dv 1) (aa (dv 2) ae))))))),fun _ M Q h=>?_⟩;obtain⟨t,b,X,Y,ws,rfl,S,hlen,hU,hF,k⟩:=h;refine⟨nbL rfl,fun lo hlo=>⟨nbL rfl,fun li hli=>?_⟩⟩;have noi:lo≠li:=av af hli;have hli0:M li=none:=by have h:=hli;rw[aj noi.symm]at h;exact h
 refine⟨_,_,rfl,?_⟩;refine⟨_,rfl,t,b,X,Y,ws,rfl,S,hlen,hU,hF,fun M1 lr pr rs sb1 hlr hr1 R RLs hpr=>?_⟩;have hlo1:M1 lo=some (.lst []):=sb1 _ _ (by rw[aj noi,af]);have hli1:M1 li=some (.lst []):=sb1 _ _ af;have sbM:SD.Sub M M1:=SD.Sub.trans (.new hli (.new hlo .refl)) sb1;have nlo:lr≠lo:=fun z=>by subst z;rw[aj noi,af]at hlr;cases hlr
 have nli:lr≠li:=fun z=>by subst z;rw[af]at hlr;cases hlr
 have pn:∀p∈pr,p≠lo/\p≠li/\M p=none:=fun p hp=>by
  have h:=(hpr p hp).2
  have a:p≠li:=fun z=>by subst z;rw[af]at h;cases h
  rw[aj a]at h
  have c:p≠lo:=fun z=>by subst z;rw[af]at h;cases h
  rw[aj c]at h
  exact⟨c,a,h⟩
 have hrl:=nS R;have hpl:=RLs.len;have rmem:=jQ hU hF (Gq _) R;refine⟨_,hr1,?_⟩;refine⟨fun i δ M'=>∃(ps qs:List Addr) (o3:Option D),δ=[some (.tup (ws.map (rwl t b X Y))),some (.ref lo),some (.ref li),o3]/\(∀c,c≠lo->c≠li->M' c=M1 c)/\M' lo=some (.lst (ps.map D.ref))/\M' li=some (.lst (qs.map D.ref))/\RL M1 ps ((rs.take i).filter (aM ws))/\RL M1 qs ((rs.take i).filter fun r=>!aM ws r)/\ps.length<=i/\qs.length<=i/\∀p∈ps++qs,p∈pr,⟨[],[],_,rfl,fun _ _ _=>rfl,hlo1,hli1,.nil,.nil,Gq _,Gq _,fun p hp=>by cases hp⟩,fun i δ M' _ z=>by obtain⟨_,_,_,_,z,_⟩:=z;show M' lr=_;rw[z lr nlo nli];exact hr1,?_,?_⟩
 ·rintro i d δ M' hi hd ⟨ps,qs,o3,rfl,hM',ho',hi',R1,R2,l1,l2,hpq⟩;have hi:i<pr.length:=by have:i<(pr.map D.ref).length:=hi;simpa using this
  have hd:(pr.map D.ref)[i]?=some d:=hd;rw[Gr,G8 hi]at hd;cases hd;obtain⟨r,er,hpi⟩:=RLs.get hi;have mpi:pr[i]∈pr:=HC hi;obtain⟨p1,p2,p3⟩:=pn _ mpi;have A:=rmem r (Gu er);refine⟨_,rfl,_,rfl,t,b,X,Y,ws,pr[i],r,rfl,rfl,(by rw[hM' _ p1 p2];exact hpi),S,hU,hlen,by have:=A.len;omega,A.lt,fun tot B hB hB1 bt et=>?_⟩;refine⟨_,rfl,trivial,_,rfl,?_⟩;have sg:=xn hU hF A.rng S.t0 S.b0 hB et;have f1:=jA (aM ws) rs er;have f2:=jA (fun r=>!aM ws r) rs er;refine b6 (fun h=>?_) (fun h=>?_)
  ·have o:aM ws r=true:=by rw[<-sg];exact h
   rw[o]at f1 f2;rw[if_pos rfl]at f1;rw[if_neg (by decide),Ib]at f2;refine⟨_,rfl,lo,_,rfl,ho',_,rfl,_,_,rfl,ho',(by rw[Gx];omega),?_⟩;refine⟨ps++[pr[i]],qs,_,rfl,fun c a c2=>by rw[aj a];exact hM' c a c2,by rw[af,GV];rfl,by rw[aj noi.symm];exact hi',by rw[f1];exact R1.snoc hpi,by rw[f2];exact R2,by simp;omega,by omega,fun p hp=>?_⟩;rcases GY.mp hp with z|z
   ·rcases GY.mp z with z|z
    ·exact hpq p (GY.mpr (.inl z))
    ·rw[show p=pr[i] by simpa using z];exact mpi
   ·exact hpq p (GY.mpr (.inr z))
  ·have o:aM ws r=false:=by rw[<-sg];simpa using h
   rw[o]at f1 f2;rw[if_neg (by decide),Ib]at f1;rw[if_pos (show(!false)=true from rfl)]at f2;refine⟨_,rfl,li,_,rfl,hi',_,rfl,_,_,rfl,hi',(by rw[Gx];omega),?_⟩;refine⟨ps,qs++[pr[i]],_,rfl,fun c a c2=>by rw[aj c2];exact hM' c a c2,by rw[aj noi];exact ho',by rw[af,GV];rfl,by rw[f1];exact R1,by rw[f2];exact R2.snoc hpi,by omega,by simp;omega,fun p hp=>?_⟩;rcases GY.mp hp with z|z
   ·exact hpq p (GY.mpr (.inl z))
   ·rcases GY.mp z with z|z
    ·exact hpq p (GY.mpr (.inr z))
    ·rw[show p=pr[i] by simpa using z];exact mpi
 ·rintro δ M' ⟨ps,qs,o3,rfl,hM',ho',hi',R1,R2,l1,l2,hpq⟩;have et:rs.take (pr.map D.ref).length=rs:=Ih (by rw[Gx];omega);have R1:RL M1 ps ((rs.take (pr.map D.ref).length).filter (aM ws)):=R1;have R2:RL M1 qs ((rs.take (pr.map D.ref).length).filter fun r=>!aM ws r):=R2;rw[et]at R1 R2;have kp:∀p∈ps++qs,M' p=M1 p:=fun p hp=>let z:=pn p (hpq p hp);hM' p z.1 z.2.1
  refine⟨_,rfl,_,rfl,nbL rfl,rtn (k M' lo li ps qs rs (fun a o h=>?_) R ho' hi' (R1.mono fun p hp o e=>by rw[kp p (GY.mpr (.inl hp))];exact e) (R2.mono fun p hp o e=>by rw[kp p (GY.mpr (.inr hp))];exact e) hlo hli0 fun p hp=>(pn p (hpq p hp)).2.2)⟩;rw[hM' a (fun z=>by subst z;rw[hlo]at h;cases h) (fun z=>by subst z;rw[hli0]at h;cases h)];exact sbM _ _ h
theorem qF:FnScope ["one","other"] ["one","other"] (aq mL):=by walk_at "sc"
inductive Cn_is_less(x y:D)(M:MH)(Q:DK):Prop
 |mk (q r:Rat) (_:x=Ma.fr q) (_:y=Ma.fr r) (_:Ma.Bq 100000 q) (_:Ma.Bq 100000 r) (_:Q (.bl (decide (q<r))) M)
theorem mV(T:Tx K mg):Cal P w K mg base 1 "is_less" (sD2 Cn_is_less):=by refine bw (k:=0) T.f_is_less qF fun f cdv A outer s H E hr=>⟨_,(ao (aB (cZ (fE hr.units) (au aG (aw (dv 0) ag) (aw (dv 1) ag)) (au aG (aw (dv 1) ag) (aw (dv 0) ag))))),fun _ _ M Q h=>?_⟩;obtain⟨q,r,rfl,rfl,h1,h2,k⟩:=h;refine⟨_,rfl,_,rfl,_,rfl,_,rfl,d6 (h1.1.mono (by decide)) (h2.2.mono (by decide)),?_⟩;refine⟨_,rfl,_,rfl,_,rfl,_,rfl,d6 (h2.1.mono (by decide)) (h1.2.mono (by decide)),trivial,?_⟩;dsimp only;rw[Ma.Fd];exact rtn k
theorem pb:FnScope ["one","other"] ["one","other"] (aq j0):=by walk_at "sc"
inductive Cn_is_ahead(x y:D)(M:MH)(Q:DK):Prop
 |mk (a b c d:Rat) (_:x=Ma.spt a b) (_:y=Ma.spt c d) (_:Ma.Bq 100000 a) (_:Ma.Bq 100000 b) (_:Ma.Bq 100000 c) (_:Ma.Bq 100000 d) (_:Q (.bl (decide (a<c\/a=c/\b<d))) M)
theorem bS(T:Tx K mg):Cal P w K mg base 2 "is_ahead" (sD2 Cn_is_ahead):=by
 refine bw (k:=1) T.f_is_ahead pb fun f cdv A outer s H E hr=>⟨_,(ai (bF (aN (cK hr.units) (aw (dv 0) ag) (aw (dv 1) ag)) (ao (aB (ak (mV T).m hr (aa (aw (dv 0) ag) (aa (aw (dv 1) ag) ae))))) aP) (ao (aB (ak (mV T).m hr (aa (aw (dv 0) ag) (aa (aw (dv 1) ag) ae)))))),fun _ _ M Q h=>?_⟩;obtain⟨a,b,c,d,rfl,rfl,h1,h2,h3,h4,k⟩:=h;refine⟨_,rfl,_,rfl,_,rfl,_,rfl,_,_,Pd.of rfl,Pd.of rfl,rfl,rfl,?_⟩;rw[Ma.qy];refine⟨_,rfl,?_⟩;refine b6 (fun h=>?_) (fun h=>?_)
 ·have e:a=c:=by simpa using h
  subst e;refine⟨_,rfl,_,rfl,_,rfl,_,rfl,b,d,rfl,rfl,h2,h4,?_⟩
  have z:(a<a\/a=a/\b<d)↔b<d:=by
   have:=Rat.lt_irrefl (a:=a)
   simp[this]
  rw[decide_eq_decide.mpr z]at k;exact rtn k
 ·have e:¬a=c:=by simpa using h
  refine⟨_,rfl,_,rfl,_,rfl,_,rfl,a,c,rfl,rfl,h1,h3,?_⟩;have z:(a<c\/a=c/\b<d)↔a<c:=by simp[e]
  rw[decide_eq_decide.mpr z]at k;exact rtn k
theorem mf:FnScope ["one","other"] ["one","other"] (aq gX):=by walk_at "sc"
inductive Cn_earlier_of(x y:D)(M:MH)(Q:DK):Prop
 |mk (c d g h:Rat) (_:x=Ma.spt c d) (_:y=Ma.spt g h) (_:Ma.Bq 100000 c) (_:Ma.Bq 100000 d) (_:Ma.Bq 100000 g) (_:Ma.Bq 100000 h) (_:∀s:Rat×Rat,s=(if Ma.ah c d g h then(c,d)else(g,h))->Q (Ma.spt s.1 s.2) M)
theorem iJ(T:Tx K mg):Cal P w K mg base 3 "earlier_of" (sD2 Cn_earlier_of):=by
 refine bw (k:=2) T.f_earlier_of mf fun f cdv A outer s H E hr=>⟨_,(ao (aB (fV (en (ak (bS T).m hr (aa (dv 0) (aa (dv 1) ae)))) (dv 0) (dv 1)))),fun _ _ M Q h=>?_⟩;obtain⟨c,d,g,h',rfl,rfl,h1,h2,h3,h4,k⟩:=h;refine⟨_,rfl,_,rfl,c,d,g,h',rfl,rfl,h1,h2,h3,h4,_,rfl,?_⟩;refine b6 (fun h=>?_) (fun h=>?_)
 ·have z:Ma.ah c d g h':=by simpa[Ma.ah]using h
  have:=k (c,d) (by rw[if_pos z]);exact⟨_,rfl,rtn this⟩
 ·have z:¬Ma.ah c d g h':=by simpa[Ma.ah]using h
  have:=k (g,h') (by rw[if_neg z]);exact⟨_,rfl,rtn this⟩
theorem cz:FnScope ["plot","ring","first","face"] ["plot","ring"] (aq fU):=by walk_at "sc"
inductive Cn_first_corner(u v:D)(M:MH)(Q:DK):Prop
 |mk (t b X Y:Int) (ws:List Wl) (p:Addr) (r:List Nat) (_:u=.tup (ws.map (rwl t b X Y))) (_:v=.ref p) (_:M p=some (.lst (r.map fun g:Nat=>D.int (g:Int)))) (_:Scl t b X Y) (_:(∀w∈ws,Un5 w)) (_:ws.length<=40) (_:0<r.length) (_:(∀g∈r,g<2*ws.length)) (_:Q (gsp t b X Y (fc ws r)) M)
theorem kr(T:Tx K mg):Cal P w K mg base 4 "first_corner" (sD2 Cn_first_corner):=by
 refine bw (k:=3) T.f_first_corner cz fun f cdv A outer s H E hr=>⟨_,(ai (az 2 cz.nd (aw (ak (bW T).m hr (aa (dv 0) (aa (aw (dv 1) ag) ae))) ag)) (ai (bV GO rfl (aU (dv 1)) (ay 3 cz.nd) (ao (az 2 cz.nd (ak (iJ T).m hr (aa (dv 2) (aa (aw (ak (bW T).m hr (aa (dv 0) (aa (dv 3) ae))) ag) ae)))))) (ao (aB (dv 2))))),fun _ _ M Q h=>?_⟩;obtain⟨t,b,X,Y,ws,p,r,rfl,rfl,hp,S,hU,hlen,hpos,hr,k⟩:=h
 obtain⟨g0,r',e0⟩:∃g0 r',r=g0::r':=by
  cases r with
  |nil=>simp at hpos
  |cons a l=>exact⟨a,l,rfl⟩
 have bq:∀{z:Vc},B20 z->Ma.Bq 100000 (Ma.ut t b X 1 z.1)/\Ma.Bq 100000 (Ma.ut t b Y 1 z.2):=fun{z} h=>by
  have one:(0:Int)<1/\(1:Int)<=10^6:=by decide
  exact⟨(S.bx one (by have:=h.1;omega)).mono (by decide),(S.by' one (by have:=h.2;omega)).mono (by decide)⟩
 refine⟨_,rfl,_,rfl,_,_,hp,(show atI _ ((0:Nat):Int)=some (.int (g0:Int))from b8 (by rw[e0];rfl)),t,b,X,Y,ws,g0,rfl,rfl,hr g0 (by rw[e0];simp),by omega,_,rfl,?_⟩;refine⟨_,rfl,_,hp,?_⟩;refine⟨fun i δ M'=>M'=M/\∃o3:Option D,δ=[some (.tup (ws.map (rwl t b X Y))),some (.ref p),some (gsp t b X Y (fcI ws r i)),o3],⟨rfl,_,by rw[e0];rfl⟩,fun i δ M' _ z=>by obtain⟨rfl,_⟩:=z;exact hp,?_,?_⟩
 ·rintro i d δ M' hi hd ⟨rfl,o3,rfl⟩;have hi:i<r.length:=by have:i<(r.map fun g:Nat=>D.int (g:Int)).length:=hi;simpa using this
  have hd:(r.map fun g:Nat=>D.int (g:Int))[i]?=some d:=hd;rw[Gr,G8 hi]at hd;cases hd;have hg:=hr r[i] (HC hi);have b1:=om hU hr hpos i (by omega);have b2:=nk hU hg;refine⟨_,rfl,_,rfl,_,rfl,t,b,X,Y,ws,r[i],rfl,rfl,hg,by omega,_,rfl,?_⟩;refine⟨_,_,_,_,rfl,rfl,(bq b1).1,(bq b1).2,(bq b2).1,(bq b2).2,fun s hs=>?_⟩;have hs:=hs.trans (Du (X:=X) (Y:=Y) S.t0 S.b0 b1 b2);subst hs;exact⟨rfl,_,by rw[qg (G8 hi)];rfl⟩
 ·rintro δ M' ⟨rfl,o3,rfl⟩;have e:fcI ws r (r.map fun g:Nat=>D.int (g:Int)).length=fc ws r:=by rw[Gx];rfl
  refine⟨_,rfl,rtn ?_⟩;dsimp only;rw[e];exact k
theorem bZ:FnScope ["row","spot","low","high","middle"] ["row","spot"] (aq gu):=by walk_at "sc"
inductive Cn_place_among(x y:D)(M:MH)(Q:DK):Prop
 |mk (l:Addr) (t b X Y:Int) (ps:List Vc) (u:Vc) (_:x=.ref l) (_:y=gsp t b X Y u) (_:M l=some (.lst (ps.map (gsp t b X Y)))) (_:Scl t b X Y) (_:ps.length<=200) (_:(∀p∈ps,B20 p)) (_:B20 u) (_:ps.Pairwise plt) (_:∀j:Nat,j<=ps.length->(∀i,i<j->plt (p0 ps i) u)->(∀i,j<=i->i<ps.length->¬plt (p0 ps i) u)->Q (.int (j:Int)) M)
theorem me(T:Tx K mg):Cal P w K mg base 3 "place_among" (sD2 Cn_place_among):=by
 refine bw (k:=2) T.f_place_among bZ fun f cdv A outer s H E hr=>⟨_,(ai (eV 2 3 rfl bZ.nd (aa ag (aa (aO dP rfl T.b_len dA (aa (dv 0) ae)) ae))) (ai (iq GO (aN (fE hr.units) (dv 2) (dv 3)) (ai (az 4 bZ.nd (au gw (au aI (dv 2) (dv 3)) ag)) (ao (bF (en (ak (bS T).m hr (aa (aw (dv 0) (dv 4)) (aa (dv 1) ae)))) (ao (az 2 bZ.nd (au aI (dv 4) ag))) (ao (az 3 bZ.nd (dv 4))))))) (ao (aB (dv 2))))),fun _ _ M Q h=>?_⟩;obtain⟨l,t,b,X,Y,ps,u,rfl,rfl,hl,S,hn,hb,hu,up,k⟩:=h;have hN:(ps.map (gsp t b X Y)).length=ps.length:=by simp
 refine⟨_,rfl,_,hl,_,_,rfl,?_⟩;refine⟨fun m δ M'=>M'=M/\∃(lo hi:Nat) (o4:Option D),δ=[some (.ref l),some (gsp t b X Y u),some (.int (lo:Int)),some (.int (hi:Int)),o4]/\lo<=hi/\hi<=ps.length/\(∀i,i<lo->plt (p0 ps i) u)/\(∀i,hi<=i->i<ps.length->¬plt (p0 ps i) u)/\m=hi-lo,⟨_,rfl,0,ps.length,_,by rw[hN];rfl,HR _,Gq _,fun i hi=>by omega,fun i h1 h2=>by omega,rfl⟩,?_⟩;rintro m δ M' ⟨rfl,lo,hi,o4,rfl,h1,h2,a,c,hm⟩;refine⟨_,rfl,_,rfl,trivial,_,rfl,?_⟩;refine b6 (fun h=>?_) (fun h=>?_)
 ·have hlt:lo<hi:=by
   have:(lo:Int)<(hi:Int):=by simpa using h
   omega
  have hmid:Int.fdiv ((lo:Int)+(hi:Int)) 2=(((lo+hi)/2:Nat):Int):=by rw[HD _ (by decide)];omega
  have hk:(lo+hi)/2<ps.length:=by omega
  refine⟨_,rfl,_,rfl,⟨by decide,bG (by decide)⟩,?_⟩;dsimp only;rw[hmid];generalize hq:(lo+hi)/2=q at hk ⊢;have em:ps[q]?=some (p0 ps q):=by unfold p0;simp[hk]
  have bq:=hb _ (qM hk);refine⟨_,rfl,_,rfl,_,_,hl,b8 (by rw[Gr,em];rfl),_,rfl,_,_,_,_,rfl,rfl,(bq.bx S).mono (by decide),(bq.by' S).mono (by decide),(hu.bx S).mono (by decide),(hu.by' S).mono (by decide),_,rfl,?_⟩;have ah:=xU (X:=X) (Y:=Y) S.t0 S.b0 bq hu;refine b6 (fun h=>?_) (fun h=>?_)
  ·have z:plt (p0 ps q) u:=ah.mp (by simpa[Ma.ah]using h);refine⟨_,rfl,hi-(q+1),by omega,rfl,q+1,hi,_,rfl,by omega,h2,fun i hi'=>?_,c,rfl⟩;by_cases e:i=q
   ·subst e;exact z
   ·have:=IE.mp up i q (by omega) hk (by omega);have e1:p0 ps i=ps[i]:=by unfold p0;simp[show i<ps.length by omega]
    have e2:p0 ps q=ps[q]:=by unfold p0;simp[hk]
    rw[e2]at z;rw[e1];unfold plt at z this ⊢;omega
  ·have z:¬plt (p0 ps q) u:=fun w=>by
    have:=ah.mpr w
    simp[Ma.ah]at h this
    exact absurd this (by simpa using h)
   refine⟨_,rfl,q-lo,by omega,rfl,lo,q,_,rfl,by omega,by omega,a,fun i h3 h4=>?_,rfl⟩;by_cases e:i=q
   ·subst e;exact z
   ·have:=IE.mp up q i hk (by omega) (by omega);have e1:p0 ps i=ps[i]:=by unfold p0;simp[show i<ps.length by omega]
    have e2:p0 ps q=ps[q]:=by unfold p0;simp[hk]
    rw[e2]at z;rw[e1];unfold plt at z this ⊢;omega
 ·have:lo=hi:=by
   have:¬(lo:Int)<(hi:Int):=by simpa using h
   omega
  subst this;(repeat (first|refine⟨_,rfl,?_⟩|refine⟨trivial,?_⟩|refine⟨_,_,rfl,?_⟩|refine⟨rfl,?_⟩|refine⟨nbL rfl,?_⟩))
  exact rtn (k lo h2 a c)
theorem dI:FnScope ["spots","row","spot"] ["spots"] (aq gB):=by walk_at "sc"
inductive Cn_ahead_first(x:D)(M:MH)(Q:DK):Prop
 |mk (l:Addr) (t b X Y:Int) (us:List Vc) (_:x=.ref l) (_:M l=some (.lst (us.map (gsp t b X Y)))) (_:Scl t b X Y) (_:us.length<=200) (_:(∀p∈us,B20 p)) (_:us.Nodup) (_:∀(M':MH) (z:Addr) (ps:List Vc),SD.Sub M M'->M z=none->M' z=some (.lst (ps.map (gsp t b X Y)))->ps.Perm us->ps.Pairwise plt->Q (.ref z) M')
theorem gE(T:Tx K mg):Cal P w K mg base 4 "ahead_first" (sD1 Cn_ahead_first):=by
 refine fm (k:=3) T.f_ahead_first dI fun f cdv A outer s H E hr=>⟨_,(ai (az 1 dI.nd (b7 ae)) (ai (bV GO rfl (aU (dv 0)) (ay 2 dI.nd) (ao (cR (jv (dv 1) (aa (ak (me T).m hr (aa (dv 1) (aa (dv 2) ae))) (aa (dv 2) ae)))))) (ao (aB (dv 1))))),fun _ M Q h=>?_⟩;obtain⟨l,t,b,X,Y,us,rfl,hl,S,hn,hb,nd,k⟩:=h;refine⟨nbL rfl,fun z hz=>?_⟩;have nlz:l≠z:=av hl hz;refine⟨_,rfl,us.map (gsp t b X Y),(by show(ax M z _) l=_;rw[aj nlz];exact hl),?_⟩;refine⟨fun i δ M'=>∃(ps:List Vc) (o2:Option D),δ=[some (.ref l),some (.ref z),o2]/\SD.Sub M M'/\M' z=some (.lst (ps.map (gsp t b X Y)))/\ps.Perm (us.take i)/\ps.Pairwise plt,⟨[],_,rfl,.new hz .refl,af,by simp,List.Pairwise.nil⟩,fun i δ M' _ q=>let⟨_,_,_,sb,_⟩:=q;sb _ _ hl,?_,?_⟩
 ·rintro i d δ M' hi hd ⟨ps,o2,rfl,sb,hz',pm,up⟩;have hd:(us.map (gsp t b X Y))[i]?=some d:=hd;rw[Gr]at hd;cases eu:us[i]? with
  |none=>rw[eu]at hd;cases hd
  |some u=>
   rw[eu]at hd
   cases hd
   have iu:i<us.length:=(Gz.mp eu).1
   have eu':us[i]=u:=(Gz.mp eu).2
   have bu:=hb u (Gu eu)
   have mps:∀p∈ps,p∈us:=fun p hp=>List.mem_of_mem_take (pm.mem_iff.mp hp)
   have bps:∀p∈ps,B20 p:=fun p hp=>hb p (mps p hp)
   have lps:ps.length=i:=by rw[pm.length_eq,J6];omega
   have nu:u∉ps:=fun hp=>by
    have:=pm.mem_iff.mp hp
    obtain⟨j,hj,ej⟩:=List.getElem_of_mem this
    have hj':j<i:=by rw[J6]at hj;omega
    rw[List.getElem_take]at ej
    have:=IE.mp nd j i (by omega) iu hj'
    exact this (ej.trans eu'.symm)
   refine⟨_,rfl,z,_,rfl,hz',_,rfl,_,rfl,z,t,b,X,Y,ps,u,rfl,rfl,hz',S,by omega,bps,bu,up,fun j hj a c=>?_⟩
   obtain⟨i1,i2⟩:=C6 up hj a fun i h1 h2=>yW (bps _ (qM h2)) bu (fun e=>nu (e▸qM h2)) (c i h1 h2)
   refine⟨_,rfl,_,_,j,rfl,hz',by rw[Gx];exact hj,by rw[Gx];omega,gi ps j u,_,rfl,fun a o h=>?_,by rw[af,pO],?_,i1⟩
   ·rw[aj (av h hz)];exact sb _ _ h
   ·rw[IM,eu];exact i2.trans ((List.Perm.cons u pm).trans (List.perm_append_singleton u (us.take i)).symm)
 ·rintro δ M' ⟨ps,o2,rfl,sb,hz',pm,up⟩;have e:us.take (us.map (gsp t b X Y)).length=us:=by rw[Gx,List.take_length]
  exact⟨_,rfl,M',.refl,k M' z ps sb hz hz' (by rw[<-e];exact pm) up⟩
theorem yp:FnScope ["wall","spot"] ["wall","spot"] (aq sD):=by walk_at "sc"
inductive Cn_spans(u v:D)(M:MH)(Q:DK):Prop
 |mk (n:Nat) (a b c d x y:Rat) (_:u=Ma.wll a b c d) (_:v=Ma.spt x y) (_:Ma.Bq n a) (_:Ma.Bq n b) (_:Ma.Bq n c) (_:Ma.Bq n d) (_:Ma.Bq n x) (_:Ma.Bq n y) (_:n<=100000) (_:Q (.bl (!decide (Ma.ah x y a b)&&decide (Ma.ah x y c d))) M)
theorem yU(T:Tx K mg):Cal P w K mg base 3 "spans" (sD2 Cn_spans):=by
 refine bw (k:=2) T.f_spans yp fun f cdv A outer s H E hr=>⟨_,(ao (aB (oh (qD (ak (bS T).m hr (aa (dv 1) (aa (aw (dv 0) ag) ae)))) (nR (ak (bS T).m hr (aa (dv 1) (aa (aw (dv 0) ag) ae))))))),fun _ _ M Q h=>?_⟩;obtain⟨n,a,b,c,d,x,y,rfl,rfl,ha,hb,hc,hd,hx,hy,hn,k⟩:=h;have mo:∀{q:Rat},Ma.Bq n q->Ma.Bq 100000 q:=fun z=>z.mono hn;(try dsimp only[SD.gC,SD.dX,SD.br,SD.gV,SD.h8,SD.dO,SD.ff,SD.tBD,SD.iz])
 exact Aj (!decide (Ma.ah x y a b)) (decide (Ma.ah x y c d)) (fun K hK=>⟨_,rfl,_,rfl,_,rfl,x,y,a,b,rfl,rfl,mo hx,mo hy,mo ha,mo hb,_,rfl,hK⟩) (fun _ K hK=>⟨_,rfl,_,rfl,_,rfl,x,y,c,d,rfl,rfl,mo hx,mo hy,mo hc,mo hd,hK⟩) (rtn k)
theorem oO:FnScope ["one","other"] ["one","other"] (aq km):=by walk_at "sc"
inductive Cn_later_of(x y:D)(M:MH)(Q:DK):Prop
 |mk (a b e f:Rat) (_:x=Ma.spt a b) (_:y=Ma.spt e f) (_:Ma.Bq 100000 a) (_:Ma.Bq 100000 b) (_:Ma.Bq 100000 e) (_:Ma.Bq 100000 f) (_:∀s:Rat×Rat,s=(if Ma.ah e f a b then(a,b)else(e,f))->Q (Ma.spt s.1 s.2) M)
theorem qC(T:Tx K mg):Cal P w K mg base 3 "later_of" (sD2 Cn_later_of):=by
 refine bw (k:=2) T.f_later_of oO fun f cdv A outer s H E hr=>⟨_,(ao (aB (fV (en (ak (bS T).m hr (aa (dv 1) (aa (dv 0) ae)))) (dv 0) (dv 1)))),fun _ _ M Q h=>?_⟩;obtain⟨a,b,e,f,rfl,rfl,h1,h2,h3,h4,k⟩:=h;refine⟨_,rfl,_,rfl,e,f,a,b,rfl,rfl,h3,h4,h1,h2,_,rfl,?_⟩;refine b6 (fun h=>?_) (fun h=>?_)
 ·have z:Ma.ah e f a b:=by simpa[Ma.ah]using h
  have:=k (a,b) (by rw[if_pos z]);exact⟨_,rfl,rtn this⟩
 ·have z:¬Ma.ah e f a b:=by simpa[Ma.ah]using h
  have:=k (e,f) (by rw[if_neg z]);exact⟨_,rfl,rtn this⟩
theorem dY:FnScope ["one","other","start","end","place","deciding"] ["one","other"] (aq kR):=by walk_at "sc"
inductive Cn_is_above(u v:D)(M:MH)(Q:DK):Prop
 |mk (t b X Y:Int) (U V:Wl) (_:u=rwl t b X Y U) (_:v=rwl t b X Y V) (_:Scl t b X Y) (_:Un5 U) (_:Un5 V) (_:Q (.bl (abv U V)) M)
theorem qA(T:Tx K mg):Cal P w K mg base 4 "is_above" (sD2 Cn_is_above):=by
 refine bw (k:=3) T.f_is_above dY fun f cdv A outer s H E hr=>⟨_,(ai (eV 2 3 rfl dY.nd (aa (ak (qC T).m hr (aa (aw (dv 0) ag) (aa (aw (dv 1) ag) ae))) (aa (ak (iJ T).m hr (aa (aw (dv 0) ag) (aa (aw (dv 1) ag) ae))) ae))) (ai (bF (Dh (en (ak (bS T).m hr (aa (dv 2) (aa (dv 3) ae))))) (ao (aB jU)) aP) (ai (cv (fV (aN (cK hr.units) (aw (dv 0) ag) (aw (dv 1) ag)) (aE (aa ag (aa (dv 3) ae))) (aE (aa ag (aa (dv 2) ae)))) (bH rfl (aA (ay 4 dY.nd) (aA (ay 5 dY.nd) ba)))) (ai (bF (aN (cK hr.units) (dv 5) (aw (dv 0) (dv 4))) (ao (aB (cZ (cK hr.units) (ak (cQ T).m hr (aa (dv 1) (aa (dv 5) ae))) ag))) aP) (ao (aB (cZ (cK hr.units) (ak (cQ T).m hr (aa (dv 0) (aa (dv 5) ae))) (oW g9 ag)))))))),fun _ _ M Q h=>?_⟩;obtain⟨t,b,X,Y,U,V,rfl,rfl,S,HU,HV,k⟩:=h;have T0:=S.t0;have B0:=S.b0;have one:(0:Int)<1/\(1:Int)<=10^6:=by decide
 have W6:∀{z:Int},(0<=z/\z<=20)->(-(10^6)<=z/\z<=10^6):=fun{z} h=>by omega
 have bx:∀{z:Int},(0<=z/\z<=20)->Ma.Bq 200 (Ma.ut t b X 1 z):=fun{z} h=>S.bx one (W6 h);have by':∀{z:Int},(0<=z/\z<=20)->Ma.Bq 200 (Ma.ut t b Y 1 z):=fun{z} h=>S.by' one (W6 h)
 have mo:∀{q:Rat},Ma.Bq 200 q->Ma.Bq 100000 q:=fun z=>z.mono (by decide)
 have late:∃sx sy:Int,(if Ma.ah (Ma.ut t b X 1 V.1) (Ma.ut t b Y 1 V.2.1) (Ma.ut t b X 1 U.1) (Ma.ut t b Y 1 U.2.1)then(Ma.ut t b X 1 U.1,Ma.ut t b Y 1 U.2.1)else(Ma.ut t b X 1 V.1,Ma.ut t b Y 1 V.2.1))=(Ma.ut t b X 1 sx,Ma.ut t b Y 1 sy)/\(0<=sx/\sx<=20)/\(0<=sy/\sy<=20)/\la sx sy=max (l1 U) (l1 V)/\((l1 V<l1 U/\sx=U.1/\sy=U.2.1)\/(¬l1 V<l1 U/\sx=V.1/\sy=V.2.1)):=by
  have z:=lO (X:=X) (Y:=Y) (p:=V.1) (q:=V.2.1) (e:=U.1) (f:=U.2.1) T0 B0 HV.b HU.b
  by_cases y:la V.1 V.2.1<la U.1 U.2.1
  ·exact⟨U.1,U.2.1,by rw[if_pos (z.mpr y)],HU.a,HU.b,by unfold l1;omega,.inl ⟨y,rfl,rfl⟩⟩
  ·exact⟨V.1,V.2.1,by rw[if_neg (fun q=>y (z.mp q))],HV.a,HV.b,by unfold l1;omega,.inr ⟨y,rfl,rfl⟩⟩
 have early:∃ex ey:Int,(if Ma.ah (Ma.ut t b X 1 U.2.2.1) (Ma.ut t b Y 1 U.2.2.2) (Ma.ut t b X 1 V.2.2.1) (Ma.ut t b Y 1 V.2.2.2)then(Ma.ut t b X 1 U.2.2.1,Ma.ut t b Y 1 U.2.2.2)else(Ma.ut t b X 1 V.2.2.1,Ma.ut t b Y 1 V.2.2.2))=(Ma.ut t b X 1 ex,Ma.ut t b Y 1 ey)/\(0<=ex/\ex<=20)/\(0<=ey/\ey<=20)/\la ex ey=min (l2 U) (l2 V)/\((l2 U<l2 V/\ex=U.2.2.1/\ey=U.2.2.2)\/(¬l2 U<l2 V/\ex=V.2.2.1/\ey=V.2.2.2)):=by
  have z:=lO (X:=X) (Y:=Y) (p:=U.2.2.1) (q:=U.2.2.2) (e:=V.2.2.1) (f:=V.2.2.2) T0 B0 HU.d HV.d
  by_cases y:la U.2.2.1 U.2.2.2<la V.2.2.1 V.2.2.2
  ·exact⟨U.2.2.1,U.2.2.2,by rw[if_pos (z.mpr y)],HU.c,HU.d,by unfold l2;omega,.inl ⟨y,rfl,rfl⟩⟩
  ·exact⟨V.2.2.1,V.2.2.2,by rw[if_neg (fun q=>y (z.mp q))],HV.c,HV.d,by unfold l2;omega,.inr ⟨y,rfl,rfl⟩⟩
 obtain⟨sx,sy,es,hsx,hsy,ls,cs⟩:=late;obtain⟨ex,ey,ee,hex,hey,le,ce⟩:=early;refine⟨_,rfl,_,rfl,_,rfl,_,rfl,_,_,_,_,rfl,rfl,mo (bx HU.a),mo (by' HU.b),mo (bx HV.a),mo (by' HV.b),fun s1 hs1=>?_⟩;rw[es]at hs1;subst hs1;refine⟨_,rfl,_,rfl,_,rfl,_,rfl,_,_,_,_,rfl,rfl,mo (bx HU.c),mo (by' HU.d),mo (bx HV.c),mo (by' HV.d),fun s2 hs2=>?_⟩;rw[ee]at hs2;subst hs2;refine⟨_,_,rfl,?_⟩;refine⟨_,rfl,_,rfl,Ma.ut t b X 1 sx,Ma.ut t b Y 1 sy,Ma.ut t b X 1 ex,Ma.ut t b Y 1 ey,rfl,rfl,mo (bx hsx),mo (by' hsy),mo (bx hex),mo (by' hey),_,rfl,?_⟩;have dal:=lO (X:=X) (Y:=Y) (p:=sx) (q:=sy) (e:=ex) (f:=ey) T0 B0 hsy hey;rw[ls,le]at dal;refine b6 (fun h=>?_) (fun h=>?_)
 ·have ap:¬(max (l1 U) (l1 V)<min (l2 U) (l2 V)):=fun z=>by
   have z':=dal.mpr z
   unfold Ma.ah at z'
   simp[z']at h
  have e:abv U V=false:=by unfold abv;rw[if_neg ap]
  rw[e]at k;exact rtn k
 have ap:max (l1 U) (l1 V)<min (l2 U) (l2 V):=dal.mp (Decidable.byContradiction fun z=>h ((Bool.not_eq_true' _).mpr (decide_eq_false z)));dsimp only[SD.dO];refine cy (fun δ M'=>M'=M/\∃(pl dx dy px py:Int) (o2 o3:Option D),δ=[some (rwl t b X Y U),some (rwl t b X Y V),o2,o3,some (.int pl),some (Ma.spt (Ma.ut t b X 1 dx) (Ma.ut t b Y 1 dy))]/\atI [Ma.spt (Ma.ut t b X 1 U.1) (Ma.ut t b Y 1 U.2.1),Ma.spt (Ma.ut t b X 1 U.2.2.1) (Ma.ut t b Y 1 U.2.2.2)] pl=some (Ma.spt (Ma.ut t b X 1 px) (Ma.ut t b Y 1 py))/\(0<=dx/\dx<=20)/\(0<=dy/\dy<=20)/\(0<=py/\py<=20)/\(la dx dy=la px py->decide (0<sd V dx dy)=abv U V)/\(la dx dy≠la px py->decide (sd U dx dy<0)=abv U V)) ?_ (fun hu=>?_);rotate_left
 ·refine⟨_,rfl,_,rfl,_,rfl,_,rfl,_,_,Pd.of rfl,Pd.of rfl,rfl,rfl,?_⟩;rw[Ma.iD];refine⟨_,rfl,?_⟩;have q1:=ia (X:=X) (Y:=Y) (p:=U.1) (q:=U.2.1) (e:=V.1) (f:=V.2.1) T0 B0 HU.b HV.b;refine b6 (fun h=>?_) (fun h=>?_)
  ·have e1:l1 U=l1 V:=q1.mp (by simpa using h);refine⟨_,rfl,nbL rfl,?_⟩;refine⟨_,rfl,rfl,_,_,rfl,_,_,rfl,rfl,?_⟩;refine hu _ _ ⟨rfl,1,ex,ey,U.2.2.1,U.2.2.2,_,_,rfl,rfl,hex,hey,HU.d,fun z=>?_,fun z=>?_⟩
   ·rcases ce with⟨z1,rfl,rfl⟩|⟨z1,rfl,rfl⟩
    ·unfold abv;rw[if_pos ap,if_pos e1,if_pos z1];rfl
    ·have y1:sd2 U V=0:=lU HU HV z.symm;have y2:sd V V.2.2.1 V.2.2.2=0:=lU HV HV rfl;unfold abv;rw[if_pos ap,if_pos e1,if_neg z1,y1,y2]
   ·rcases ce with⟨z1,rfl,rfl⟩|⟨z1,rfl,rfl⟩
    ·exact absurd rfl z
    ·unfold abv;rw[if_pos ap,if_pos e1,if_neg z1];rfl
  ·have e1:¬l1 U=l1 V:=fun z=>h (by simpa using q1.mpr z);refine⟨_,rfl,nbL rfl,?_⟩;refine⟨_,rfl,rfl,_,_,rfl,_,_,rfl,rfl,?_⟩;refine hu _ _ ⟨rfl,0,sx,sy,U.1,U.2.1,_,_,rfl,rfl,hsx,hsy,HU.b,fun z=>?_,fun z=>?_⟩
   ·rcases cs with⟨z1,rfl,rfl⟩|⟨z1,rfl,rfl⟩
    ·unfold abv;rw[if_pos ap,if_neg e1,if_pos z1];rfl
    ·exact absurd z.symm e1
   ·rcases cs with⟨z1,rfl,rfl⟩|⟨z1,rfl,rfl⟩
    ·exact absurd rfl z
    ·unfold abv;rw[if_pos ap,if_neg e1,if_neg z1];rfl
 rintro δ M' ⟨rfl,pl,dx,dy,px,py,o2,o3,rfl,epl,hdx,hdy,hpy,c1,c2⟩;refine⟨_,rfl,_,rfl,_,rfl,_,epl,_,_,Pd.of rfl,Pd.of rfl,rfl,rfl,?_⟩;rw[Ma.iD];have q2:=ia (X:=X) (Y:=Y) (p:=dx) (q:=dy) (e:=px) (f:=py) T0 B0 hdy hpy;refine⟨_,rfl,?_⟩;refine b6 (fun h=>?_) (fun h=>?_)
 ·have z:la dx dy=la px py:=q2.mp (by simpa using h);refine⟨_,rfl,_,rfl,200,_,_,_,_,_,_,rfl,rfl,bx HV.a,by' HV.b,bx HV.c,by' HV.d,bx hdx,by' hdy,by decide,?_⟩;rw[ji T0 B0];have e:decide (GS (sd V dx dy)=1)=abv U V:=by rw[<-c1 z,decide_eq_decide];exact sg1 _
  show Ret Q (.bl (decide _)) _;rw[e];exact rtn k
 ·have z:la dx dy≠la px py:=fun q=>h (by simpa using q2.mpr q);refine⟨_,rfl,_,rfl,200,_,_,_,_,_,_,rfl,rfl,bx HU.a,by' HU.b,bx HU.c,by' HU.d,bx hdx,by' hdy,by decide,?_⟩;rw[ji T0 B0];have e:decide (GS (sd U dx dy)=-1)=abv U V:=by rw[<-c2 z,decide_eq_decide];exact Fu _
  show Ret Q (.bl (decide _)) _;rw[e];exact rtn k
theorem fL:FnScope ["top","bottom","divisor"] ["top","bottom"] (aq k9):=by walk_at "sc"
inductive Cn_fraction(x y:D)(M:MH)(Q:DK):Prop
 |mk (t:_) (b:_) (_:x=.int t) (_:y=.int b) (_:b≠0) (_:Bd 8000 t) (_:Bd 8000 b) (_:Q (Ma.fr (Rat.divInt t b)) M)
theorem j7(T:Tx K mg):Cal P w K mg base 2 "fraction" (sD2 Cn_fraction):=by
 refine bw (k:=1) T.f_fraction fL fun f cdv A outer s H E hr=>⟨_,(ai (bF (aN (cK hr.units) (dv 1) ag) (ao pg) aP) (ai (az 2 fL.nd (ak (dH T).m hr (aa (aO ou rfl T.b_abs nP (aa (dv 0) ae)) (aa (aO ou rfl T.b_abs nP (aa (dv 1) ae)) ae)))) (ai (bF (aN (fE hr.units) (dv 1) ag) (ao (az 2 fL.nd (oW g9 (dv 2)))) aP) (ao (aB (aE (aa (au gw (dv 0) (dv 2)) (aa (au gw (dv 1) (dv 2)) ae)))))))),fun _ _ M Q h=>?_⟩;obtain⟨t,b,rfl,rfl,hb,ht,hbb,q⟩:=h;have hg:=Ma.eJ (t:=t) hb;have hgd:Bd 8000 ((Jg t.natAbs b.natAbs:Nat):Int):=hbb.of_le (by simpa using Nat.gcd_le_right t.natAbs (show 0<b.natAbs by omega));refine⟨_,rfl,_,rfl,iA (decide_eq_false hb) ?_⟩;refine⟨_,rfl,_,rfl,t.natAbs,b.natAbs,rfl,rfl,?_⟩;refine⟨_,rfl,trivial,_,rfl,?_⟩;refine b6 (fun h=>?_) (fun h=>?_)
 ·have hneg:b<0:=by simpa using h
  obtain⟨e1,e2⟩:=Ma.tu (t:=t) hneg;refine⟨_,rfl,_,rfl,_,rfl,⟨by omega,hgd.neg⟩,_,rfl,_,rfl,⟨by omega,hgd.neg⟩,nbL rfl,?_⟩;dsimp only;rw[e1,e2];exact rtn q
 ·have hpos:0<b:=by
   have:¬b<0:=by simpa using h
   omega
  obtain⟨e1,e2⟩:=Ma.tY (t:=t) hpos;refine⟨_,rfl,_,rfl,⟨by omega,hgd⟩,_,rfl,_,rfl,⟨by omega,hgd⟩,nbL rfl,?_⟩;dsimp only;rw[e1,e2];exact rtn q
theorem fI:FnScope ["spot","x","y"] ["spot"] (aq lM):=by walk_at "sc"
inductive Cn_own_spot(x:D)(M:MH)(Q:DK):Prop
 |mk (a b:Rat) (_:x=Ma.spt a b) (_:Ma.Bq 8000 a) (_:Ma.Bq 8000 b) (_:Q (Ma.spt a b) M)
theorem gR(T:Tx K mg):Cal P w K mg base 3 "own_spot" (sD1 Cn_own_spot):=by refine fm (k:=2) T.f_own_spot fI fun f cdv A outer s H E hr=>⟨_,(ai (cv (dv 0) (bH rfl (aA (ay 1 fI.nd) (aA (ay 2 fI.nd) ba)))) (ao (aB (aE (aa (ak (j7 T).m hr (aa (aw (dv 1) ag) (aa (aw (dv 1) ag) ae))) (aa (ak (j7 T).m hr (aa (aw (dv 2) ag) (aa (aw (dv 2) ag) ae))) ae)))))),fun _ M Q h=>?_⟩;obtain⟨a,b,rfl,h1,h2,k⟩:=h;refine⟨_,rfl,_,rfl,rfl,_,_,rfl,_,_,rfl,rfl,?_⟩;refine⟨_,rfl,_,rfl,_,rfl,_,rfl,a.num,(a.den:Int),rfl,rfl,Ma.gS a,h1.1,h1.2,?_⟩;refine⟨_,rfl,_,rfl,_,rfl,_,rfl,b.num,(b.den:Int),rfl,rfl,Ma.gS b,h2.1,h2.2,nbL rfl,?_⟩;rw[Rat.num_divInt_den,Rat.num_divInt_den];exact rtn k
theorem pE:FnScope ["wall"] ["wall"] (aq lF):=by walk_at "sc"
inductive Cn_own_wall(x:D)(M:MH)(Q:DK):Prop
 |mk (a b c d:Rat) (_:x=Ma.wll a b c d) (_:Ma.Bq 8000 a) (_:Ma.Bq 8000 b) (_:Ma.Bq 8000 c) (_:Ma.Bq 8000 d) (_:Q (Ma.wll a b c d) M)
theorem qU(T:Tx K mg):Cal P w K mg base 4 "own_wall" (sD1 Cn_own_wall):=by refine fm (k:=3) T.f_own_wall pE fun f cdv A outer s H E hr=>⟨_,(ao (aB (aE (aa (ak (gR T).m hr (aa (aw (dv 0) ag) ae)) (aa (ak (gR T).m hr (aa (aw (dv 0) ag) ae)) ae))))),fun _ M Q h=>?_⟩;obtain⟨a,b,c,d,rfl,h1,h2,h3,h4,k⟩:=h;exact⟨_,rfl,_,rfl,a,b,rfl,h1,h2,_,rfl,_,rfl,c,d,rfl,h3,h4,nbL rfl,rtn k⟩
theorem d3:FnScope ["walls","upper","wall"] ["walls"] (aq ki):=by walk_at "sc"
inductive Cn_upper_of(u:D)(M:MH)(Q:DK):Prop
 |mk (a:Addr) (t b X Y:Int) (us:List Wl) (top:Wl) (_:u=.ref a) (_:M a=some (.lst (us.map (rwl t b X Y)))) (_:Scl t b X Y) (_:(∀w∈us,Un5 w)) (_:top∈us) (_:(∀w∈us,w=top\/(abv top w=true/\abv w top=false))) (_:Q (rwl t b X Y top) M)
theorem rD(T:Tx K mg):Cal P w K mg base 5 "upper_of" (sD1 Cn_upper_of):=by
 refine fm (k:=4) T.f_upper_of d3 fun f cdv A outer s H E hr=>⟨_,(ai (az 1 d3.nd (aw (dv 0) ag)) (ai (bV GO rfl (aU (dv 0)) (ay 2 d3.nd) (ao (bF (en (ak (qA T).m hr (aa (dv 2) (aa (dv 1) ae)))) (ao (az 1 d3.nd (dv 2))) aP))) (ao (aB (ak (qU T).m hr (aa (dv 1) ae)))))),fun _ M Q h=>?_⟩;obtain⟨a,t,b,X,Y,us,top,rfl,ha,S,hU,ht,hT,k⟩:=h;cases us with
 |nil=>cases ht
 |cons u0 us=>
  refine⟨_,rfl,_,_,ha,b8 (j:=0) (v:=rwl t b X Y u0) rfl,?_⟩
  refine⟨_,rfl,(u0::us).map (rwl t b X Y),ha,?_⟩
  refine⟨fun i δ M'=>M'=M/\∃up o2,δ=[some (.ref a),some (rwl t b X Y up),o2]/\up∈u0::us/\(top∈(u0::us).take i->up=top),⟨rfl,u0,_,rfl,by simp,fun z=>by simp at z⟩,fun i δ M' _ z=>by obtain⟨rfl,_⟩:=z;exact ha,?_,?_⟩
  ·rintro i d δ M' hi hd ⟨rfl,up,o2,rfl,hup,imp⟩;have hd:((u0::us).map (rwl t b X Y))[i]?=some d:=hd;rw[Gr]at hd;cases ew:(u0::us)[i]? with
   |none=>rw[ew]at hd;cases hd
   |some w=>
    rw[ew]at hd
    cases hd
    have hw:w∈u0::us:=Gu ew
    have tk:∀z,z∈(u0::us).take (i+1)->z∈(u0::us).take i\/z=w:=fun z hz=>by rw[IM,ew]at hz;simpa using hz
    refine⟨_,rfl,_,rfl,t,b,X,Y,w,up,rfl,rfl,S,hU w hw,hU up hup,_,rfl,?_⟩
    refine b6 (fun h=>?_) (fun h=>?_)
    ·refine⟨_,rfl,rfl,w,_,rfl,hw,fun z=>?_⟩;rcases tk _ z with z|z
     ·have:=imp z;subst this;rcases hT w hw with q|q
      ·exact q
      ·rw[q.2]at h;cases h
     ·exact z.symm
    ·refine⟨rfl,up,_,rfl,hup,fun z=>?_⟩;rcases tk _ z with z|z
     ·exact imp z
     ·subst z;rcases hT up hup with q|q
      ·exact q
      ·exact absurd q.1 h
  ·rintro δ M' ⟨rfl,up,o2,rfl,hup,imp⟩;have e:up=top:=imp (by show top∈(u0::us).take ((u0::us).map (rwl t b X Y)).length;rw[Ih (by simp)];exact ht);subst e;have W:=hU up hup;have one:(0:Int)<1/\(1:Int)<=10^6:=by decide
   have W6:∀{z:Int},(0<=z/\z<=20)->(-(10^6)<=z/\z<=10^6):=fun{z} h=>by omega
   have bx:∀{z:Int},(0<=z/\z<=20)->Ma.Bq 8000 (Ma.ut t b X 1 z):=fun{z} h=>(S.bx one (W6 h)).mono (by decide);have by':∀{z:Int},(0<=z/\z<=20)->Ma.Bq 8000 (Ma.ut t b Y 1 z):=fun{z} h=>(S.by' one (W6 h)).mono (by decide)
   exact⟨_,rfl,_,_,_,_,rfl,bx W.a,by' W.b,bx W.c,by' W.d,rtn k⟩
theorem fJ:FnScope ["walls","spot","below"] ["walls","spot"] (aq gF):=by walk_at "sc"
inductive Cn_upper_below(u v:D)(M:MH)(Q:DK):Prop
 |mk (t b X Y:Int) (x y:Rat) (ws:List Wl) (_:u=.tup (ws.map (rwl t b X Y))) (_:v=Ma.spt x y) (_:Scl t b X Y) (_:(∀w∈ws,Un5 w)) (_:PF ws) (_:ws.length<=40) (_:Ma.Bq 200 x) (_:Ma.Bq 200 y) (_:(bT t b X Y ws x y=[]->Q .non M)) (_:∀tt∈bT t b X Y ws x y,(∀w∈(bT t b X Y ws x y).map (wAt ws),w=wAt ws tt\/(abv (wAt ws tt) w=true/\abv w (wAt ws tt)=false))->Q (rwl t b X Y (wAt ws tt)) M)
theorem gn(T:Tx K mg):Cal P w K mg base 6 "upper_below" (sD2 Cn_upper_below):=by
 refine bw (k:=5) T.f_upper_below fJ fun f cdv A outer s H E hr=>⟨_,(ai (ic 2 fJ.nd (CScope.of (xs:=["wall"]) (js:=[1]) rfl) rfl (aU (dv 0)) (fun _ _ _ _=>(zR (uP (ly (en (ak (yU T).m hr (aa (dv 0) (aa (dv 1) ae)))) (hZ (aN (cK hr.units) (ak (cQ T).m hr (aa (dv 0) (aa (dv 1) ae))) ag)))))) (fun _ _ _ _=>(dv 0))) (ao (aB (fV (Cr (dv 2)) (ak (rD T).m hr (aa (dv 2) ae)) jY)))),fun _ _ M Q h=>?_⟩;obtain⟨t,b,X,Y,x,y,ws,rfl,rfl,S,hU,hF,hlen,bp,bq,k0,k1⟩:=h;have hwl:(ws.map (rwl t b X Y)).length=ws.length:=by simp
 have one:(0:Int)<1/\(1:Int)<=10^6:=by decide
 have W6:∀{z:Int},(0<=z/\z<=20)->(-(10^6)<=z/\z<=10^6):=fun{z} h=>by omega
 have bx:∀{z:Int},(0<=z/\z<=20)->Ma.Bq 200 (Ma.ut t b X 1 z):=fun{z} h=>S.bx one (W6 h);have by':∀{z:Int},(0<=z/\z<=20)->Ma.Bq 200 (Ma.ut t b Y 1 z):=fun{z} h=>S.by' one (W6 h)
 refine⟨_,rfl,ws.map (rwl t b X Y),rfl,zD (fun j=>if Bt t b X Y x y (wn ws j)=true then some (rwl t b X Y (wn ws j))else none) (by show(ws.map (rwl t b X Y)).length<=1000000;rw[hwl];omega) (fun _ _ _=>rfl) ?_ (fun lb hlb=>?_)⟩
 ·intro a d M6 ha hd sb;have hd:(ws.map (rwl t b X Y))[a]?=some d:=hd;have ha:a<ws.length:=by have:a<(ws.map (rwl t b X Y)).length:=ha;omega
  obtain⟨w1,w2,w3⟩:=aV (ws:=ws) (k:=(a:Int)) (by omega) (by omega);have w1':ws[a]?=some (wn ws a):=by rw[HQ]at w1;exact w1
  rw[Gr,w1']at hd;cases hd;have W:=hU _ w3;refine⟨_,rfl,fun K hK=>?_,fun v hv K hK=>?_⟩
  ·have hK':K (Bt t b X Y x y (wn ws a)) M6:=by cases z:Bt t b X Y x y (wn ws a)<;>rw[z]at hK<;>exact hK
   unfold Bt at hK';exact wN _ _ (fun K' hK2=>⟨_,rfl,_,rfl,200,_,_,_,_,_,_,rfl,rfl,bx W.a,by' W.b,bx W.c,by' W.d,bp,bq,by decide,_,rfl,hK2⟩) (fun _ K' hK2=>⟨_,rfl,_,rfl,200,_,_,_,_,_,_,rfl,rfl,bx W.a,by' W.b,bx W.c,by' W.d,bp,bq,by decide,_,rfl,hK2⟩) hK'
  ·cases z:Bt t b X Y x y (wn ws a)with
   |false=>rw[z]at hv;cases hv
   |true=>
    rw[z]at hv
    cases hv
    exact⟨_,rfl,hK _ .refl⟩
 dsimp only;rw[xr];refine⟨_,rfl,lb,_,rfl,af,?_⟩;by_cases he:bT t b X Y ws x y=[]
 ·rw[he];exact iA rfl ⟨_,.new hlb .refl,k0 he⟩
 ·obtain⟨tt,htt,htop⟩:=C1 S.t0 S.b0 hU hF he
  refine rm (by
   cases z:bT t b X Y ws x y with
   |nil=>exact absurd z he
   |cons a l=>rfl) ?_
  refine⟨_,rfl,lb,t,b,X,Y,(bT t b X Y ws x y).map (wAt ws),wAt ws tt,rfl,af,S,fun w hw=>?_,Hi.mpr ⟨tt,htt,rfl⟩,htop,⟨_,.new hlb .refl,k1 tt htt htop⟩⟩;obtain⟨kk,hk,rfl⟩:=Hi.mp hw;obtain⟨j,rfl,j1,_⟩:=fD.mp hk;exact aF hU j1
theorem gv:FnScope ["plot","lands","corner","wall"] ["plot","lands","corner"] (aq gZ):=by walk_at "sc"
inductive Cn_land_about(u v x:D)(M:MH)(Q:DK):Prop
 |mk (t b X Y:Int) (ws:List Wl) (l:Addr) (L:List Int) (c:Vc) (_:u=.tup (ws.map (rwl t b X Y))) (_:v=.ref l) (_:x=gsp t b X Y c) (_:M l=some (.lst (L.map D.int))) (_:L.length=2*ws.length) (_:Scl t b X Y) (_:(∀w∈ws,Un5 w)) (_:PF ws) (_:ws.length<=40) (_:B20 c) (_:Q (.int (laF ws L c)) M)
theorem oq(T:Tx K mg):Cal P w K mg base 7 "land_about" (sD3 Cn_land_about):=by
 refine mQ (k:=6) T.f_land_about gv fun f cdv A outer s H E hr=>⟨_,(ai (az 3 gv.nd (ak (gn T).m hr (aa (dv 0) (aa (dv 2) ae)))) (ao (aB (fV (aN wD (dv 3) jY) ag (aw (dv 1) (au aG ag (lN (kY hr) (dv 0) (aa (dv 3) ae)))))))),fun _ _ _ M Q h=>?_⟩;obtain⟨t,b,X,Y,ws,l,L,c,rfl,rfl,rfl,hl,hL,S,hU,hF,hlen,hc,k⟩:=h;have c1:=hc.1;have c2:=hc.2;have eb:=EL (X:=X) (Y:=Y) S.t0 S.b0 hU (p:=c.1) (q:=c.2) (by omega);refine⟨_,rfl,_,rfl,t,b,X,Y,_,_,ws,rfl,rfl,S,hU,hF,hlen,hc.bx S,hc.by' S,(fun he=>?_),(fun tt htt htop=>?_)⟩<;>rw[eb]at *
 ·have k:Q (.int 0) M:=by unfold laF at k;rw[if_pos he]at k;exact k
  exact⟨_,rfl,_,rfl,_,rfl,rm rfl (rtn k)⟩
 ·have sp:=ie (jf htt);obtain⟨w1,w2,w3⟩:=aV sp.1 sp.2.1;have tn:tt.toNat<ws.length:=by omega
  have k:Q (.int ((L[2*tt.toNat]?).getD 0)) M:=by unfold laF at k;rw[if_neg (II htt),zm hU hF htt htop]at k;exact k
  have h2:2*tt.toNat<L.length:=by omega
  rw[G8 h2]at k;refine⟨_,rfl,_,rfl,_,rfl,iA rfl ?_⟩;refine⟨_,rfl,_,rfl,_,rfl,_,rfl,_,rwP t b X Y (wAt ws tt),tt.toNat,rfl,(by simp;omega),Pd.of rfl,rfl,fun i y hi hy=>?_,?_⟩
  ·rw[Gr]at hy;cases ei:ws[i]? with
   |none=>rw[ei]at hy;cases hy
   |some U=>
    rw[ei]at hy
    cases hy
    refine⟨rwP t b X Y U,Pd.of rfl,rfl,?_⟩
    by_cases e:i=tt.toNat
    ·subst e;rw[w1]at ei;cases ei;rw[pV,decide_eq_true rfl]
    ·rw[decide_eq_false e];exact vH S.t0 S.b0 (hU _ (Gu ei)) (hU _ w3) (hF i tt.toNat _ _ e ei w1).ne
  ·refine⟨aQ (bG (by decide)),_,_,hl,(by rw[show(2:Int)*((tt.toNat:Nat):Int)=((2*tt.toNat:Nat):Int) by omega];exact b8 (v:=D.int L[2*tt.toNat]) (by rw[Gr,G8 h2];rfl)),rtn k⟩
theorem aH:FnScope ["plot","outers","inners","lands","number","ring","face","ring_at","corner","land"] ["plot"] (aq eM):=by walk_at "sc"
inductive Cn_lands_of_faces(u:D)(M:MH)(Q:DK):Prop
 |mk (t b X Y:Int) (ws:List Wl) (_:u=.tup (ws.map (rwl t b X Y))) (_:Scl t b X Y) (_:ws.length<=40) (_:(∀w∈ws,Un5 w)) (_:PF ws) (_:∀(M':MH) (z:Addr) (L:List Int),SD.Sub M M'->M z=none->M' z=some (.lst (L.map D.int))->cx ws L->Q (.ref z) M')
theorem eB(T:Tx K mg):Cal P w K mg base 9 "lands_of_faces" (sD1 Cn_lands_of_faces):=by
 refine fm (k:=8) T.f_lands_of_faces aH fun f cdv A outer s H E hr=>⟨_,(ai (cv (ak (iI T).m hr (aa (dv 0) ae)) (bH rfl (aA (ay 1 aH.nd) (aA (ay 2 aH.nd) ba)))) (ai (az 3 aH.nd (au zJ (b7 (aa ag ae)) (au aG ag (aO dP rfl T.b_len dA (aa (dv 0) ae))))) (ai (bV GO rfl (xl rfl T.b_enumerate (aa (dv 1) ae)) (bH rfl (aA (ay 4 aH.nd) (aA (ay 5 aH.nd) ba))) (ao (bV GO rfl (aU (dv 5)) (ay 6 aH.nd) (ao (cv (dv 4) (nG (dv 3) (dv 6))))))) (ai (vd 7 aH.nd (kY hr) (CScope.of (xs:=["ring"]) (js:=[0]) rfl) rfl (aU (dv 2)) (fun _ _ _ _=>dh) (fun _ _ _ _=>(ak (kr T).m hr (aa (dv 1) (aa (dv 0) ae)))) (fun _ _ _ _=>(dv 0))) (ai (bV GO rfl (aU (ak (gE T).m hr (aa (dq (oX rfl) rfl T.b_list tq (aa (dv 7) ae)) ae))) (ay 8 aH.nd) (ai (az 9 aH.nd (ak (oq T).m hr (aa (dv 0) (aa (dv 3) (aa (dv 8) ae))))) (ao (bV GO rfl (aU (ph (kY hr) (dv 7) (dv 8) (by intro _ _;with_unfolding_all rfl))) (ay 6 aH.nd) (ao (cv (dv 9) (nG (dv 3) (dv 6)))))))) (ao (aB (dv 3)))))))),fun _ M Q h=>?_⟩;obtain⟨t,b,X,Y,ws,rfl,S,hlen,hU,hF,k⟩:=h;have hwl:(ws.map (rwl t b X Y)).length=ws.length:=by simp
 refine⟨_,rfl,t,b,X,Y,ws,rfl,S,hlen,hU,hF,fun M1 lo li ps qs rs sb1 R ho hi RO RI flo fli fpq=>?_⟩;refine⟨_,rfl,rfl,_,_,rfl,_,_,rfl,rfl,?_⟩;have RO:=RO;generalize eouts:rs.filter (aM ws)=outs at RO;generalize eins:(rs.filter fun r=>!aM ws r)=ins at RI;have rmem:=jQ hU hF (Gq _) R;have hrs:=nS R;have hol:outs.length<=80:=by rw[<-eouts];have:=List.length_filter_le (aM ws) rs;omega
 have hil:ins.length<=80:=by rw[<-eins];have:=List.length_filter_le (fun r=>!aM ws r) rs;omega
 have omem:∀r∈outs,RgA ws r:=fun r hr=>rmem r (by rw[<-eouts]at hr;exact(GQ.mp hr).1);have imem:∀r∈ins,RgA ws r:=fun r hr=>rmem r (by rw[<-eins]at hr;exact(GQ.mp hr).1);have npo:=RO.len;have npi:=RI.len;refine⟨nbL rfl,fun z0 hz0=>⟨_,rfl,aQ (bG (by decide)),.int 0,af,by rw[hwl];omega,by rw[hwl];omega,fun z hz=>?_⟩⟩;have sb2:SD.Sub M1 (ax (ax M1 z0 (.lst [.int 0])) z (.lst (GZ ((2:Int)*((ws.map (rwl t b X Y)).length:Nat)).toNat (.int 0)))):=.new hz (.new hz0 .refl);have hz2:(ax (ax M1 z0 (.lst [.int 0])) z (.lst (GZ ((2:Int)*((ws.map (rwl t b X Y)).length:Nat)).toNat (.int 0)))) z=some (.lst ((fO (2*ws.length) outs 0).map D.int)):=by rw[af,hwl,show((2:Int)*(ws.length:Nat)).toNat=2*ws.length by omega,fO,List.map_replicate]
 have nz:∀{a o},M1 a=some o->a≠z:=fun h e=>by
  subst e
  have h0:=SD.Sub.new (o:=.lst [.int 0]) hz0 .refl _ _ h
  rw[hz]at h0;cases h0
 have fz:M z=none:=by
  cases e:M z with
  |none=>rfl
  |some o=>exact absurd rfl (nz (sb1 _ _ e))
 generalize ax (ax M1 z0 (.lst [.int 0])) z (.lst (GZ ((2:Int)*((ws.map (rwl t b X Y)).length:Nat)).toNat (.int 0)))=M2 at sb2 hz2 ⊢;(try dsimp only[SD.br])
 refine cy (fun δ M'=>∃o4 o5 o6:Option D,δ=[some (.tup (ws.map (rwl t b X Y))),some (.ref lo),some (.ref li),some (.ref z),o4,o5,o6,none,none,none]/\(∀c,c≠z->M' c=M2 c)/\M' z=some (.lst ((fO (2*ws.length) outs outs.length).map D.int))) ?_ (fun hu=>?_);rotate_left
 ·refine⟨_,rfl,lo,ps.map D.ref,rfl,sb2 _ _ ho,fun i δ M'=>∃o4 o5 o6:Option D,δ=[some (.tup (ws.map (rwl t b X Y))),some (.ref lo),some (.ref li),some (.ref z),o4,o5,o6,none,none,none]/\(∀c,c≠z->M' c=M2 c)/\M' z=some (.lst ((fO (2*ws.length) outs i).map D.int)),⟨_,_,_,rfl,fun _ _=>rfl,hz2⟩,fun i δ M' _ q=>by obtain⟨_,_,_,_,q,_⟩:=q;show M' lo=_;rw[q lo (nz ho)];exact sb2 _ _ ho,?_,?_⟩
  ·rintro i d δ M' hi hd ⟨o4,o5,o6,rfl,kM,hz'⟩;have hi:i<ps.length:=by have:i<(ps.map D.ref).length:=hi;simpa using this
   have hd:((ps.map D.ref)[i]?).map (fun d=>D.tup [.int ((i+1:Nat):Int),d])=some d:=hd;rw[Gr,G8 hi]at hd;cases hd;obtain⟨r,er,hpi⟩:=RO.get hi;have A:=omem r (Gu er);have hp2:M2 ps[i]=some (.lst (r.map fun g:Nat=>D.int (g:Int))):=sb2 _ _ hpi;refine⟨_,rfl,rfl,_,_,rfl,_,_,rfl,rfl,?_⟩;refine⟨_,rfl,r.map (fun g:Nat=>D.int (g:Int)),(by show M' ps[i]=_;rw[kM _ (nz hpi)];exact hp2),fun j δ M''=>∃o6:Option D,δ=[some (.tup (ws.map (rwl t b X Y))),some (.ref lo),some (.ref li),some (.ref z),some (.int ((i+1:Nat):Int)),some (.ref ps[i]),o6,none,none,none]/\(∀c,c≠z->M'' c=M2 c)/\M'' z=some (.lst ((gy (fO (2*ws.length) outs i) r ((i+1:Nat):Int) j).map D.int)),⟨_,rfl,kM,hz'⟩,fun j δ M'' _ q=>by obtain⟨_,_,q,_⟩:=q;show M'' ps[i]=_;rw[q _ (nz hpi)];exact hp2,?_,?_⟩
   ·rintro j d δ M'' hj hd ⟨o6,rfl,kM',hz''⟩;have hj:j<r.length:=by have:j<(r.map fun g:Nat=>D.int (g:Int)).length:=hj;simpa using this
    have hd:(r.map fun g:Nat=>D.int (g:Int))[j]?=some d:=hd;rw[Gr,G8 hj]at hd;cases hd;refine⟨_,rfl,_,rfl,_,rfl,_,r[j],hz'',tO (by rw[Gx,fY,gK];exact A.lt _ (HC hj)),?_⟩;exact⟨_,rfl,fun c hc=>by rw[aj hc];exact kM' c hc,by rw[af,jV (G8 hj),List.map_set]⟩
   ·rintro δ M'' ⟨o6,rfl,kM',hz''⟩;have hz'':M'' z=some (.lst ((gy (fO (2*ws.length) outs i) r ((i+1:Nat):Int) (r.map fun g:Nat=>D.int (g:Int)).length).map D.int)):=hz'';rw[Gx]at hz'';exact⟨_,_,_,rfl,kM',by rw[hz'',fO,er];rfl⟩
  ·rintro δ M' ⟨o4,o5,o6,rfl,kM,hz'⟩;have hz':M' z=some (.lst ((fO (2*ws.length) outs (ps.map D.ref).length).map D.int)):=hz';rw[Gx,npo]at hz';exact hu _ _ ⟨_,_,_,rfl,kM,hz'⟩
 rintro δ M3 ⟨o4,o5,o6,rfl,kM3,hz3⟩;have to3:∀{a o},M1 a=some o->M3 a=some o:=fun{a o} h=>by rw[kM3 a (nz h)];exact sb2 _ _ h
 refine⟨_,rfl,qs.map D.ref,to3 hi,by show(qs.map D.ref).length<=900000;rw[Gx];omega,fun p hp=>?_⟩;have np:∀{a o},M3 a=some o->a≠p:=fun h=>av h hp;refine⟨fun i kvs M'=>RDt t b X Y ws ins qs i kvs/\M'=ax M3 p (dsM kvs),⟨RDt.nil ..,rfl⟩,fun i kvs M' _ q=>by obtain⟨_,rfl⟩:=q;show(ax M3 p _) li=_;rw[aj (np (to3 hi))];exact to3 hi,?_,?_⟩
 ·rintro i kvs d M' hi' hd ⟨RD,rfl⟩;have hi':i<qs.length:=by have:i<(qs.map D.ref).length:=hi';simpa using this
  have hd:(qs.map D.ref)[i]?=some d:=hd;rw[Gr,G8 hi']at hd;cases hd;obtain⟨r,er,hqi⟩:=RI.get hi';have A:=imem r (Gu er);refine⟨_,rfl,?_⟩;dsimp only[SD.lT];refine CU ?_;refine⟨_,rfl,_,rfl,t,b,X,Y,ws,qs[i],r,rfl,rfl,(by rw[aj (np (to3 hqi))];exact to3 hqi),S,hU,hlen,A.pos,A.lt,?_⟩;refine⟨_,rfl,gk t b X Y (fc ws r),rN ..,af,?_,RD.put S.t0 S.b0 er (G8 hi'),by rw[bJ]⟩;have:=congrArg List.length RD.ks;rw[Gx,Gx]at this;have:=iZ ws ins i;omega
 rintro kvs M4 ⟨RD,rfl⟩;have RD:RDt t b X Y ws ins qs (qs.map D.ref).length kvs:=RD;rw[Gx,npi]at RD;have hz4:(ax M3 p (dsM kvs)) z=some (.lst ((fO (2*ws.length) outs outs.length).map D.int)):=by rw[aj (np hz3)];exact hz3
 have to4:∀{a o},M1 a=some o->(ax M3 p (dsM kvs)) a=some o:=fun{a o} h=>by rw[aj (np (to3 h))];exact to3 h
 have hp4:(ax M3 p (dsM kvs)) p=some (dsM kvs):=af
 have fp:M1 p=none:=by
  cases e:M1 p with
  |none=>rfl
  |some o=>rw[to3 e]at hp;cases hp
 generalize ax M3 p (dsM kvs)=M4 at hz4 to4 hp4 ⊢;refine⟨_,rfl,.inr ⟨p,kvs,rfl,hp4,fun p2 hp2=>?_⟩⟩
 have ek:kvs.map (fun x=>spD x.1)=(bR ws ins ins.length).map (gsp t b X Y):=by
  have:=congrArg (IG spD) RD.ks
  rw[List.map_map,List.map_map]at this
  exact this
 have kb:∀c∈bR ws ins ins.length,B20 c:=fun c hc=>by
  obtain⟨j,_,hj,e⟩:=fX hc
  rw[G8 hj]at e
  have A:=imem _ (HC hj)
  rw[<-e]
  exact om hU A.lt A.pos _ (Gq _)
 have kl:=iZ ws ins ins.length;refine⟨p2,t,b,X,Y,bR ws ins ins.length,rfl,(by rw[af,ek]),S,by omega,kb,jB ws ins _,fun M5 zc cs sb5 fzc hzc pm up=>?_⟩;have to5:∀{a o},M4 a=some o->M5 a=some o:=fun{a o} h=>sb5 _ _ (by rw[aj (av h hp2)];exact h);have hz5:=to5 hz4;have hp5:=to5 hp4;have nzc:zc≠z:=fun e=>by subst e;rw[aj (av hz4 hp2)]at fzc;rw[hz4]at fzc;cases fzc
 have npz:p≠z:=fun e=>by subst e;rw[hz3]at hp;cases hp
 refine⟨_,hzc,?_⟩;refine⟨fun i δ M'=>∃o6 o8 o9:Option D,δ=[some (.tup (ws.map (rwl t b X Y))),some (.ref lo),some (.ref li),some (.ref z),o4,o5,o6,some (.ref p),o8,o9]/\(∀c,c≠z->M' c=M5 c)/\M' z=some (.lst ((fS ws ins (fO (2*ws.length) outs outs.length) cs i).map D.int)),⟨_,_,_,rfl,fun _ _=>rfl,hz5⟩,fun i δ M' _ q=>by obtain⟨_,_,_,_,q,_⟩:=q;show M' zc=_;rw[q zc nzc];exact hzc,?_,?_⟩
 ·rintro i d δ M' hi' hd ⟨o6',o8,o9,rfl,kM,hz'⟩;have hi':i<cs.length:=by have:i<(cs.map (gsp t b X Y)).length:=hi';simpa using this
  have hd:(cs.map (gsp t b X Y))[i]?=some d:=hd;rw[Gr,G8 hi']at hd;cases hd;have hck:=pm.mem_iff.mp (HC hi');obtain⟨j,ej,hj,_⟩:=fX hck;have hjq:j<qs.length:=by omega
  obtain⟨r,er,hqj⟩:=RI.get hjq;have A:=imem r (Gu er);have hq5:M5 qs[j]=some (.lst (r.map fun g:Nat=>D.int (g:Int))):=to5 (to4 hqj);have nqz:=nz hqj;have eS:fS ws ins (fO (2*ws.length) outs outs.length) cs (i+1)=fill (fS ws ins (fO (2*ws.length) outs outs.length) cs i) r (laF ws (fS ws ins (fO (2*ws.length) outs outs.length) cs i) cs[i]):=by rw[fS,G8 hi',Option.getD_some,ej,Option.getD_some,er,Option.getD_some]
  refine⟨_,rfl,_,rfl,_,rfl,t,b,X,Y,ws,z,fS ws ins (fO (2*ws.length) outs outs.length) cs i,cs[i],rfl,rfl,rfl,hz',by rw[iO,gK],S,hU,hF,hlen,kb _ hck,?_⟩;refine⟨_,rfl,_,rfl,p,kvs,gk t b X Y cs[i],.ref qs[j],rfl,rN ..,(by rw[kM p npz];exact hp5),(by rw[RD.vs,ej];show(qs[j]?).map D.ref=_;rw[G8 hjq];rfl),r.map (fun g:Nat=>D.int (g:Int)),(by show M' qs[j]=_;rw[kM _ nqz];exact hq5),?_⟩;refine⟨fun a δ M''=>∃o6:Option D,δ=[some (.tup (ws.map (rwl t b X Y))),some (.ref lo),some (.ref li),some (.ref z),o4,o5,o6,some (.ref p),some (gsp t b X Y cs[i]),some (.int (laF ws (fS ws ins (fO (2*ws.length) outs outs.length) cs i) cs[i]))]/\(∀c,c≠z->M'' c=M5 c)/\M'' z=some (.lst ((gy (fS ws ins (fO (2*ws.length) outs outs.length) cs i) r (laF ws (fS ws ins (fO (2*ws.length) outs outs.length) cs i) cs[i]) a).map D.int)),⟨_,rfl,kM,hz'⟩,fun a δ M'' _ q=>by obtain⟨_,_,q,_⟩:=q;show M'' qs[j]=_;rw[q _ nqz];exact hq5,?_,?_⟩
  ·rintro a d δ M'' ha hd ⟨o6,rfl,kM',hz''⟩;have ha:a<r.length:=by have:a<(r.map fun g:Nat=>D.int (g:Int)).length:=ha;simpa using this
   have hd:(r.map fun g:Nat=>D.int (g:Int))[a]?=some d:=hd;rw[Gr,G8 ha]at hd;cases hd;refine⟨_,rfl,_,rfl,_,rfl,_,r[a],hz'',tO (by rw[Gx,fY,iO,gK];exact A.lt _ (HC ha)),?_⟩;exact⟨_,rfl,fun c hc=>by rw[aj hc];exact kM' c hc,by rw[af,jV (G8 ha),List.map_set]⟩
  ·rintro δ M'' ⟨o6,rfl,kM',hz''⟩;have hz'':M'' z=some (.lst ((gy (fS ws ins (fO (2*ws.length) outs outs.length) cs i) r (laF ws (fS ws ins (fO (2*ws.length) outs outs.length) cs i) cs[i]) (r.map fun g:Nat=>D.int (g:Int)).length).map D.int)):=hz'';rw[Gx]at hz'';exact⟨_,_,_,rfl,kM',by rw[hz'',eS];rfl⟩
 ·rintro δ M' ⟨o6',o8,o9,rfl,kM,hz'⟩;have hz':M' z=some (.lst ((fS ws ins (fO (2*ws.length) outs outs.length) cs (cs.map (gsp t b X Y)).length).map D.int)):=hz';rw[Gx]at hz';refine⟨_,rfl,rtn (k M' z _ (fun a o h=>?_) fz hz' ⟨rs,cs,R,by rw[eins];exact pm,up,by rw[eins,eouts]⟩)⟩;have h1:=sb1 _ _ h;rw[kM a (nz h1)];exact to5 (to4 h1)
theorem cU:FnScope ["plot","corners","wall","end"] ["plot"] (aq gW):=by walk_at "sc"
inductive Cn_corners_of(x:D)(M:MH)(Q:DK):Prop
 |mk (t b X Y:Int) (ws:List Wl) (_:x=.tup (ws.map (rwl t b X Y))) (_:Scl t b X Y) (_:ws.length<=40) (_:(∀w∈ws,Un5 w)) (_:∀(M':MH) (z:Addr) (ps:List Vc),SD.Sub M M'->M z=none->M' z=some (.lst (ps.map (gsp t b X Y)))->ps.Perm (cnr ws ws.length)->ps.Pairwise plt->Q (.ref z) M')
theorem oe(T:Tx K mg):Cal P w K mg base 5 "corners_of" (sD1 Cn_corners_of):=by
 refine fm (k:=4) T.f_corners_of cU fun f cdv A outer s H E hr=>⟨_,(ai (az 1 cU.nd pU) (ai (bV GO rfl (aU (dv 0)) (ay 2 cU.nd) (ao (bV GO rfl (aU (dv 2)) (ay 3 cU.nd) (ao (xA (kY hr) (dv 1) (ak (gR T).m hr (aa (dv 3) ae)) jU))))) (ao (aB (ak (gE T).m hr (aa (dq (oX rfl) rfl T.b_list tq (aa (dv 1) ae)) ae)))))),fun _ M Q h=>?_⟩;obtain⟨t,b,X,Y,ws,rfl,S,hn,hU,k⟩:=h;intro c hc;refine⟨_,rfl,ws.map (rwl t b X Y),rfl,?_⟩;refine⟨fun i δ M'=>∃(o2 o3:Option D),δ=[some (.tup (ws.map (rwl t b X Y))),some (.ref c),o2,o3]/\SD.Sub M M'/\M' c=some (dsM (cdT t b X Y (cnr ws i))),⟨_,_,rfl,.new hc .refl,af⟩,fun i δ M' _ q=>rfl,?_,?_⟩
 ·rintro i d δ M' hi hd ⟨o2,o3,rfl,sb,hc'⟩;have hd:(ws.map (rwl t b X Y))[i]?=some d:=hd;rw[Gr]at hd;cases ew:ws[i]? with
  |none=>rw[ew]at hd;cases hd
  |some w=>
   rw[ew]at hd
   cases hd
   have iw:i<ws.length:=(Gz.mp ew).1
   have hw:=hU w (Gu ew)
   have lc:=oo ws i
   refine⟨_,rfl,[gsp t b X Y (ea w),gsp t b X Y (eb w)],rfl,?_⟩
   refine⟨fun j δ M''=>∃(us:List Vc) (o3:Option D),δ=[some (.tup (ws.map (rwl t b X Y))),some (.ref c),some (rwl t b X Y w),o3]/\SD.Sub M M''/\M'' c=some (dsM (cdT t b X Y us))/\us.length<=2*i+j/\(j=0->us=cnr ws i)/\(j=1->us=fR (cnr ws i) (ea w))/\(j=2->us=fR (fR (cnr ws i) (ea w)) (eb w)),⟨cnr ws i,_,rfl,sb,hc',by omega,fun _=>rfl,fun h=>by omega,fun h=>by omega⟩,fun i δ M' _ q=>rfl,?_,?_⟩
   ·rintro j d δ M'' hj hd ⟨us,o3,rfl,sb2,hc2,lu,u0,u1,u2⟩;have hj:j<2:=hj
    obtain⟨u,rfl,bu,hu⟩:∃u,d=gsp t b X Y u/\B20 u/\(j=0->u=ea w)/\(j=1->u=eb w):=by
     have hd:([gsp t b X Y (ea w),gsp t b X Y (eb w)]:List D)[j]?=some d:=hd;rcases(show j=0\/j=1 by omega)with rfl|rfl
     ·cases hd;exact⟨_,rfl,hw.ea,fun _=>rfl,fun h=>by omega⟩
     ·cases hd;exact⟨_,rfl,hw.eb,fun h=>by omega,fun _=>rfl⟩
    refine⟨_,rfl,_,rfl,_,_,rfl,(bu.bx S).mono (by decide),(bu.by' S).mono (by decide),c,_,gk t b X Y u,rfl,rN t b X Y u,hc2,?_,fR us u,_,rfl,?_,by rw[af,zU S.t0 S.b0],by have:=k5 us u;omega,fun h=>by omega,fun h=>?_,fun h=>?_⟩
    ·show(cdT t b X Y us).length<_;unfold cdT;rw[Gx];omega
    ·intro a o h;rw[aj (av h hc)];exact sb2 _ _ h
    ·have:j=0:=by omega
     rw[u0 this,hu.1 this]
    ·have:j=1:=by omega
     rw[u1 this,hu.2 this]
   ·rintro δ M'' ⟨us,o3,rfl,sb2,hc2,lu,u0,u1,u2⟩;refine⟨_,_,rfl,sb2,?_⟩;rw[hc2,u2 rfl]
    congr 3
    show _=(match ws[i]? with|some w=>fR (fR (cnr ws i) (ea w)) (eb w)|none=>cnr ws i);rw[ew]
 ·rintro δ M' ⟨o2,o3,rfl,sb,hc'⟩
  have hc':M' c=some (dsM (cdT t b X Y (cnr ws ws.length))):=by
   have e:(ws.map (rwl t b X Y)).length=ws.length:=by simp
   rw[<-e];exact hc'
  refine⟨_,rfl,.inr ⟨c,_,rfl,hc',fun p hp=>?_⟩⟩;have ek:(cdT t b X Y (cnr ws ws.length)).map (fun x=>spD x.1)=(cnr ws ws.length).map (gsp t b X Y):=by unfold cdT;rw[List.map_map];rfl
  rw[ek];have lc:=oo ws ws.length;refine⟨p,t,b,X,Y,cnr ws ws.length,rfl,af,S,by omega,Ff hU,qX ws _,fun M2 z ps sb2 hz hz2 pm up=>?_⟩;have zp:z≠p:=fun e=>by subst e;rw[af]at hz;cases hz
  have zM':M' z=none:=by rw[aj zp]at hz;exact hz
  have zM:M z=none:=by
   cases e:M z with
   |none=>rfl
   |some o=>rw[sb _ _ e]at zM';cases zM'
  exact⟨M2,.refl,k M2 z ps (fun a o h=>sb2 _ _ (by rw[aj (av (sb _ _ h) hp)];exact sb _ _ h)) zM hz2 pm up⟩
theorem gM:FnScope ["wall","spot","first","second"] ["wall","spot"] (aq m9):=by walk_at "sc"
inductive Cn_lies_on(u v:D)(M:MH)(Q:DK):Prop
 |mk (n:Nat) (a b c d x y:Rat) (_:u=Ma.wll a b c d) (_:v=Ma.spt x y) (_:Ma.Bq n a) (_:Ma.Bq n b) (_:Ma.Bq n c) (_:Ma.Bq n d) (_:Ma.Bq n x) (_:Ma.Bq n y) (_:n<=1900) (_:Q (.bl (decide (Ma.cr a b c d x y=0/\¬Ma.ah x y a b/\¬Ma.ah c d x y))) M)
theorem vg(T:Tx K mg):Cal P w K mg base 4 "lies_on" (sD2 Cn_lies_on):=by
 refine bw (k:=3) T.f_lies_on gM fun f cdv A outer s H E hr=>⟨_,(ai (cv (dv 0) (bH rfl (aA (ay 2 gM.nd) (aA (ay 3 gM.nd) ba)))) (ao (aB (oh (cZ (cK hr.units) (ak (cQ T).m hr (aa (dv 0) (aa (dv 1) ae))) ag) (oh (qD (ak (bS T).m hr (aa (dv 1) (aa (dv 2) ae)))) (nR (qD (ak (bS T).m hr (aa (dv 3) (aa (dv 1) ae)))))))))),fun _ _ M Q h=>?_⟩;obtain⟨n,a,b,c,d,x,y,rfl,rfl,ha,hb,hc,hd,hx,hy,hn,k⟩:=h;have mo:∀{q:Rat},Ma.Bq n q->Ma.Bq 100000 q:=fun z=>z.mono (by omega);refine⟨_,rfl,_,rfl,rfl,_,_,rfl,_,_,rfl,rfl,?_⟩;(try dsimp only[SD.gC,SD.dX,SD.br,SD.gV,SD.h8,SD.dO,SD.ff,SD.tBD,SD.iz])
 refine Aj (decide (Ma.sgn (Ma.cr a b c d x y)=0)) (!decide (Ma.ah x y a b)&&!decide (Ma.ah c d x y)) (fun K hK=>⟨_,rfl,_,rfl,n,a,b,c,d,x,y,rfl,rfl,ha,hb,hc,hd,hx,hy,hn,hK⟩) (fun _ K hK=>?_) ?_
 ·refine Aj (!decide (Ma.ah x y a b)) (!decide (Ma.ah c d x y)) (fun K hK=>⟨_,rfl,_,rfl,x,y,a,b,rfl,rfl,mo hx,mo hy,mo ha,mo hb,_,rfl,hK⟩) (fun _ K hK=>⟨_,rfl,_,rfl,c,d,x,y,rfl,rfl,mo hc,mo hd,mo hx,mo hy,_,rfl,hK⟩) hK
 have e:(decide (Ma.sgn (Ma.cr a b c d x y)=0)&&(!decide (Ma.ah x y a b)&&!decide (Ma.ah c d x y)))=decide (Ma.cr a b c d x y=0/\¬Ma.ah x y a b/\¬Ma.ah c d x y):=by rw[Jj,Jj,decide_not,decide_not,decide_eq_decide.mpr (Ma.pP _)]
 rw[e];exact rtn k
theorem gD:FnScope ["plot","spot","wall"] ["plot","spot"] (aq ig):=by walk_at "sc"
inductive Cn_wall_below(u v:D)(M:MH)(Q:DK):Prop
 |mk (t b X Y:Int) (x y:Rat) (ws:List Wl) (_:u=.tup (ws.map (rwl t b X Y))) (_:v=Ma.spt x y) (_:Scl t b X Y) (_:(∀w∈ws,Un5 w)) (_:PF ws) (_:ws.length<=40) (_:Ma.Bq 200 x) (_:Ma.Bq 200 y) (_:(bT t b X Y ws x y=[]->Q .non M)) (_:∀tt∈bT t b X Y ws x y,(∀w∈(bT t b X Y ws x y).map (wAt ws),w=wAt ws tt\/(abv (wAt ws tt) w=true/\abv w (wAt ws tt)=false))->Q (.int tt) M)
theorem nt(T:Tx K mg):Cal P w K mg base 7 "wall_below" (sD2 Cn_wall_below):=by
 refine bw (k:=6) T.f_wall_below gD fun f cdv A outer s H E hr=>⟨_,(ai (az 2 gD.nd (ak (gn T).m hr (aa (dv 0) (aa (dv 1) ae)))) (ao (aB (fV (aN wD (dv 2) jY) jY (lN (kY hr) (dv 0) (aa (dv 2) ae)))))),fun _ _ M Q h=>?_⟩;obtain⟨t,b,X,Y,x,y,ws,rfl,rfl,S,hU,hF,hlen,bp,bq,k0,k1⟩:=h;refine⟨_,rfl,_,rfl,t,b,X,Y,x,y,ws,rfl,rfl,S,hU,hF,hlen,bp,bq,(fun he=>?_),(fun tt htt htop=>?_)⟩
 ·exact⟨_,rfl,_,rfl,_,rfl,rm rfl (rtn (k0 he))⟩
 ·obtain⟨tn,et,t1,_⟩:=fD.mp htt;obtain⟨w1,w2,w3⟩:=aV (ws:=ws) (k:=tt) (by omega) (by omega);refine⟨_,rfl,_,rfl,_,rfl,iA rfl ?_⟩;refine⟨_,rfl,_,rfl,_,rfl,_,rwP t b X Y (wAt ws tt),tt.toNat,rfl,(by simp;omega),Pd.of rfl,rfl,fun i y hi hy=>?_,?_⟩
  ·rw[Gr]at hy;cases ei:ws[i]? with
   |none=>rw[ei]at hy;cases hy
   |some U=>
    rw[ei]at hy
    cases hy
    refine⟨rwP t b X Y U,Pd.of rfl,rfl,?_⟩
    by_cases e:i=tt.toNat
    ·subst e;rw[w1]at ei;cases ei;rw[pV,decide_eq_true rfl]
    ·rw[decide_eq_false e];exact vH S.t0 S.b0 (hU _ (Gu ei)) (hU _ w3) (hF i tt.toNat _ _ e ei w1).ne
  ·rw[Int.toNat_of_nonneg (by omega)];exact rtn (k1 tt htt htop)
theorem bo:FnScope ["plot","lands","spot","corners","number","wall","below"] ["plot","lands","spot"] (aq dZ):=by walk_at "sc"
inductive Cn_look_with_lands(x y s:D)(M:MH)(Q:DK):Prop
 |mk (t b X Y:Int) (ws:List Wl) (lv:Addr) (L:List Int) (d:D) (_:x=.tup (ws.map (rwl t b X Y))) (_:y=.ref lv) (_:M lv=some (.lst (L.map D.int))) (_:L.length=2*ws.length) (_:Scl t b X Y) (_:ws.length<=40) (_:(∀w∈ws,Un5 w)) (_:PF ws) (_:LookR t b X Y ws L s d) (_:∀M',SD.Sub M M'->Q d M')
theorem iE(T:Tx K mg):Cal P w K mg base 8 "look_with_lands" (sD3 Cn_look_with_lands):=by
 refine mQ (k:=7) T.f_look_with_lands bo fun f cdv A outer s H E hr=>⟨_,(ai (az 3 bo.nd (ak (oe T).m hr (aa (dv 0) ae))) (ai (bF (aN (D3 (kY hr)) (dv 2) (dv 3) (by with_unfolding_all rfl)) (ao pg) aP) (ai (bV GO rfl (vY rfl T.b_enumerate (aa (dv 0) ae)) (bH rfl (aA (ay 4 bo.nd) (aA (ay 5 bo.nd) ba))) (ao (bF (en (ak (vg T).m hr (aa (dv 5) (aa (dv 2) ae)))) (ao (aB (aE (aa ko (aa (dv 4) ae))))) aP))) (ai (az 6 bo.nd (ak (nt T).m hr (aa (dv 0) (aa (dv 2) ae)))) (ao (aB (aE (aa ko (aa (fV (aN wD (dv 6) jY) ag (aw (dv 1) (au aG ag (dv 6)))) ae))))))))),fun _ _ _ M Q h=>?_⟩;obtain⟨t,b,X,Y,ws,lv,L,d,rfl,rfl,hlv,hL,S,hn,hU,hF,Td,k⟩:=h;refine⟨_,rfl,t,b,X,Y,ws,rfl,S,hn,hU,fun M1 z ps sb nz hz pm up=>?_⟩;cases Td with
 |wall i w h1=>
  have ex:Ma.ut t b X 2000000 (1000000*mx w)=Ma.ut t b X 2 (ix w 2 1):=(Ma.dz S.t0 S.b0 (by decide) (by decide)).mpr (by unfold ix mx;omega)
  have ey:Ma.ut t b Y 2000000 (1000000*my w)=Ma.ut t b Y 2 (iy w 2 1):=(Ma.dz S.t0 S.b0 (by decide) (by decide)).mpr (by unfold iy my;omega)
  rw[ex,ey]
  have h2:(0:Int)<1:=by decide
  have h3:(1:Int)<2:=by decide
  have h4:(2:Int)<=6:=by decide
  have hw:=hU w (Gu h1)
  have hi:=(Gz.mp h1).1
  have m0:(0:Int)<2:=by decide
  have bix:-(10^6)<=ix w 2 1/\ix w 2 1<=10^6:=oJ hw.a hw.c (by omega) (by omega) h4
  have biy:-(10^6)<=iy w 2 1/\iy w 2 1<=10^6:=oJ hw.b hw.d (by omega) (by omega) h4
  have bx:=S.bx (m:=2) (p:=ix w 2 1) (by omega) bix
  have by':=S.by' (m:=2) (p:=iy w 2 1) (by omega) biy
  refine⟨_,rfl,_,rfl,sM hz (fun u hu hq=>?_) ⟨_,rfl,iA rfl ?_⟩⟩
  ·rw[Ma.dz S.t0 S.b0 (by decide) m0,Ma.dz S.t0 S.b0 (by decide) m0]at hq;exact rl hU hF h1 h2 h3 (pm.mem_iff.mp hu) ⟨by omega,by omega⟩
  refine⟨_,rfl,_,rfl,fun j δ M'=>∃o1 o4 o5 o6:Option D,δ=[some (.tup (ws.map (rwl t b X Y))),o1,some (Ma.spt (Ma.ut t b X 2 (ix w 2 1)) (Ma.ut t b Y 2 (iy w 2 1))),some (.ref z),o4,o5,o6]/\SD.Sub M M'/\j<=i,⟨_,_,_,_,rfl,sb,HR _⟩,fun _ _ _ _ _=>trivial,?_,?_⟩
  ·rintro j e δ M' hj hd ⟨o1,o4,o5,o6,rfl,sb',hji⟩;have hj:j<ws.length:=by omega
   have ev:ws[j]?=some ws[j]:=G8 hj;have hv:=hU _ (HC hj);generalize ws[j]=v at ev hv;have hd:((ws.map (rwl t b X Y))[j]?).map (fun d=>D.tup [.int (j:Int),d])=some e:=hd;rw[Gr,ev]at hd;cases hd;refine⟨_,rfl,rfl,_,_,rfl,_,_,rfl,rfl,?_⟩;have q:∀z:Int,(0<=z/\z<=20)->(-(10^6)<=z/\z<=10^6):=fun z h=>by omega
   refine⟨_,rfl,_,rfl,200,_,_,_,_,_,_,rfl,rfl,S.bx (by decide) (q _ hv.a),S.by' (by decide) (q _ hv.b),S.bx (by decide) (q _ hv.c),S.by' (by decide) (q _ hv.d),bx,by',by decide,_,rfl,?_⟩;by_cases e:i=j
   ·subst e;rw[h1]at ev;cases ev;refine rm (decide_eq_true ((kJ w S.t0 S.b0 m0).mpr (zI hw h2 h3))) ?_;exact⟨_,rfl,nbL rfl,rtn (k _ sb')⟩
   ·refine iA (decide_eq_false fun q=>jk hw hv (hF i j w v e h1 ev) h2 h3 ((kJ v S.t0 S.b0 m0).mp q)) ?_;exact⟨_,_,_,_,rfl,sb',by omega⟩
  ·rintro δ M' ⟨o1,o4,o5,o6,rfl,sb',hji⟩;have hji:(ws.map (rwl t b X Y)).length<=i:=hji;rw[Gx]at hji;omega
 |land p q v bp bq off z0 tp=>
  have m0:(0:Int)<2000000:=by decide
  have bx:=(S.bx9 (m:=2000000) (by decide) bp).1
  have by':=(S.bx9 (m:=2000000) (by decide) bq).2
  refine⟨_,rfl,_,rfl,sM hz (fun u hu hq=>?_) ⟨_,rfl,iA rfl ?_⟩⟩
  ·rw[Ma.dz S.t0 S.b0 (by decide) m0,Ma.dz S.t0 S.b0 (by decide) m0]at hq;obtain⟨j,v',jl,ev,hv⟩:=(jL _).mp (pm.mem_iff.mp hu);have ewn:wn ws j=v':=by unfold wn wAt;rw[HQ,ev];rfl
   refine off j jl ?_;rw[ewn];refine sX (hU v' (Gu ev)) ?_ m0;rcases hv with rfl|rfl
   ·exact .inl ⟨by have:=hq.1;unfold ea at this;omega,by have:=hq.2;unfold ea at this;omega⟩
   ·exact .inr ⟨by have:=hq.1;unfold eb at this;omega,by have:=hq.2;unfold eb at this;omega⟩
  refine⟨_,rfl,_,rfl,fun j δ M'=>∃o4 o5 o6:Option D,δ=[some (.tup (ws.map (rwl t b X Y))),some (.ref lv),some (Ma.spt (Ma.ut t b X 2000000 p) (Ma.ut t b Y 2000000 q)),some (.ref z),o4,o5,o6]/\SD.Sub M M',⟨_,_,_,rfl,sb⟩,fun _ _ _ _ _=>trivial,?_,?_⟩
  ·rintro j e δ M' hj hd ⟨o4,o5,o6,rfl,sb'⟩;have hj:j<ws.length:=by have:j<(ws.map (rwl t b X Y)).length:=hj;rw[Gx]at this;exact this
   have ev:ws[j]?=some (wn ws j):=by obtain⟨w1,_,_⟩:=aV (ws:=ws) (k:=(j:Int)) (by omega) (by omega);rw[HQ]at w1;exact w1
   have hv:=aF hU hj;have of:=off j hj;generalize wn ws j=v' at ev hv of;have hd:((ws.map (rwl t b X Y))[j]?).map (fun d=>D.tup [.int (j:Int),d])=some e:=hd;rw[Gr,ev]at hd;cases hd;refine⟨_,rfl,rfl,_,_,rfl,_,_,rfl,rfl,?_⟩;have q20:∀z:Int,(0<=z/\z<=20)->(-(10^6)<=z/\z<=10^6):=fun z h=>by omega
   refine⟨_,rfl,_,rfl,200,_,_,_,_,_,_,rfl,rfl,S.bx (by decide) (q20 _ hv.a),S.by' (by decide) (q20 _ hv.b),S.bx (by decide) (q20 _ hv.c),S.by' (by decide) (q20 _ hv.d),bx,by',by decide,_,rfl,?_⟩;refine iA (decide_eq_false fun y=>of ((kJ v' S.t0 S.b0 m0).mp y)) ?_;exact⟨_,_,_,rfl,sb'⟩
  ·rintro δ M' ⟨o4,o5,o6,rfl,sb'⟩;refine⟨_,rfl,_,rfl,t,b,X,Y,_,_,ws,rfl,rfl,S,hU,hF,hn,bx,by',(fun he=>?_),(fun tt htt htop=>?_)⟩
   ·have ev:=z0 fun k hk y=>by
     have:((k:Nat):Int)∈bT t b X Y ws (Ma.ut t b X 2000000 p) (Ma.ut t b Y 2000000 q):=fD.mpr ⟨k,rfl,hk,(qP S.t0 S.b0 m0 _ p q).mpr y⟩
     rw[he]at this;cases this
    have kq:=k M' sb';rw[ev]at kq;exact⟨_,rfl,_,rfl,_,rfl,rm rfl ⟨nbL rfl,rtn kq⟩⟩
   ·obtain⟨u,rfl,u1,u2⟩:=fD.mp htt
    have e:=tp u u1 ((qP S.t0 S.b0 m0 _ p q).mp u2) fun k hk ne y=>by
     rcases htop _ (Hi.mpr ⟨((k:Nat):Int),fD.mpr ⟨k,rfl,hk,(qP S.t0 S.b0 m0 _ p q).mpr y⟩,rfl⟩)with q'|q'
     ·exfalso;have F:=aL hF hk u1 ne;have q':wn ws k=wn ws u:=q';exact F.ne ⟨by rw[q'],by rw[q']⟩
     ·exact q'.1
    refine⟨_,rfl,_,rfl,_,rfl,iA rfl ⟨_,rfl,_,rfl,aQ (bG (by decide)),_,_,sb' _ _ hlv,(by rw[show(2:Int)*((u:Nat):Int)=((2*u:Nat):Int) by omega];exact b8 (v:=D.int v) (by rw[Gr,e];rfl)),nbL rfl,rtn (k M' sb')⟩⟩
theorem jG:FnScope ["plot","spot"] ["plot","spot"] (aq fP):=by walk_at "sc"
inductive Cn_look_plainly(x s:D)(M:MH)(Q:DK):Prop
 |mk (t b X Y:Int) (ws:List Wl) (d:D) (_:x=.tup (ws.map (rwl t b X Y))) (_:Scl t b X Y) (_:ws.length<=40) (_:(∀w∈ws,Un5 w)) (_:PF ws) (_:(∀L,cx ws L->LookR t b X Y ws L s d)) (_:∀M',SD.Sub M M'->Q d M')
theorem kP(T:Tx K mg):Cal P w K mg base 10 "look_plainly" (sD2 Cn_look_plainly):=by refine bw (k:=9) T.f_look_plainly jG fun f cdv A outer s H E hr=>⟨_,(ao (aB (ak (iE T).m hr (aa (dv 0) (aa (ak (eB T).m hr (aa (dv 0) ae)) (aa (dv 1) ae)))))),fun _ _ M Q h=>?_⟩;obtain⟨t,b,X,Y,ws,d,rfl,S,hn,hU,hF,Td,k⟩:=h;refine⟨_,rfl,_,rfl,t,b,X,Y,ws,rfl,S,hn,hU,hF,fun M1 z L sb nz hz il=>?_⟩;exact⟨_,rfl,t,b,X,Y,ws,z,L,d,rfl,rfl,hz,il.len,S,hn,hU,hF,Td L il,fun M' s'=>rtn (k M' (SD.Sub.trans sb s'))⟩
theorem cH:FnScope ["_law_scale_here","_law_told","_law_top","_law_bottom","_law_x","_law_y","_law_many"] ["_law_scale_here","_law_told"] (aq j8):=by walk_at "sc"
inductive Cn_law_real(s v:D)(M:MH)(Q:DK):Prop
 |mk (t b x y p q m:Int) (_:s=scl t b x y) (_:v=.tup [.int p,.int q,.int m]) (_:Scl t b x y) (_:(-(10^9)<=p/\p<=10^9)) (_:(-(10^9)<=q/\q<=10^9)) (_:(0<m/\m<=10^9)) (_:Q (Ma.spt (Ma.ut t b x m p) (Ma.ut t b y m q)) M)
theorem rk(T:Tx K mg):Cal P w K mg base 2 "_law_real" (sD2 Cn_law_real):=by
 refine bw (k:=1) T.f_law_real cH fun f cdv A outer s H E hr=>⟨_,(ai (cv (dv 0) (bH rfl (aA (ay 2 cH.nd) (aA (ay 3 cH.nd) (aA (ay 4 cH.nd) (aA (ay 5 cH.nd) ba)))))) (ai (az 6 cH.nd (aw (dv 1) ag)) (ao (aB (aE (aa (ak (gg T).m hr (aa (au aI (au aG (aw (dv 1) ag) (dv 2)) (au aG (dv 4) (dv 6))) (aa (au aG (dv 3) (dv 6)) ae))) (aa (ak (gg T).m hr (aa (au aI (au aG (aw (dv 1) ag) (dv 2)) (au aG (dv 5) (dv 6))) (aa (au aG (dv 3) (dv 6)) ae))) ae))))))),fun _ _ M Q h=>?_⟩;obtain⟨t,b,x,y,p,q,m,rfl,rfl,S,hp,hq,hm,k⟩:=h;have bt:Bd 100 t:=by have:=S.t0;have:=S.t1;show t.natAbs<2^100;omega
 have bm:Bd 64 m:=by show m.natAbs<2^64;omega
 have bp:∀{z:Int},(-(10^9)<=z/\z<=10^9)->Bd 64 z:=fun{z} h=>by show z.natAbs<2^64;omega
 have bb:Bd 100 b:=by have:=S.b0;have:=S.b1;show b.natAbs<2^100;omega
 have big:∀{z w:Int},(-(10^9)<=z/\z<=10^9)->(-(10^30)<=w/\w<=10^30)->Bd 8000 (z*t+w*m):=fun{z w} h1 h2=>by
  have e1:Bd 200 (z*t):=((bp h1).mul bt).mono (by decide)
  have e2:Bd 200 (w*m):=(Bd.mul (m:=100) (n:=64) (by show w.natAbs<2^100;omega) bm).mono (by decide)
  exact(e1.add e2).mono (by decide)
 have hb0:b*m≠0:=by have:=GF S.b0 hm.1;omega
 have bbm:Bd 8000 (b*m):=(bb.mul bm).mono (by decide);refine⟨_,rfl,_,rfl,rfl,_,_,rfl,_,_,rfl,_,_,rfl,_,_,rfl,rfl,?_⟩;refine⟨_,rfl,_,rfl,?_⟩;refine⟨_,rfl,_,rfl,_,rfl,aQ (bp hp),_,rfl,_,rfl,e7 bm,_,rfl,_,rfl,e7 bm,p*t+x*m,b*m,rfl,rfl,hb0,big hp ⟨S.x0,S.x1⟩,bbm,?_⟩;refine⟨_,rfl,_,rfl,_,rfl,aQ (bp hq),_,rfl,_,rfl,e7 bm,_,rfl,_,rfl,e7 bm,q*t+y*m,b*m,rfl,rfl,hb0,big hq ⟨S.y0,S.y1⟩,bbm,nbL rfl,?_⟩;exact rtn k
theorem bO:FnScope ["_law_script","_law_k","_law_row","_law_scale_here","_law_shuts","_law_plot","_law_faces","_law_at","_law_shut","_law_first","_law_second","_law_far","_law_x","_law_y","_law_near","_law_spots","_law_due"] ["_law_script"] (aq Aw):=by walk_at "sc"
inductive Cn_law(x:D)(M:MH)(Q:DK):Prop
 |mk (ns:_) (hh0:x=.rol (IG D.int ns)) (hh1:ns.length<=63) (hh2:∀M',Q (.bl true) M'):Cn_law x M Q
def iL:SpD:=fun ds M Q=>match ds with
 |[x]=>Cn_law x M Q
 |_=>False
theorem Bj:∀ds M Q,iL ds M Q->ds.length=1:=fun ds M Q h=>by
 unfold iL at h;split at h
 ·rfl
 ·exact h.elim
theorem Ex{P:GL}{w:Hk}{K:G5}{mg:Str->Option G0}{fa:Addr}(T:Tx K mg)(hfa:mg "law"=some (.ref fa)):∃fd,(∀(s:G6) (u:G0),BindsTo s fd ⟨[u],[]⟩ [("_law_script",u)])/\∀base:Heap,FnOk P w K mg base CX0 11 fa fd ["_law_script"] (gO K iL):=by
 refine FN (k:=10) (N:=["_law_script","_law_k","_law_row","_law_scale_here","_law_shuts","_law_plot","_law_faces","_law_at","_law_shut","_law_first","_law_second","_law_far","_law_x","_law_y","_law_near","_law_spots","_law_due"]) T.f_law hfa bO (fun _ _ _ _ _ _ us hl=>by obtain⟨_,rfl⟩:=SD.CW hl;rfl) Bj fun base f cdv A outer s H E hr=>⟨_,(ai (d8 GO rfl rfl T.b_range (aa (aO (nW rfl hr.units) rfl T.b_max qu (aa ag (aa (aO (jT rfl hr.units) rfl T.b_min nU (aa ag (aa (aO dP rfl T.b_len dA (aa (dv 0) ae)) ae))) ae))) ae) (ay 1 bO.nd) (ai (az 2 bO.nd (b7 (aa (ak (l6 T).m hr (aa (dv 0) (aa (dv 1) ae))) (aa ag ae)))) (ai (az 3 bO.nd (ak (pj T).m hr (aa (dv 2) ae))) (ai (az 4 bO.nd (ak (iR T).m hr (aa (dv 2) (aa ag (aa ag ae))))) (ai (bF (aN (cK hr.units) (ak (aC T).m hr (aa (dv 2) (aa ag ae))) ag) (ao (az 4 bO.nd (ak (uM T).m hr (aa (dv 2) ae)))) aP) (ai (az 5 bO.nd (ak (qZ T).m hr (aa (dv 3) (aa (dv 4) ae)))) (ai (az 6 bO.nd (ak (eB T).m hr (aa (dv 5) ae))) (ao (d8 GO rfl rfl T.b_range (aa (aO (jT rfl hr.units) rfl T.b_min nU (aa ag (aa (aO dP rfl T.b_len dA (aa (dv 4) ae)) ae))) ae) (ay 7 bO.nd) (ai (az 8 bO.nd (au fF (au aI (dv 7) (ak (aC T).m hr (aa (dv 2) (aa (aO dP rfl T.b_len dA (aa (dv 4) ae)) ae)))) (aO dP rfl T.b_len dA (aa (dv 4) ae)))) (ai (cv (aw (dv 4) (dv 8)) (bH rfl (aA (ay 9 bO.nd) (aA (ay 10 bO.nd) ba)))) (ai (az 11 bO.nd (au gG ag ag)) (ai (az 12 bO.nd (au aG (au aI (aw (dv 9) ag) (aw (dv 10) ag)) (dv 11))) (ai (az 13 bO.nd (au aG (au aI (aw (dv 9) ag) (aw (dv 10) ag)) (dv 11))) (ai (az 14 bO.nd (b7 (aa (au cE (aw (dv 10) ag) (aw (dv 9) ag)) (aa (au cE (aw (dv 9) ag) (aw (dv 10) ag)) ae)))) (ai (az 15 bO.nd (b7 (aa (aE (aa (au cE (dv 12) (aw (dv 14) ag)) (aa (au cE (dv 13) (aw (dv 14) ag)) (aa (au aG ag (dv 11)) ae)))) (aa (aE (aa (dv 12) (aa (dv 13) (aa (au aG ag (dv 11)) ae)))) (aa (aE (aa (au aI (dv 12) (aw (dv 14) ag)) (aa (au aI (dv 13) (aw (dv 14) ag)) (aa (au aG ag (dv 11)) ae)))) ae))))) (ai (az 16 bO.nd (b7 (aa (aE (aa ko (aa (aw (dv 6) (au aG ag (dv 8))) ae))) (aa (aE (aa ko (aa (dv 8) ae))) (aa (aE (aa ko (aa (aw (dv 6) (au aI (au aG ag (dv 8)) ag)) ae))) ae))))) (ao (bF (aN (jq hr.units) (lp (CScope.of (xs:=["_law_spot_here"]) (js:=[5,3]) rfl) rfl (aU (dv 15)) (fun _ _ _ _=>dh) (fun _ _ _ _=>(ak (kP T).m hr (aa (dv 1) (aa (ak (rk T).m hr (aa (dv 2) (aa (dv 0) ae))) ae))))) (dv 16)) (ao (aB jU)) aP))))))))))))))))))) (ao (aB jU))),fun ds M Q h=>?r⟩
 case r=>
  unfold iL at h
  split at h
  case h_2=>exact h.elim
  obtain⟨ns,rfl,hl,k⟩:=h
  refine⟨_,rfl,(max 1 (min 2 (((IG D.int ns).length:Nat):Int))).toNat,?_,by omega,fun i δ M=>∃o1 o2 o3 o4 o5 o6 o7 o8 o9 o10 o11 o12 o13 o14 o15 o16,δ=[some (.rol (IG D.int ns)),o1,o2,o3,o4,o5,o6,o7,o8,o9,o10,o11,o12,o13,o14,o15,o16],⟨_,_,_,_,_,_,_,_,_,_,_,_,_,_,_,_,rfl⟩,?_,fun _ _ _=>rtn (k _)⟩
  ·rw[Int.toNat_of_nonneg (by omega)]
  rintro i δ M hi ⟨o1,o2,o3,o4,o5,o6,o7,o8,o9,o10,o11,o12,o13,o14,o15,o16,rfl⟩
  refine⟨_,rfl,_,rfl,ns,i,rfl,rfl,by omega,fun z=>⟨nbL rfl,fun row hrow=>?_⟩⟩
  refine⟨_,rfl,row,z,0,rfl,af,by decide,by decide,fun x1 c1 t b sx sy S h1 h2=>?_⟩
  refine⟨_,rfl,row,x1,c1,9,rfl,rfl,by decide,rfl,af,h1,by omega,fun M2 x2 c2 l0 ws0 nrl0 hr2 hl2 g0 g1 g2 g3 g4=>?_⟩
  (try dsimp only[SD.br])
  refine cy (fun δ M'=>∃(l:Addr) (ws:List Wl) (x' c':Int),δ=[some (.rol (IG D.int ns)),some (.int (i:Int)),some (.ref row),some (scl t b sx sy),some (.ref l),o5,o6,o7,o8,o9,o10,o11,o12,o13,o14,o15,o16]/\M' row=some (.lst [.int x',.int c'])/\M' l=some (.lst (ws.map uw))/\row≠l/\0<=c'/\c'<=300/\ws.length<=19/\(∀w∈ws,Un5 w)/\PF ws) ?_ (fun hu=>?_)
  rotate_left
  ·refine⟨_,rfl,row,3,x2,c2,rfl,rfl,hr2,g0,by omega,by decide,bG (by decide),fun x3 v3 h30 h31=>⟨_,rfl,?_⟩⟩;refine b6 (fun _=>?_) (fun _=>?_)
   ·exact⟨_,rfl,row,x3,c2+1,rfl,af,by omega,by omega,fun M4 x4 c4 l ws nrl hr4 hl4 c40 c41 q1 q2 q3=>hu _ _ ⟨l,ws,x4,c4,rfl,hr4,hl4,nrl,c40,by omega,q1,q2,q3⟩⟩
   ·exact hu _ _ ⟨l0,ws0,x3,c2+1,rfl,af,(by rw[aj nrl0.symm];exact hl2),nrl0,by omega,by omega,by omega,g3,g4⟩
  clear hr2 hl2 g0 g1 g2 g3 g4 nrl0
  rintro δ M3 ⟨l,ws,x3,c3,rfl,hr3,hl3,nrl,c30,c31,lw,hU,hF⟩
  have hW:∀w∈ws,Uok (10^6) w:=fun w hw=>by
   have h:=hU w hw
   have U:∀z:Int,(0<=z/\z<=20)->(-(10^6)<=z/\z<=10^6):=fun z h=>by omega
   exact⟨U _ h.a,U _ h.b,U _ h.c,U _ h.d⟩
  refine⟨_,rfl,_,rfl,t,b,sx,sy,l,ws,rfl,rfl,hl3,S,by omega,hW,?_⟩
  refine⟨_,rfl,t,b,sx,sy,ws,rfl,S,by omega,hU,hF,fun M4 zL L sb4 fz hz4 il=>?_⟩
  have hr4:=sb4 _ _ hr3
  have hl4:=sb4 _ _ hl3
  have nrz:row≠zL:=av hr3 fz
  refine⟨_,rfl,_,hl4,(min 4 (((ws.map uw).length:Nat):Int)).toNat,?_,by omega,fun j δ M'=>∃(x c:Int) (o7 o8 o9 o10 o11 o12 o13 o14 o15 o16:Option D),δ=[some (.rol (IG D.int ns)),some (.int (i:Int)),some (.ref row),some (scl t b sx sy),some (.ref l),some (.tup (ws.map (rwl t b sx sy))),some (.ref zL),o7,o8,o9,o10,o11,o12,o13,o14,o15,o16]/\M' row=some (.lst [.int x,.int c])/\0<=c/\c<=300+(j:Int)/\M' l=some (.lst (ws.map uw))/\M' zL=some (.lst (L.map D.int)),⟨x3,c3,_,_,_,_,_,_,_,_,_,_,rfl,hr4,c30,by omega,hl4,hz4⟩,?_,fun δ M' q=>by obtain⟨_,_,_,_,_,_,_,_,_,_,_,_,rfl,_⟩:=q;exact⟨_,_,_,_,_,_,_,_,_,_,_,_,_,_,_,_,rfl⟩⟩
  ·rw[Int.toNat_of_nonneg (by omega)]
  clear hr4 hl4 hz4 sb4 hr3 hl3
  rintro j δ M5 hj ⟨x5,c5,o7,o8,o9,o10,o11,o12,o13,o14,o15,o16,rfl,hr5,c50,c51,hl5,hz5⟩
  have lm:(ws.map uw).length=ws.length:=Gx ..
  have hpos:0<ws.length:=by rw[lm]at hj;omega
  refine⟨_,rfl,_,rfl,_,rfl,_,hl5,row,((ws.map uw).length:Int),x5,c5,rfl,rfl,hr5,c50,by omega,by rw[lm];omega,bG (by rw[lm];omega),fun x6 v6 h60 h61=>?_⟩
  have hl6:(ax M5 row (.lst [.int x6,.int (c5+1)])) l=some (.lst (ws.map uw)):=by rw[aj nrl.symm];exact hl5
  have hz6:(ax M5 row (.lst [.int x6,.int (c5+1)])) zL=some (.lst (L.map D.int)):=by rw[aj nrz.symm];exact hz5
  have hr6:(ax M5 row (.lst [.int x6,.int (c5+1)])) row=some (.lst [.int x6,.int (c5+1)]):=af
  generalize ax M5 row (.lst [.int x6,.int (c5+1)])=M6 at hl6 hz6 hr6 ⊢
  refine⟨_,rfl,_,hl6,(fun q=>by rw[lm]at q;omega),?_⟩
  obtain⟨s,es,sl⟩:∃s:Nat,Int.fmod ((j:Int)+v6) (((ws.map uw).length:Nat):Int)=(s:Int)/\s<ws.length:=by rw[lm,Int.fmod_eq_emod_of_nonneg _ (by omega)];have a:=Int.emod_nonneg ((j:Int)+v6) (show((ws.length:Nat):Int)≠0 by omega);have b:=Int.emod_lt_of_pos ((j:Int)+v6) (show 0<((ws.length:Nat):Int) by omega);exact⟨(((j:Int)+v6)%((ws.length:Nat):Int)).toNat,by omega,by omega⟩
  dsimp only
  rw[es]
  have ew:ws[s]?=some (wn ws s):=by obtain⟨w1,_,_⟩:=aV (ws:=ws) (k:=(s:Int)) (by omega) (by omega);rw[HQ]at w1;exact w1
  have W:=aF hU sl
  have wa:=W.a;have wb:=W.b;have wc:=W.c;have wd:=W.d
  have Ll:=il.len
  have b64:∀{z:Int},-100000000<=z->z<=100000000->Bd 64 z:=fun{z} a b=>by show z.natAbs<2^64;omega
  obtain⟨v1,e1⟩:∃v,L[2*s]?=some v:=⟨_,G8 (show 2*s<L.length by omega)⟩
  obtain⟨v2,e2⟩:∃v,L[2*s+1]?=some v:=⟨_,G8 (show 2*s+1<L.length by omega)⟩
  have K1:∀L',cx ws L'->_:=fun L' il'=>mH hU hF il' sl true (v:=v1) (by rw[lJ il' il];exact e1) t b sx sy
  have K3:∀L',cx ws L'->_:=fun L' il'=>mH hU hF il' sl false (v:=v2) (by rw[lJ il' il];exact e2) t b sx sy
  generalize wn ws s=w at ew W wa wb wc wd K1 K3
  refine⟨_,rfl,_,rfl,_,_,hl6,b8 (by rw[Gr,ew];rfl),?_⟩
  refine⟨_,rfl,rfl,_,_,rfl,_,_,rfl,rfl,?_⟩
  refine⟨⟨by decide,by decide,by decide⟩,?_⟩
  refine⟨_,rfl,_,rfl,_,rfl,_,rfl,_,rfl,aQ (b64 (by omega) (by omega)),?_⟩
  refine⟨_,rfl,_,rfl,_,rfl,_,rfl,_,rfl,aQ (b64 (by omega) (by omega)),?_⟩
  refine⟨_,rfl,_,rfl,_,rfl,_,rfl,trivial,_,rfl,_,rfl,_,rfl,_,rfl,trivial,nbL rfl,fun ln hln=>?_⟩
  have hr7:(ax M6 ln (.lst [.int (w.2.2.2-w.2.1),.int (w.1-w.2.2.1)])) row=some (.lst [.int x6,.int (c5+1)]):=by rw[aj (av hr6 hln)];exact hr6
  have hl7:(ax M6 ln (.lst [.int (w.2.2.2-w.2.1),.int (w.1-w.2.2.1)])) l=some (.lst (ws.map uw)):=by rw[aj (av hl6 hln)];exact hl6
  have hz7:(ax M6 ln (.lst [.int (w.2.2.2-w.2.1),.int (w.1-w.2.2.1)])) zL=some (.lst (L.map D.int)):=by rw[aj (av hz6 hln)];exact hz6
  have hn7:(ax M6 ln (.lst [.int (w.2.2.2-w.2.1),.int (w.1-w.2.2.1)])) ln=some (.lst [.int (w.2.2.2-w.2.1),.int (w.1-w.2.2.1)]):=af
  generalize ax M6 ln (.lst [.int (w.2.2.2-w.2.1),.int (w.1-w.2.2.1)])=M7 at hr7 hl7 hz7 hn7 ⊢
  refine⟨_,rfl,_,rfl,_,_,hn7,rfl,trivial,_,rfl,_,rfl,_,_,hn7,rfl,trivial,_,rfl,aQ (bG (by decide)),nbL rfl,?_⟩
  refine⟨_,rfl,_,rfl,_,rfl,aQ (bG (by decide)),nbL rfl,?_⟩
  refine⟨_,rfl,_,rfl,_,_,hn7,rfl,_,rfl,_,rfl,_,_,hn7,rfl,_,rfl,aQ (bG (by decide)),nbL rfl,nbL rfl,fun lsp hlsp=>?_⟩
  have nsr:row≠lsp:=av hr7 hlsp
  have nsl:l≠lsp:=av hl7 hlsp
  have nsz:zL≠lsp:=av hz7 hlsp
  have hz8:∀X,(ax M7 lsp (.lst X)) zL=some (.lst (L.map D.int)):=fun X=>by rw[aj nsz];exact hz7
  refine⟨_,rfl,_,rfl,aQ (bG (by decide)),_,_,hz8 _,(by rw[show(2:Int)*((s:Nat):Int)=((2*s:Nat):Int) by omega];exact b8 (v:=D.int v1) (by rw[Gr,e1];rfl)),nbL rfl,?_⟩
  refine⟨_,rfl,nbL rfl,?_⟩
  refine⟨_,rfl,_,rfl,aQ (bG (by decide)),_,_,hz8 _,(by rw[show(2:Int)*((s:Nat):Int)+1=((2*s+1:Nat):Int) by omega];exact b8 (v:=D.int v2) (by rw[Gr,e2];rfl)),nbL rfl,nbL rfl,fun ld hld=>?_⟩
  have nsd:lsp≠ld:=av af hld
  refine⟨_,rfl,[.tup [.int ((w.1+w.2.2.1)*10^6-(w.2.2.2-w.2.1)),.int ((w.2.1+w.2.2.2)*10^6-(w.1-w.2.2.1)),.int (2*10^6)],.tup [.int ((w.1+w.2.2.1)*10^6),.int ((w.2.1+w.2.2.2)*10^6),.int (2*10^6)],.tup [.int ((w.1+w.2.2.1)*10^6+(w.2.2.2-w.2.1)),.int ((w.2.1+w.2.2.2)*10^6+(w.1-w.2.2.1)),.int (2*10^6)]],(by show(ax _ ld _) lsp=_;rw[aj nsd];exact af),?_⟩
  have hr9:∀X,(ax (ax M7 lsp (.lst X)) ld (.lst (du3 v1 s v2))) row=some (.lst [.int x6,.int (c5+1)]):=fun X=>by rw[aj (av (by rw[aj nsr];exact hr7) hld),aj nsr];exact hr7
  have hl9:∀X,(ax (ax M7 lsp (.lst X)) ld (.lst (du3 v1 s v2))) l=some (.lst (ws.map uw)):=fun X=>by rw[aj (av (by rw[aj nsl];exact hl7) hld),aj nsl];exact hl7
  have hz9:∀X,(ax (ax M7 lsp (.lst X)) ld (.lst (du3 v1 s v2))) zL=some (.lst (L.map D.int)):=fun X=>by rw[aj (av (by rw[aj nsz];exact hz7) hld),aj nsz];exact hz7
  have hs9:∀X,(ax (ax M7 lsp (.lst X)) ld (.lst (du3 v1 s v2))) lsp=some (.lst X):=fun X=>by rw[aj nsd];exact af
  have hd9:∀X,(ax (ax M7 lsp (.lst X)) ld (.lst (du3 v1 s v2))) ld=some (.lst (du3 v1 s v2)):=fun X=>af
  refine comp_map (fun i=>((du3 v1 s v2)[i]?).getD .non) (nbL rfl) (fun q ys hq=>by show(ax _ q _) lsp=_;rw[aj (av (hs9 _) hq)];exact hs9 _) ?_ (fun p hp=>?_)
  ·intro i d M10 hi hd sb10;have hi:i<3:=hi;rcases(show i=0\/i=1\/i=2 by omega)with rfl|rfl|rfl
   ·cases hd;exact⟨_,rfl,fun K hK=>⟨_,rfl,_,rfl,_,rfl,t,b,sx,sy,_,_,_,rfl,rfl,S,by omega,by omega,by decide,t,b,sx,sy,ws,_,rfl,S,by omega,hU,hF,(fun L' il'=>je (K1 L' il') (by decide) (by unfold nx mx eo;rw[if_pos rfl];omega) (by unfold ny my go;rw[if_pos rfl];omega)),fun M' sb=>hK M' sb⟩⟩
   ·cases hd;exact⟨_,rfl,fun K hK=>⟨_,rfl,_,rfl,_,rfl,t,b,sx,sy,_,_,_,rfl,rfl,S,by omega,by omega,by decide,t,b,sx,sy,ws,_,rfl,S,by omega,hU,hF,(fun L' il'=>je (.wall s w ew) (by decide) (by unfold mx;omega) (by unfold my;omega)),fun M' sb=>hK M' sb⟩⟩
   ·cases hd;exact⟨_,rfl,fun K hK=>⟨_,rfl,_,rfl,_,rfl,t,b,sx,sy,_,_,_,rfl,rfl,S,by omega,by omega,by decide,t,b,sx,sy,ws,_,rfl,S,by omega,hU,hF,(fun L' il'=>je (K3 L' il') (by decide) (by unfold nx mx eo;rw[if_neg (by decide)];omega) (by unfold ny my go;rw[if_neg (by decide)];omega)),fun M' sb=>hK M' sb⟩⟩
  ·refine⟨_,rfl,Bz (by rw[af];rfl) (by rw[aj (av (hd9 _) hp)];exact hd9 _) ⟨_,rfl,iA rfl ?_⟩⟩;exact⟨x6,c5+1,_,_,_,_,_,_,_,_,_,_,rfl,(by rw[aj (av (hr9 _) hp)];exact hr9 _),by omega,by omega,(by rw[aj (av (hl9 _) hp)];exact hl9 _),(by rw[aj (av (hz9 _) hp)];exact hz9 _)⟩
theorem BH(ns:List Int)(M:MH)(h:ns.length<=63):iL [.rol (ns.map D.int)] M (fun d _=>d=.bl true):=⟨ns,rfl,h,fun _=>rfl⟩
def kE(P:H0)(n:String)(k:Nat)(v:G0):HM:={ hash:=PyData.keyHash P (Ie n),key:=.str (Ie n) k,val:=v }
def kF(i:Nat)(n m:String)(k c:Nat):Obj:={ cls:=.type "function",data:=.func { name:=Ie n,qualname:=Ie n,params:=ck (top i),body:=.stmts (aY (top i)),scope:=aq (top i),globals:=↑3,closure:=[],defaults:=.none,kwdefaults:=.none,pyModule:=.str (Ie m) k,code:=.ref c } }
def kD0(P:H0):List HM:=[kE P "__name__" ↑165 (.str "law_spotlook_k27_whole_faces_tell_the_lands" 570),kE P "__doc__" ↑166 (.none),kE P "__package__" ↑167 (.none),kE P "__loader__" ↑168 (.builtin "__main__.__loader__#opaque"),kE P "__spec__" ↑169 (.none),kE P "__annotations__" ↑170 (.ref ↑6),kE P "__builtins__" ↑171 (.ref ↑4),kE P "__file__" ↑173 (.str "/claim/cut.py" 172)]
def kD1(P:H0):List HM:=[kE P "__cached__" ↑174 (.none),kE P "SpotError" ↑206 (.ref ↑24),kE P "NoFraction" ↑222 (.ref ↑37),kE P "greatest_divisor" ↑232 (.ref ↑46),kE P "fraction" ↑241 (.ref ↑53),kE P "is_less" ↑249 (.ref ↑60),kE P "common_bottom" ↑258 (.ref ↑67),kE P "top_over" ↑266 (.ref ↑74)]
def kD2(P:H0):List HM:=[kE P "is_ahead" ↑276 (.ref ↑81),kE P "later_of" ↑284 (.ref ↑88),kE P "earlier_of" ↑292 (.ref ↑95),kE P "place_among" ↑303 (.ref ↑102),kE P "ahead_first" ↑312 (.ref ↑109),kE P "own_spot" ↑321 (.ref ↑116),kE P "own_wall" ↑328 (.ref ↑123),kE P "gap" ↑336 (.ref ↑130)]
def kD3(P:H0):List HM:=[kE P "lean" ↑354 (.ref ↑137),kE P "side_of" ↑363 (.ref ↑144),kE P "lies_on" ↑373 (.ref ↑151),kE P "spans" ↑383 (.ref ↑158),kE P "is_above" ↑395 (.ref ↑165),kE P "upper_of" ↑404 (.ref ↑172),kE P "upper_below" ↑410 (.ref ↑177),kE P "face_ends" ↑422 (.ref ↑184)]
def kD4(P:H0):List HM:=[kE P "faces_by_start" ↑431 (.ref ↑191),kE P "is_met_sooner" ↑443 (.ref ↑198),kE P "face_behind" ↑457 (.ref ↑205),kE P "ring_from" ↑468 (.ref ↑212),kE P "rings_of" ↑481 (.ref ↑219),kE P "twice_area" ↑487 (.ref ↑224),kE P "outer_and_inner" ↑499 (.ref ↑231),kE P "first_corner" ↑509 (.ref ↑238)]
def kD5(P:H0):List HM:=[kE P "land_about" ↑519 (.ref ↑245),kE P "lands_of_faces" ↑525 (.ref ↑250),kE P "corners_of" ↑537 (.ref ↑257),kE P "wall_below" ↑548 (.ref ↑264),kE P "look_plainly" ↑556 (.ref ↑271),kE P "look_with_lands" ↑569 (.ref ↑278),kE P "_law_cell_at" ↑579 (.ref ↑285),kE P "_law_take" ↑589 (.ref ↑292)]
def kD6(P:H0):List HM:=[kE P "_law_low" ↑599 (.ref ↑299),kE P "_law_scale" ↑609 (.ref ↑306),kE P "_law_spot" ↑621 (.ref ↑313),kE P "_law_made" ↑627 (.ref ↑318),kE P "_law_turn" ↑639 (.ref ↑325),kE P "_law_on" ↑647 (.ref ↑332),kE P "_law_fair" ↑653 (.ref ↑337),kE P "_law_shuts_here" ↑659 (.ref ↑342)]
def kD7(P:H0):List HM:=[kE P "_law_box" ↑665 (.ref ↑347),kE P "_law_order" ↑675 (.ref ↑354),kE P "_law_set" ↑681 (.ref ↑359),kE P "_law_real" ↑694 (.ref ↑366),kE P "law" ↑700 (.ref ↑371)]
def kG(P:H0):Obj:={ cls:=.type "dict",data:=.dict (HJ (kD0 P++(kD1 P++(kD2 P++(kD3 P++(kD4 P++(kD5 P++(kD6 P++(kD7 P))))))))) 61 }
def kCo(n:String)(a0:Nat)(a1:Nat)(a2:Nat)(a3:Nat)(a4:Nat)(a8:Nat)(a11:Nat)(a13:Nat)(a14:Nat)(a15:Nat)(a16:Nat)(a17:Nat)(a18:Nat):Obj:={ cls:=.type "code",data:=.fields #[.str (Ie n) a0,.str (Ie n) a1,.str "/claim/cut.py" a2,.int (Jy a3) 0,.int (Jy a4) 0,.int 0 0,.int 0 0,.int 3 0,.ref a8,.bool true,.int 181 0,.ref a11,.none,.ref a13,.ref a14,.ref a15,.int (Jy a16) 0,.int (Jy a17) 0,.str "/claim/cut.py" a18] }
def kN(l:List Obj)(i:Nat):Obj:=l.getD i { cls:=.none,data:=.dict #[] }
def zzD(n q:Str)(a b c l k f r:Nat)(t:Bool)(s:Nat)(x y z:G0)(d e:Nat):Obj:={ cls:=.type "code",data:=.fields #[.str n a,.str q b,.str "/claim/cut.py" c,.int l 0,.int k 0,.int 0 0,.int 0 0,.int f 0,.ref r,.bool t,.int 181 0,.ref s,.none,x,y,z,.int d 0,.int l 0,.str "/claim/cut.py" e] }
def zzK(n:Str)(s g a i j:Nat):Obj:={ cls:=.type "type",data:=.cls { name:=n,bases:=[.ref 24],mro:=[.ref s,.ref 24,.type "ValueError",.type "Exception",.type "BaseException",.type "object"],ns:=g,qualname:=n,hasDict:=true,slotNames:=[],subclasses:=[],abstract:=false,collection:=none,hasDel:=false },slots:=#[some (.ref a),none,some (.str n i),some (.str n j),some (.builtin "ValueError.__new__"),some (.bool true)] }
def zzR(n:Str)(s g a i j:Nat):Obj:={ cls:=.type "type",data:=.cls { name:=n,bases:=[.ref ↑24],mro:=[.ref s,.ref ↑24,.type "ValueError",.type "Exception",.type "BaseException",.type "object"],ns:=g,qualname:=n,hasDict:=true,slotNames:=[],subclasses:=[],abstract:=false,collection:=none,hasDel:=false },slots:=#[some (.ref a),none,some (.str n i),some (.str n j),some (.builtin "ValueError.__new__"),some (.bool true)] }
def zzN:G0:=.str "law_spotlook_k27_whole_faces_tell_the_lands" 570
def zzF(i:Nat)(n:String)(c:Nat):Obj:=kF i n "law_spotlook_k27_whole_faces_tell_the_lands" ↑570 c
def kL0:List Obj:=[kCo "greatest_divisor" ↑225 ↑226 ↑227 ↑7 ↑2 ↑40 ↑41 ↑42 ↑43 ↑44 ↑230 ↑7 ↑231,kF ↑4 "greatest_divisor" "spotlook.fractions" ↑223 ↑45,kCo "fraction" ↑233 ↑234 ↑235 ↑11 ↑2 ↑47 ↑48 ↑49 ↑50 ↑51 ↑239 ↑11 ↑240,kF ↑5 "fraction" "spotlook.fractions" ↑223 ↑52,kCo "is_less" ↑242 ↑243 ↑244 ↑18 ↑2 ↑54 ↑55 ↑56 ↑57 ↑58 ↑247 ↑18 ↑248,kF ↑6 "is_less" "spotlook.fractions" ↑223 ↑59,kCo "common_bottom" ↑250 ↑251 ↑252 ↑20 ↑1 ↑61 ↑62 ↑63 ↑64 ↑65 ↑256 ↑20 ↑257,kF ↑7 "common_bottom" "spotlook.fractions" ↑223 ↑66]
def kL1:List Obj:=[kCo "top_over" ↑259 ↑260 ↑261 ↑25 ↑2 ↑68 ↑69 ↑70 ↑71 ↑72 ↑264 ↑25 ↑265,kF ↑8 "top_over" "spotlook.fractions" ↑223 ↑73,kCo "is_ahead" ↑269 ↑270 ↑271 ↑28 ↑2 ↑75 ↑76 ↑77 ↑78 ↑79 ↑274 ↑28 ↑275,kF ↑10 "is_ahead" "spotlook.spots" ↑267 ↑80,kCo "later_of" ↑277 ↑278 ↑279 ↑32 ↑2 ↑82 ↑83 ↑84 ↑85 ↑86 ↑282 ↑32 ↑283,kF ↑11 "later_of" "spotlook.spots" ↑267 ↑87,kCo "earlier_of" ↑285 ↑286 ↑287 ↑34 ↑2 ↑89 ↑90 ↑91 ↑92 ↑93 ↑290 ↑34 ↑291,kF ↑12 "earlier_of" "spotlook.spots" ↑267 ↑94]
def kL2:List Obj:=[kCo "place_among" ↑293 ↑294 ↑295 ↑36 ↑2 ↑96 ↑97 ↑98 ↑99 ↑100 ↑301 ↑36 ↑302,kF ↑13 "place_among" "spotlook.spots" ↑267 ↑101,kCo "ahead_first" ↑304 ↑305 ↑306 ↑45 ↑1 ↑103 ↑104 ↑105 ↑106 ↑107 ↑310 ↑45 ↑311,kF ↑14 "ahead_first" "spotlook.spots" ↑267 ↑108,kCo "own_spot" ↑313 ↑314 ↑315 ↑50 ↑1 ↑110 ↑111 ↑112 ↑113 ↑114 ↑319 ↑50 ↑320,kF ↑15 "own_spot" "spotlook.spots" ↑267 ↑115,kCo "own_wall" ↑322 ↑323 ↑324 ↑53 ↑1 ↑117 ↑118 ↑119 ↑120 ↑121 ↑326 ↑53 ↑327,kF ↑16 "own_wall" "spotlook.spots" ↑267 ↑122]
def kL3:List Obj:=[kCo "gap" ↑329 ↑330 ↑331 ↑55 ↑2 ↑124 ↑125 ↑126 ↑127 ↑128 ↑334 ↑55 ↑335,kF ↑17 "gap" "spotlook.spots" ↑267 ↑129,kCo "lean" ↑337 ↑338 ↑339 ↑57 ↑2 ↑131 ↑132 ↑133 ↑134 ↑135 ↑352 ↑57 ↑353,kF ↑18 "lean" "spotlook.spots" ↑267 ↑136,kCo "side_of" ↑355 ↑356 ↑357 ↑63 ↑2 ↑138 ↑139 ↑140 ↑141 ↑142 ↑361 ↑63 ↑362,kF ↑19 "side_of" "spotlook.spots" ↑267 ↑143,kCo "lies_on" ↑364 ↑365 ↑366 ↑70 ↑2 ↑145 ↑146 ↑147 ↑148 ↑149 ↑371 ↑70 ↑372,kF ↑20 "lies_on" "spotlook.spots" ↑267 ↑150]
def kL4:List Obj:=[kCo "spans" ↑376 ↑377 ↑378 ↑74 ↑2 ↑152 ↑153 ↑154 ↑155 ↑156 ↑381 ↑74 ↑382,kF ↑22 "spans" "spotlook.above" ↑374 ↑157,kCo "is_above" ↑384 ↑385 ↑386 ↑76 ↑2 ↑159 ↑160 ↑161 ↑162 ↑163 ↑393 ↑76 ↑394,kF ↑23 "is_above" "spotlook.above" ↑374 ↑164,kCo "upper_of" ↑396 ↑397 ↑398 ↑84 ↑1 ↑166 ↑167 ↑168 ↑169 ↑170 ↑402 ↑84 ↑403,kF ↑24 "upper_of" "spotlook.above" ↑374 ↑171,(zzD "upper_below" "upper_below" 405 406 407 90 2 3 173 true 174 .none .none (.ref 175) 408 409),kF ↑25 "upper_below" "spotlook.above" ↑374 ↑176]
def kL5:List Obj:=[kCo "face_ends" ↑413 ↑414 ↑415 ↑94 ↑2 ↑178 ↑179 ↑180 ↑181 ↑182 ↑420 ↑94 ↑421,kF ↑27 "face_ends" "spotlook.rings" ↑411 ↑183,kCo "faces_by_start" ↑423 ↑424 ↑425 ↑97 ↑1 ↑185 ↑186 ↑187 ↑188 ↑189 ↑429 ↑97 ↑430,kF ↑28 "faces_by_start" "spotlook.rings" ↑411 ↑190,kCo "is_met_sooner" ↑432 ↑433 ↑434 ↑102 ↑4 ↑192 ↑193 ↑194 ↑195 ↑196 ↑441 ↑102 ↑442,kF ↑29 "is_met_sooner" "spotlook.rings" ↑411 ↑197,kCo "face_behind" ↑444 ↑445 ↑446 ↑108 ↑3 ↑199 ↑200 ↑201 ↑202 ↑203 ↑455 ↑108 ↑456,kF ↑30 "face_behind" "spotlook.rings" ↑411 ↑204]
def kL6:List Obj:=[kCo "ring_from" ↑458 ↑459 ↑460 ↑116 ↑3 ↑206 ↑207 ↑208 ↑209 ↑210 ↑466 ↑116 ↑467,kF ↑31 "ring_from" "spotlook.rings" ↑411 ↑211,kCo "rings_of" ↑469 ↑470 ↑471 ↑123 ↑1 ↑213 ↑214 ↑215 ↑216 ↑217 ↑479 ↑123 ↑480,kF ↑32 "rings_of" "spotlook.rings" ↑411 ↑218,(zzD "twice_area" "twice_area" 482 483 484 134 2 3 220 true 221 .none .none (.ref 222) 485 486),kF ↑33 "twice_area" "spotlook.rings" ↑411 ↑223,kCo "outer_and_inner" ↑490 ↑491 ↑492 ↑144 ↑1 ↑225 ↑226 ↑227 ↑228 ↑229 ↑497 ↑144 ↑498,kF ↑35 "outer_and_inner" "spotlook.lands" ↑488 ↑230]
def kL7:List Obj:=[kCo "first_corner" ↑500 ↑501 ↑502 ↑152 ↑2 ↑232 ↑233 ↑234 ↑235 ↑236 ↑507 ↑152 ↑508,kF ↑36 "first_corner" "spotlook.lands" ↑488 ↑237,kCo "land_about" ↑510 ↑511 ↑512 ↑157 ↑3 ↑239 ↑240 ↑241 ↑242 ↑243 ↑517 ↑157 ↑518,kF ↑37 "land_about" "spotlook.lands" ↑488 ↑244,(zzD "lands_of_faces" "lands_of_faces" 520 521 522 160 1 3 246 true 247 .none .none (.ref 248) 523 524),kF ↑38 "lands_of_faces" "spotlook.lands" ↑488 ↑249,kCo "corners_of" ↑528 ↑529 ↑530 ↑173 ↑1 ↑251 ↑252 ↑253 ↑254 ↑255 ↑535 ↑173 ↑536,kF ↑40 "corners_of" "spotlook.plots" ↑526 ↑256]
def kL8:List Obj:=[kCo "wall_below" ↑540 ↑541 ↑542 ↑180 ↑2 ↑258 ↑259 ↑260 ↑261 ↑262 ↑546 ↑180 ↑547,kF ↑42 "wall_below" "spotlook.plain" ↑538 ↑263,kCo "look_plainly" ↑549 ↑550 ↑551 ↑183 ↑2 ↑265 ↑266 ↑267 ↑268 ↑269 ↑554 ↑183 ↑555,kF ↑43 "look_plainly" "spotlook.plain" ↑538 ↑270,kCo "look_with_lands" ↑557 ↑558 ↑559 ↑185 ↑3 ↑272 ↑273 ↑274 ↑275 ↑276 ↑567 ↑185 ↑568,kF ↑44 "look_with_lands" "spotlook.plain" ↑538 ↑277,kCo "_law_cell_at" ↑572 ↑573 ↑574 ↑195 ↑2 ↑279 ↑280 ↑281 ↑282 ↑283 ↑577 ↑195 ↑578,zzF ↑46 "_law_cell_at" ↑284]
def kL9:List Obj:=[kCo "_law_take" ↑580 ↑581 ↑582 ↑199 ↑2 ↑286 ↑287 ↑288 ↑289 ↑290 ↑587 ↑199 ↑588,zzF ↑47 "_law_take" ↑291,kCo "_law_low" ↑590 ↑591 ↑592 ↑208 ↑2 ↑293 ↑294 ↑295 ↑296 ↑297 ↑597 ↑208 ↑598,zzF ↑48 "_law_low" ↑298,kCo "_law_scale" ↑600 ↑601 ↑602 ↑216 ↑1 ↑300 ↑301 ↑302 ↑303 ↑304 ↑607 ↑216 ↑608,zzF ↑49 "_law_scale" ↑305,kCo "_law_spot" ↑610 ↑611 ↑612 ↑222 ↑2 ↑307 ↑308 ↑309 ↑310 ↑311 ↑619 ↑222 ↑620,zzF ↑50 "_law_spot" ↑312]
def kL10:List Obj:=[(zzD "_law_made" "_law_made" 622 623 624 225 2 3 314 true 315 .none .none (.ref 316) 625 626),zzF ↑51 "_law_made" ↑317,kCo "_law_turn" ↑628 ↑629 ↑630 ↑227 ↑3 ↑319 ↑320 ↑321 ↑322 ↑323 ↑637 ↑227 ↑638,zzF ↑52 "_law_turn" ↑324,kCo "_law_on" ↑640 ↑641 ↑642 ↑232 ↑2 ↑326 ↑327 ↑328 ↑329 ↑330 ↑645 ↑232 ↑646,zzF ↑53 "_law_on" ↑331,(zzD "_law_fair" "_law_fair" 648 649 650 234 2 3 333 true 334 .none .none (.ref 335) 651 652),zzF ↑54 "_law_fair" ↑336]
def kL11:List Obj:=[(zzD "_law_shuts_here" "_law_shuts_here" 654 655 656 244 3 3 338 true 339 .none .none (.ref 340) 657 658),zzF ↑55 "_law_shuts_here" ↑341,(zzD "_law_box" "_law_box" 660 661 662 255 2 3 343 true 344 .none .none (.ref 345) 663 664),zzF ↑56 "_law_box" ↑346,kCo "_law_order" ↑666 ↑667 ↑668 ↑259 ↑2 ↑348 ↑349 ↑350 ↑351 ↑352 ↑673 ↑259 ↑674,zzF ↑57 "_law_order" ↑353,(zzD "_law_set" "_law_set" 676 677 678 264 1 3 355 true 356 .none .none (.ref 357) 679 680),zzF ↑58 "_law_set" ↑358]
def kL12:List Obj:=[kCo "_law_real" ↑682 ↑683 ↑684 ↑279 ↑2 ↑360 ↑361 ↑362 ↑363 ↑364 ↑692 ↑279 ↑693,zzF ↑59 "_law_real" ↑365,(zzD "law" "law" 695 696 697 283 1 3 367 true 368 .none .none (.ref 369) 698 699),zzF ↑60 "law" ↑370]
def kK:H0->G5:=fun P=>(↑3,kG P)::(↑45,kN kL0 ↑0)::(↑46,kN kL0 ↑1)::(↑52,kN kL0 ↑2)::(↑53,kN kL0 ↑3)::(↑59,kN kL0 ↑4)::(↑60,kN kL0 ↑5)::(↑66,kN kL0 ↑6)::(↑67,kN kL0 ↑7)::(↑73,kN kL1 ↑0)::(↑74,kN kL1 ↑1)::(↑80,kN kL1 ↑2)::(↑81,kN kL1 ↑3)::(↑87,kN kL1 ↑4)::(↑88,kN kL1 ↑5)::(↑94,kN kL1 ↑6)::(↑95,kN kL1 ↑7)::(↑101,kN kL2 ↑0)::(↑102,kN kL2 ↑1)::(↑108,kN kL2 ↑2)::(↑109,kN kL2 ↑3)::(↑115,kN kL2 ↑4)::(↑116,kN kL2 ↑5)::(↑122,kN kL2 ↑6)::(↑123,kN kL2 ↑7)::(↑129,kN kL3 ↑0)::(↑130,kN kL3 ↑1)::(↑136,kN kL3 ↑2)::(↑137,kN kL3 ↑3)::(↑143,kN kL3 ↑4)::(↑144,kN kL3 ↑5)::(↑150,kN kL3 ↑6)::(↑151,kN kL3 ↑7)::(↑157,kN kL4 ↑0)::(↑158,kN kL4 ↑1)::(↑164,kN kL4 ↑2)::(↑165,kN kL4 ↑3)::(↑171,kN kL4 ↑4)::(↑172,kN kL4 ↑5)::(↑176,kN kL4 ↑6)::(↑177,kN kL4 ↑7)::(↑183,kN kL5 ↑0)::(↑184,kN kL5 ↑1)::(↑190,kN kL5 ↑2)::(↑191,kN kL5 ↑3)::(↑197,kN kL5 ↑4)::(↑198,kN kL5 ↑5)::(↑204,kN kL5 ↑6)::(↑205,kN kL5 ↑7)::(↑211,kN kL6 ↑0)::(↑212,kN kL6 ↑1)::(↑218,kN kL6 ↑2)::(↑219,kN kL6 ↑3)::(↑223,kN kL6 ↑4)::(↑224,kN kL6 ↑5)::(↑230,kN kL6 ↑6)::(↑231,kN kL6 ↑7)::(↑237,kN kL7 ↑0)::(↑238,kN kL7 ↑1)::(↑244,kN kL7 ↑2)::(↑245,kN kL7 ↑3)::(↑249,kN kL7 ↑4)::(↑250,kN kL7 ↑5)::(↑256,kN kL7 ↑6)::(↑257,kN kL7 ↑7)::(↑263,kN kL8 ↑0)::(↑264,kN kL8 ↑1)::(↑270,kN kL8 ↑2)::(↑271,kN kL8 ↑3)::(↑277,kN kL8 ↑4)::(↑278,kN kL8 ↑5)::(↑284,kN kL8 ↑6)::(↑285,kN kL8 ↑7)::(↑291,kN kL9 ↑0)::(↑292,kN kL9 ↑1)::(↑298,kN kL9 ↑2)::(↑299,kN kL9 ↑3)::(↑305,kN kL9 ↑4)::(↑306,kN kL9 ↑5)::(↑312,kN kL9 ↑6)::(↑313,kN kL9 ↑7)::(↑317,kN kL10 ↑0)::(↑318,kN kL10 ↑1)::(↑324,kN kL10 ↑2)::(↑325,kN kL10 ↑3)::(↑331,kN kL10 ↑4)::(↑332,kN kL10 ↑5)::(↑336,kN kL10 ↑6)::(↑337,kN kL10 ↑7)::(↑341,kN kL11 ↑0)::(↑342,kN kL11 ↑1)::(↑346,kN kL11 ↑2)::(↑347,kN kL11 ↑3)::(↑353,kN kL11 ↑4)::(↑354,kN kL11 ↑5)::(↑358,kN kL11 ↑6)::(↑359,kN kL11 ↑7)::(↑365,kN kL12 ↑0)::(↑366,kN kL12 ↑1)::(↑370,kN kL12 ↑2)::(↑371,kN kL12 ↑3)::[]
end QQ
namespace QQ
open PySem L2
inductive Tg{A:Type}(a:A):Type where|mk:Tg a
noncomputable def pk{A:Type}{a:A}(_:Tg a):A:=a
noncomputable def hE(P:H0)(n:Str)(k:Nat)(v:G0):HM:={ hash:=PyData.keyHash P n,key:=.str n k,val:=v }
noncomputable def zzM(k:Nat)(l:List HM):Obj:={ cls:=.type "dict",data:=.dict (HJ l) k }
noncomputable def zzE:G0:=.str "spotlook.errors" 187
noncomputable def kU(s:Stmt)(n q:Str)(g:Nat)(m c:G0):JE:={ name:=n,qualname:=q,params:=ck s,body:=.stmts (aY s),scope:=aq s,globals:=g,closure:=[],defaults:=.none,kwdefaults:=.none,pyModule:=m,code:=c }
noncomputable def kC(s:Stmt)(i:Nat):Stmt:=match s with
 |.ClassDef (body:=b) ..=>b.getD i (.Pass ⟨0,0,0,0⟩)
 |s=>s
noncomputable def kTu(l:List G0):Obj:={ cls:=.type "tuple",data:=.seq l.toArray 0 }
noncomputable def kFd(l:List G0):Obj:={ cls:=.none,data:=.fields l.toArray }
local macro_rules | `(tactic| walk_at "st") => `(tactic| (intro t; (conv at t => (arg 1; whnf)); exact pk (.mk : type_of% t)))
local macro_rules | `(⇑$n:num) => `((by refine' (?_ : Tg (top $n) → Stmt) .mk; walk_at "st" : Stmt))
noncomputable def st0:Stmt:=⇑0
noncomputable def st1:Stmt:=⇑1
noncomputable def st2:Stmt:=⇑2
noncomputable def st3:Stmt:=⇑3
noncomputable def st4:Stmt:=⇑4
noncomputable def st5:Stmt:=⇑5
noncomputable def st6:Stmt:=⇑6
noncomputable def st7:Stmt:=⇑7
noncomputable def st8:Stmt:=⇑8
noncomputable def st9:Stmt:=⇑9
noncomputable def st10:Stmt:=⇑10
noncomputable def st11:Stmt:=⇑11
noncomputable def st12:Stmt:=⇑12
noncomputable def st13:Stmt:=⇑13
noncomputable def st14:Stmt:=⇑14
noncomputable def st15:Stmt:=⇑15
noncomputable def st16:Stmt:=⇑16
noncomputable def st17:Stmt:=⇑17
noncomputable def st18:Stmt:=⇑18
noncomputable def st19:Stmt:=⇑19
noncomputable def st20:Stmt:=⇑20
noncomputable def st21:Stmt:=⇑21
noncomputable def st22:Stmt:=⇑22
noncomputable def st23:Stmt:=⇑23
noncomputable def st24:Stmt:=⇑24
noncomputable def st25:Stmt:=⇑25
noncomputable def st26:Stmt:=⇑26
noncomputable def st27:Stmt:=⇑27
noncomputable def st28:Stmt:=⇑28
noncomputable def st29:Stmt:=⇑29
noncomputable def st30:Stmt:=⇑30
noncomputable def st31:Stmt:=⇑31
noncomputable def st32:Stmt:=⇑32
noncomputable def st33:Stmt:=⇑33
noncomputable def st34:Stmt:=⇑34
noncomputable def st35:Stmt:=⇑35
noncomputable def st36:Stmt:=⇑36
noncomputable def st37:Stmt:=⇑37
noncomputable def st38:Stmt:=⇑38
noncomputable def st39:Stmt:=⇑39
noncomputable def st40:Stmt:=⇑40
noncomputable def st41:Stmt:=⇑41
noncomputable def st42:Stmt:=⇑42
noncomputable def st43:Stmt:=⇑43
noncomputable def st44:Stmt:=⇑44
noncomputable def st45:Stmt:=⇑45
noncomputable def st46:Stmt:=⇑46
noncomputable def st47:Stmt:=⇑47
noncomputable def st48:Stmt:=⇑48
noncomputable def st49:Stmt:=⇑49
noncomputable def st50:Stmt:=⇑50
noncomputable def st51:Stmt:=⇑51
noncomputable def st52:Stmt:=⇑52
noncomputable def st53:Stmt:=⇑53
noncomputable def st54:Stmt:=⇑54
noncomputable def st55:Stmt:=⇑55
noncomputable def st56:Stmt:=⇑56
noncomputable def st57:Stmt:=⇑57
noncomputable def st58:Stmt:=⇑58
noncomputable def st59:Stmt:=⇑59
noncomputable def st60:Stmt:=⇑60
noncomputable def scp:Ja:=by refine'(?_:Tg (GW.main.scope)->Ja) .mk;walk_at "st"
noncomputable def fil:Str:=by refine'(?_:Tg (GW.main.file)->Str) .mk;walk_at "st"
noncomputable def giv:Given:=by refine'(?_:Tg (GW.given)->Given) .mk;walk_at "st"
noncomputable def pw2:GL:={ main:={ body:=[st0,st1,st2,st3,st4,st5,st6,st7,st8,st9,st10,st11,st12,st13,st14,st15,st16,st17,st18,st19,st20,st21,st22,st23,st24,st25,st26,st27,st28,st29,st30,st31,st32,st33,st34,st35,st36,st37,st38,st39,st40,st41,st42,st43,st44,st45,st46,st47,st48,st49,st50,st51,st52,st53,st54,st55,st56,st57,st58,st59,st60],scope:=scp,futureAnnotations:=false,file:=fil,more:=[] },modules:=[],parses:=[],absent:=[],harvested:=[],given:=giv }
noncomputable def vw:GL:={ pw2 with main:={ pw2.main with body:=[st1,st2,st4,st5,st6,st7,st8,st10,st11,st12,st13,st14,st15,st16,st17,st18,st19,st20,st22,st23,st24,st25,st27,st28,st29,st30,st31,st32,st33,st35,st36,st37,st38,st40,st42,st43,st44,st46,st47,st48,st49,st50,st51,st52,st53,st54,st55,st56,st57,st58,st59,st60] } }
noncomputable def sx0:List Stmt:=[st0,st1]
noncomputable def sx1:List Stmt:=[st2,st3,st4,st5,st6,st7,st8,st9]
noncomputable def sx2:List Stmt:=[st10,st11,st12,st13,st14,st15,st16,st17,st18,st19,st20,st21,st22]
noncomputable def sx3:List Stmt:=[st23,st24,st25,st26,st27,st28,st29,st30,st31,st32,st33,st34,st35,st36]
noncomputable def sx4:List Stmt:=[st37,st38,st39,st40,st41,st42,st43,st44,st45,st46,st47,st48,st49,st50,st51]
noncomputable def sx5:List Stmt:=[st52,st53,st54,st55,st56,st57,st58,st59,st60]
noncomputable def en3_0(P:H0):List HM:=[hE P "__doc__" 166 .none,hE P "__package__" 167 .none,hE P "__loader__" 168 (.builtin "__main__.__loader__#opaque"),hE P "__spec__" 169 .none,hE P "__annotations__" 170 (.ref 6),hE P "__builtins__" 171 (.ref 4),hE P "__file__" 173 (.str "/claim/cut.py" 172),hE P "__cached__" 174 .none]
noncomputable def en3_1(P:H0):List HM:=[hE P "SpotError" 206 (.ref 24),hE P "NoFraction" 222 (.ref 37),hE P "greatest_divisor" 232 (.ref 46),hE P "fraction" 241 (.ref 53),hE P "is_less" 249 (.ref 60),hE P "common_bottom" 258 (.ref 67),hE P "top_over" 266 (.ref 74),hE P "is_ahead" 276 (.ref 81)]
noncomputable def en3_2(P:H0):List HM:=[hE P "later_of" 284 (.ref 88),hE P "earlier_of" 292 (.ref 95),hE P "place_among" 303 (.ref 102),hE P "ahead_first" 312 (.ref 109),hE P "own_spot" 321 (.ref 116),hE P "own_wall" 328 (.ref 123),hE P "gap" 336 (.ref 130),hE P "lean" 354 (.ref 137)]
noncomputable def en3_3(P:H0):List HM:=[hE P "side_of" 363 (.ref 144),hE P "lies_on" 373 (.ref 151),hE P "spans" 383 (.ref 158),hE P "is_above" 395 (.ref 165),hE P "upper_of" 404 (.ref 172),hE P "upper_below" 410 (.ref 177),hE P "face_ends" 422 (.ref 184),hE P "faces_by_start" 431 (.ref 191)]
noncomputable def en3_4(P:H0):List HM:=[hE P "is_met_sooner" 443 (.ref 198),hE P "face_behind" 457 (.ref 205),hE P "ring_from" 468 (.ref 212),hE P "rings_of" 481 (.ref 219),hE P "twice_area" 487 (.ref 224),hE P "outer_and_inner" 499 (.ref 231),hE P "first_corner" 509 (.ref 238),hE P "land_about" 519 (.ref 245)]
noncomputable def en3_5(P:H0):List HM:=[hE P "lands_of_faces" 525 (.ref 250),hE P "corners_of" 537 (.ref 257),hE P "wall_below" 548 (.ref 264),hE P "look_plainly" 556 (.ref 271),hE P "look_with_lands" 569 (.ref 278),hE P "_law_cell_at" 579 (.ref 285),hE P "_law_take" 589 (.ref 292),hE P "_law_low" 599 (.ref 299)]
noncomputable def en3_6(P:H0):List HM:=[hE P "_law_scale" 609 (.ref 306),hE P "_law_spot" 621 (.ref 313),hE P "_law_made" 627 (.ref 318),hE P "_law_turn" 639 (.ref 325),hE P "_law_on" 647 (.ref 332),hE P "_law_fair" 653 (.ref 337),hE P "_law_shuts_here" 659 (.ref 342),hE P "_law_box" 665 (.ref 347)]
noncomputable def en3_7(P:H0):List HM:=[hE P "_law_order" 675 (.ref 354),hE P "_law_set" 681 (.ref 359),hE P "_law_real" 694 (.ref 366),hE P "law" 700 (.ref 371)]
noncomputable def en3(P:H0):List HM:=en3_0 P++(en3_1 P++(en3_2 P++(en3_3 P++(en3_4 P++(en3_5 P++(en3_6 P++(en3_7 P)))))))
noncomputable def fl12:List G0:=[(.int 2 0),(.int 0 0),(.ref 20),(.int 4 0),(.int 0 0),(.ref 33),(.int 7 0),(.int 0 0),(.ref 45),(.int 11 0),(.int 0 0),(.ref 52),(.int 18 0),(.int 0 0),(.ref 59),(.int 20 0),(.int 0 0),(.ref 66),(.int 25 0),(.int 0 0),(.ref 73),(.int 28 0),(.int 0 0),(.ref 80),(.int 32 0),(.int 0 0),(.ref 87),(.int 34 0),(.int 0 0),(.ref 94),(.int 36 0),(.int 0 0),(.ref 101),(.int 45 0),(.int 0 0),(.ref 108),(.int 50 0),(.int 0 0),(.ref 115),(.int 53 0),(.int 0 0),(.ref 122),(.int 55 0),(.int 0 0),(.ref 129),(.int 57 0),(.int 0 0),(.ref 136),(.int 63 0),(.int 0 0),(.ref 143),(.int 70 0),(.int 0 0),(.ref 150),(.int 74 0),(.int 0 0),(.ref 157),(.int 76 0),(.int 0 0),(.ref 164),(.int 84 0),(.int 0 0),(.ref 171),(.int 90 0),(.int 0 0),(.ref 176),(.int 94 0),(.int 0 0),(.ref 183),(.int 97 0),(.int 0 0),(.ref 190),(.int 102 0),(.int 0 0),(.ref 197),(.int 108 0),(.int 0 0),(.ref 204),(.int 116 0),(.int 0 0),(.ref 211),(.int 123 0),(.int 0 0),(.ref 218),(.int 134 0),(.int 0 0),(.ref 223),(.int 144 0),(.int 0 0),(.ref 230),(.int 152 0),(.int 0 0),(.ref 237),(.int 157 0),(.int 0 0),(.ref 244),(.int 160 0),(.int 0 0),(.ref 249),(.int 173 0),(.int 0 0),(.ref 256),(.int 180 0),(.int 0 0),(.ref 263),(.int 183 0),(.int 0 0),(.ref 270),(.int 185 0),(.int 0 0),(.ref 277),(.int 195 0),(.int 0 0),(.ref 284),(.int 199 0),(.int 0 0),(.ref 291),(.int 208 0),(.int 0 0),(.ref 298),(.int 216 0),(.int 0 0),(.ref 305),(.int 222 0),(.int 0 0),(.ref 312),(.int 225 0),(.int 0 0),(.ref 317),(.int 227 0),(.int 0 0),(.ref 324),(.int 232 0),(.int 0 0),(.ref 331),(.int 234 0),(.int 0 0),(.ref 336),(.int 244 0),(.int 0 0),(.ref 341),(.int 255 0),(.int 0 0),(.ref 346),(.int 259 0),(.int 0 0),(.ref 353),(.int 264 0),(.int 0 0),(.ref 358),(.int 279 0),(.int 0 0),(.ref 365),(.int 283 0),(.int 0 0),(.ref 370)]
noncomputable def hC(n:Str)(s0 s1 s2 s18 r8 r11 r13 r14 r15 i3 i4 i5 i6 i7 i10 i16 i17:Nat)(b9:Bool):Obj:={ cls:=.type "code",data:=.fields #[.str n s0,.str n s1,.str "/claim/cut.py" s2,.int (Jy i3) 0,.int (Jy i4) 0,.int (Jy i5) 0,.int (Jy i6) 0,.int (Jy i7) 0,.ref r8,.bool b9,.int (Jy i10) 0,.ref r11,.none,.ref r13,.ref r14,.ref r15,.int (Jy i16) 0,.int (Jy i17) 0,.str "/claim/cut.py" s18] }
noncomputable def hF(t:G0)(s:Stmt)(n:Str)(g:Nat)(m c:G0):Obj:={ cls:=t,data:=.func (kU s n n g m c) }
noncomputable def zzH(s:Stmt)(n:Str)(m:G0)(r:Nat):Obj:=hF (.type "function") s n 3 m (.ref r)
noncomputable def ob11:Obj:=kTu []
noncomputable def ob12:Obj:={ cls:=.none,data:=.fields (HJ (fl12.take 0)) }
noncomputable def ob13:Obj:=zzD "<module>" "<module>" 182 183 184 1 0 0 11 false 12 .none .none .none 185 186
noncomputable def ob14:Obj:={ cls:=(.type "frame"),slots:=#[(some (.ref 13)),(some (.ref 3)),(some (.ref 3)),none,(some (.str "__main__" 164)),none,(some (.ref 0))] }
noncomputable def ob15(P:H0):Obj:=zzM 10 (hE P "__name__" 165 zzE::(en3 P).take 9)
noncomputable def ob16:Obj:={ cls:=.none,data:=.fields (HJ (fl12.take 3)) }
noncomputable def ob17:Obj:=kTu [(.type "ValueError")]
noncomputable def ob18:Obj:={ cls:=(.type "builtin_function_or_method"),data:=(.fields #[(.builtin "type.__prepare__"),(.type "type")]) }
noncomputable def ob19(P:H0):Obj:=zzM 4 [hE P "__module__" 196 zzE,hE P "__qualname__" 198 (.str "SpotError" 197),hE P "__firstlineno__" 200 (.int 2 199),hE P "__static_attributes__" 201 (.ref 22)]
noncomputable def ob20:Obj:=zzD "SpotError" "SpotError" 191 192 193 2 0 0 18 false 19 .none .none .none 194 195
noncomputable def ob21:Obj:={ cls:=(.type "frame"),slots:=#[(some (.ref 20)),(some (.ref 3)),(some (.ref 17)),none,(some zzE),none,(some (.ref 0))] }
noncomputable def ob22(P:H0):Obj:=zzM 3 [hE P "__module__" 196 zzE,hE P "__firstlineno__" 200 (.int 2 199),hE P "__static_attributes__" 201 (.ref 22),hE P "__weakref__" 203 (.ref 25),hE P "__doc__" 204 .none]
noncomputable def ob23:Obj:={ cls:=(.type "type"),data:=(.cls { name:="SpotError",bases:=[(.type "ValueError")],mro:=[(.ref 24),(.type "ValueError"),(.type "Exception"),(.type "BaseException"),(.type "object")],ns:=23,qualname:="SpotError",hasDict:=true,slotNames:=[],subclasses:=[],abstract:=false,collection:=none,hasDel:=false }),slots:=#[(some (.ref 15)),none,(some (.str "SpotError" 189)),(some (.str "SpotError" 197)),(some (.builtin "ValueError.__new__")),(some (.bool true))] }
noncomputable def ob24:Obj:={ cls:=(.type "getset_descriptor"),data:=(.fields #[(.str "__weakref__" 202),(.ref 24),(.builtin "ExceptionGroup.__weakref__"),.none]) }
noncomputable def ob25:Obj:={ cls:=(.type "super"),data:=(.fields #[(.ref 24),(.ref 24),(.ref 24)]) }
noncomputable def ob26:Obj:={ cls:=(.type "builtin_function_or_method"),data:=(.fields #[(.builtin "object.__init_subclass__"),(.ref 24)]) }
noncomputable def ob27(P:H0):Obj:=zzM 16 (hE P "__name__" 165 (.str "spotlook.spots" 267)::(en3 P).take 15)
noncomputable def ob28:Obj:={ cls:=.none,data:=.fields (HJ (fl12.take 21)) }
noncomputable def ob29:Obj:={ cls:=(.type "type"),data:=(.cls { name:="SpotError",bases:=[(.type "ValueError")],mro:=[(.ref 24),(.type "ValueError"),(.type "Exception"),(.type "BaseException"),(.type "object")],ns:=23,qualname:="SpotError",hasDict:=true,slotNames:=[],subclasses:=[(.ref 37)],abstract:=false,collection:=none,hasDel:=false }),slots:=#[(some (.ref 15)),none,(some (.str "SpotError" 189)),(some (.str "SpotError" 197)),(some (.builtin "ValueError.__new__")),(some (.bool true))] }
noncomputable def ob30:Obj:=kTu [(.ref 24)]
noncomputable def ob31(P:H0):Obj:=zzM 4 [hE P "__module__" 214 zzE,hE P "__qualname__" 216 (.str "NoFraction" 215),hE P "__firstlineno__" 218 (.int 4 217),hE P "__static_attributes__" 219 (.ref 35)]
noncomputable def ob32:Obj:=zzD "NoFraction" "NoFraction" 209 210 211 4 0 0 31 false 32 .none .none .none 212 213
noncomputable def ob33:Obj:={ cls:=(.type "frame"),slots:=#[(some (.ref 33)),(some (.ref 3)),(some (.ref 30)),none,(some zzE),none,(some (.ref 0))] }
noncomputable def ob34(P:H0):Obj:=zzM 2 [hE P "__module__" 214 zzE,hE P "__firstlineno__" 218 (.int 4 217),hE P "__static_attributes__" 219 (.ref 35),hE P "__doc__" 220 .none]
noncomputable def ob35:Obj:=zzK "NoFraction" 37 36 28 207 215
noncomputable def ob36:Obj:={ cls:=(.type "super"),data:=(.fields #[(.ref 37),(.ref 37),(.ref 37)]) }
noncomputable def ob37:Obj:={ cls:=(.type "builtin_function_or_method"),data:=(.fields #[(.builtin "object.__init_subclass__"),(.ref 37)]) }
noncomputable def ob38:Obj:=kTu [(.str "one" 228),(.str "other" 229)]
noncomputable def ob39:Obj:=hF .none st4 "greatest_divisor" 0 .none .none
noncomputable def ob40:Obj:=hC "greatest_divisor" 225 226 227 231 40 41 42 43 44 7 2 0 0 3 181 230 7 true
noncomputable def ob41:Obj:=zzH st4 "greatest_divisor" (.str "spotlook.fractions" 223) 45
noncomputable def ob42:Obj:=kTu [(.str "top" 236),(.str "bottom" 237),(.str "divisor" 238)]
noncomputable def ob43:Obj:=hF .none st5 "fraction" 0 .none .none
noncomputable def ob44:Obj:=hC "fraction" 233 234 235 240 47 48 49 50 51 11 2 0 0 3 181 239 11 true
noncomputable def ob45:Obj:=zzH st5 "fraction" (.str "spotlook.fractions" 223) 52
noncomputable def ob46:Obj:=kTu [(.str "one" 245),(.str "other" 246)]
noncomputable def ob47:Obj:=hF .none st6 "is_less" 0 .none .none
noncomputable def ob48:Obj:=hC "is_less" 242 243 244 248 54 55 56 57 58 18 2 0 0 3 181 247 18 true
noncomputable def ob49:Obj:=zzH st6 "is_less" (.str "spotlook.fractions" 223) 59
noncomputable def ob50:Obj:=kTu [(.str "parts" 253),(.str "common" 254),(.str "part" 255)]
noncomputable def ob51:Obj:=hF .none st7 "common_bottom" 0 .none .none
noncomputable def ob52:Obj:=hC "common_bottom" 250 251 252 257 61 62 63 64 65 20 1 0 0 3 181 256 20 true
noncomputable def ob53:Obj:=zzH st7 "common_bottom" (.str "spotlook.fractions" 223) 66
noncomputable def ob54:Obj:=kTu [(.str "part" 262),(.str "bottom" 263)]
noncomputable def ob55:Obj:=hF .none st8 "top_over" 0 .none .none
noncomputable def ob56:Obj:=hC "top_over" 259 260 261 265 68 69 70 71 72 25 2 0 0 3 181 264 25 true
noncomputable def ob57:Obj:=zzH st8 "top_over" (.str "spotlook.fractions" 223) 73
noncomputable def ob58(P:H0):Obj:=zzM 28 (hE P "__name__" 165 (.str "spotlook.above" 374)::(en3 P).take 27)
noncomputable def ob59:Obj:={ cls:=.none,data:=.fields (HJ (fl12.take 57)) }
noncomputable def ob60:Obj:=kTu [(.str "one" 272),(.str "other" 273)]
noncomputable def ob61:Obj:=hF .none st10 "is_ahead" 0 .none .none
noncomputable def ob62:Obj:=hC "is_ahead" 269 270 271 275 75 76 77 78 79 28 2 0 0 3 181 274 28 true
noncomputable def ob63:Obj:=zzH st10 "is_ahead" (.str "spotlook.spots" 267) 80
noncomputable def ob64:Obj:=kTu [(.str "one" 280),(.str "other" 281)]
noncomputable def ob65:Obj:=hF .none st11 "later_of" 0 .none .none
noncomputable def ob66:Obj:=hC "later_of" 277 278 279 283 82 83 84 85 86 32 2 0 0 3 181 282 32 true
noncomputable def ob67:Obj:=zzH st11 "later_of" (.str "spotlook.spots" 267) 87
noncomputable def ob68:Obj:=kTu [(.str "one" 288),(.str "other" 289)]
noncomputable def ob69:Obj:=hF .none st12 "earlier_of" 0 .none .none
noncomputable def ob70:Obj:=hC "earlier_of" 285 286 287 291 89 90 91 92 93 34 2 0 0 3 181 290 34 true
noncomputable def ob71:Obj:=zzH st12 "earlier_of" (.str "spotlook.spots" 267) 94
noncomputable def ob72:Obj:=kTu [(.str "row" 296),(.str "spot" 297),(.str "low" 298),(.str "high" 299),(.str "middle" 300)]
noncomputable def ob73:Obj:=hF .none st13 "place_among" 0 .none .none
noncomputable def ob74:Obj:=hC "place_among" 293 294 295 302 96 97 98 99 100 36 2 0 0 3 181 301 36 true
noncomputable def ob75:Obj:=zzH st13 "place_among" (.str "spotlook.spots" 267) 101
noncomputable def ob76:Obj:=kTu [(.str "spots" 307),(.str "row" 308),(.str "spot" 309)]
noncomputable def ob77:Obj:=hF .none st14 "ahead_first" 0 .none .none
noncomputable def ob78:Obj:=hC "ahead_first" 304 305 306 311 103 104 105 106 107 45 1 0 0 3 181 310 45 true
noncomputable def ob79:Obj:=zzH st14 "ahead_first" (.str "spotlook.spots" 267) 108
noncomputable def ob80:Obj:=kTu [(.str "spot" 316),(.str "x" 317),(.str "y" 318)]
noncomputable def ob81:Obj:=hF .none st15 "own_spot" 0 .none .none
noncomputable def ob82:Obj:=hC "own_spot" 313 314 315 320 110 111 112 113 114 50 1 0 0 3 181 319 50 true
noncomputable def ob83:Obj:=zzH st15 "own_spot" (.str "spotlook.spots" 267) 115
noncomputable def ob84:Obj:=kTu [(.str "wall" 325)]
noncomputable def ob85:Obj:=hF .none st16 "own_wall" 0 .none .none
noncomputable def ob86:Obj:=hC "own_wall" 322 323 324 327 117 118 119 120 121 53 1 0 0 3 181 326 53 true
noncomputable def ob87:Obj:=zzH st16 "own_wall" (.str "spotlook.spots" 267) 122
noncomputable def ob88:Obj:=kTu [(.str "one" 332),(.str "other" 333)]
noncomputable def ob89:Obj:=hF .none st17 "gap" 0 .none .none
noncomputable def ob90:Obj:=hC "gap" 329 330 331 335 124 125 126 127 128 55 2 0 0 3 181 334 55 true
noncomputable def ob91:Obj:=zzH st17 "gap" (.str "spotlook.spots" 267) 129
noncomputable def ob92:Obj:=kTu [(.str "wall" 340),(.str "spot" 341),(.str "a" 342),(.str "b" 343),(.str "c" 344),(.str "d" 345),(.str "x" 346),(.str "y" 347),(.str "across" 348),(.str "up" 349),(.str "along" 350),(.str "high" 351)]
noncomputable def ob93:Obj:=hF .none st18 "lean" 0 .none .none
noncomputable def ob94:Obj:=hC "lean" 337 338 339 353 131 132 133 134 135 57 2 0 0 3 181 352 57 true
noncomputable def ob95:Obj:=zzH st18 "lean" (.str "spotlook.spots" 267) 136
noncomputable def ob96:Obj:=kTu [(.str "wall" 358),(.str "spot" 359),(.str "top" 360)]
noncomputable def ob97:Obj:=hF .none st19 "side_of" 0 .none .none
noncomputable def ob98:Obj:=hC "side_of" 355 356 357 362 138 139 140 141 142 63 2 0 0 3 181 361 63 true
noncomputable def ob99:Obj:=zzH st19 "side_of" (.str "spotlook.spots" 267) 143
noncomputable def ob100:Obj:=kTu [(.str "wall" 367),(.str "spot" 368),(.str "first" 369),(.str "second" 370)]
noncomputable def ob101:Obj:=hF .none st20 "lies_on" 0 .none .none
noncomputable def ob102:Obj:=hC "lies_on" 364 365 366 372 145 146 147 148 149 70 2 0 0 3 181 371 70 true
noncomputable def ob103:Obj:=zzH st20 "lies_on" (.str "spotlook.spots" 267) 150
noncomputable def ob104:Obj:=kTu [(.str "wall" 379),(.str "spot" 380)]
noncomputable def ob105:Obj:=hF .none st22 "spans" 0 .none .none
noncomputable def ob106:Obj:=hC "spans" 376 377 378 382 152 153 154 155 156 74 2 0 0 3 181 381 74 true
noncomputable def ob107:Obj:=zzH st22 "spans" (.str "spotlook.above" 374) 157
noncomputable def ob108(P:H0):Obj:=zzM 40 (hE P "__name__" 165 (.str "spotlook.lands" 488)::(en3 P).take 39)
noncomputable def ob109:Obj:={ cls:=.none,data:=.fields (HJ (fl12.take 93)) }
noncomputable def ob110:Obj:=kTu [(.str "one" 387),(.str "other" 388),(.str "start" 389),(.str "end" 390),(.str "place" 391),(.str "deciding" 392)]
noncomputable def ob111:Obj:=hF .none st23 "is_above" 0 .none .none
noncomputable def ob112:Obj:=hC "is_above" 384 385 386 394 159 160 161 162 163 76 2 0 0 3 181 393 76 true
noncomputable def ob113:Obj:=zzH st23 "is_above" (.str "spotlook.above" 374) 164
noncomputable def ob114:Obj:=kTu [(.str "walls" 399),(.str "upper" 400),(.str "wall" 401)]
noncomputable def ob115:Obj:=hF .none st24 "upper_of" 0 .none .none
noncomputable def ob116:Obj:=hC "upper_of" 396 397 398 403 166 167 168 169 170 84 1 0 0 3 181 402 84 true
noncomputable def ob117:Obj:=zzH st24 "upper_of" (.str "spotlook.above" 374) 171
noncomputable def ob118:Obj:=hF .none st25 "upper_below" 0 .none .none
noncomputable def ob119:Obj:=zzD "upper_below" "upper_below" 405 406 407 90 2 3 173 true 174 .none .none (.ref 175) 408 409
noncomputable def ob120:Obj:=zzH st25 "upper_below" (.str "spotlook.above" 374) 176
noncomputable def ob121:Obj:=kTu [(.str "plot" 416),(.str "face" 417),(.str "first" 418),(.str "second" 419)]
noncomputable def ob122:Obj:=hF .none st27 "face_ends" 0 .none .none
noncomputable def ob123:Obj:=hC "face_ends" 413 414 415 421 178 179 180 181 182 94 2 0 0 3 181 420 94 true
noncomputable def ob124:Obj:=zzH st27 "face_ends" (.str "spotlook.rings" 411) 183
noncomputable def ob125:Obj:=kTu [(.str "plot" 426),(.str "leaving" 427),(.str "face" 428)]
noncomputable def ob126:Obj:=hF .none st28 "faces_by_start" 0 .none .none
noncomputable def ob127:Obj:=hC "faces_by_start" 423 424 425 430 185 186 187 188 189 97 1 0 0 3 181 429 97 true
noncomputable def ob128:Obj:=zzH st28 "faces_by_start" (.str "spotlook.rings" 411) 190
noncomputable def ob129:Obj:=kTu [(.str "corner" 435),(.str "came_from" 436),(.str "one" 437),(.str "other" 438),(.str "turn" 439),(.str "other_turn" 440)]
noncomputable def ob130:Obj:=hF .none st29 "is_met_sooner" 0 .none .none
noncomputable def ob131:Obj:=hC "is_met_sooner" 432 433 434 442 192 193 194 195 196 102 4 0 0 3 181 441 102 true
noncomputable def ob132:Obj:=zzH st29 "is_met_sooner" (.str "spotlook.rings" 411) 197
noncomputable def ob133:Obj:=kTu [(.str "plot" 447),(.str "leaving" 448),(.str "face" 449),(.str "came_from" 450),(.str "corner" 451),(.str "back" 452),(.str "best" 453),(.str "rival" 454)]
noncomputable def ob134:Obj:=hF .none st30 "face_behind" 0 .none .none
noncomputable def ob135:Obj:=hC "face_behind" 444 445 446 456 199 200 201 202 203 108 3 0 0 3 181 455 108 true
noncomputable def ob136:Obj:=zzH st30 "face_behind" (.str "spotlook.rings" 411) 204
noncomputable def ob137:Obj:=kTu [(.str "plot" 461),(.str "leaving" 462),(.str "face" 463),(.str "ring" 464),(.str "at" 465)]
noncomputable def ob138:Obj:=hF .none st31 "ring_from" 0 .none .none
noncomputable def ob139:Obj:=hC "ring_from" 458 459 460 467 206 207 208 209 210 116 3 0 0 3 181 466 116 true
noncomputable def ob140:Obj:=zzH st31 "ring_from" (.str "spotlook.rings" 411) 211
noncomputable def ob141:Obj:=kTu [(.str "plot" 472),(.str "leaving" 473),(.str "rings" 474),(.str "gone_along" 475),(.str "face" 476),(.str "ring" 477),(.str "part" 478)]
noncomputable def ob142:Obj:=hF .none st32 "rings_of" 0 .none .none
noncomputable def ob143:Obj:=hC "rings_of" 469 470 471 480 213 214 215 216 217 123 1 0 0 3 181 479 123 true
noncomputable def ob144:Obj:=zzH st32 "rings_of" (.str "spotlook.rings" 411) 218
noncomputable def ob145:Obj:=hF .none st33 "twice_area" 0 .none .none
noncomputable def ob146:Obj:=zzD "twice_area" "twice_area" 482 483 484 134 2 3 220 true 221 .none .none (.ref 222) 485 486
noncomputable def ob147:Obj:=zzH st33 "twice_area" (.str "spotlook.rings" 411) 223
noncomputable def ob148:Obj:=kTu [(.str "plot" 493),(.str "outers" 494),(.str "inners" 495),(.str "ring" 496)]
noncomputable def ob149:Obj:=hF .none st35 "outer_and_inner" 0 .none .none
noncomputable def ob150:Obj:=hC "outer_and_inner" 490 491 492 498 225 226 227 228 229 144 1 0 0 3 181 497 144 true
noncomputable def ob151:Obj:=zzH st35 "outer_and_inner" (.str "spotlook.lands" 488) 230
noncomputable def ob152:Obj:=kTu [(.str "plot" 503),(.str "ring" 504),(.str "first" 505),(.str "face" 506)]
noncomputable def ob153:Obj:=hF .none st36 "first_corner" 0 .none .none
noncomputable def ob154:Obj:=hC "first_corner" 500 501 502 508 232 233 234 235 236 152 2 0 0 3 181 507 152 true
noncomputable def ob155:Obj:=zzH st36 "first_corner" (.str "spotlook.lands" 488) 237
noncomputable def ob156(P:H0):Obj:=zzM 52 (hE P "__name__" 165 zzN::(en3 P).take 51)
noncomputable def ob157:Obj:={ cls:=.none,data:=.fields (HJ (fl12.take 129)) }
noncomputable def ob158:Obj:=kTu [(.str "plot" 513),(.str "lands" 514),(.str "corner" 515),(.str "wall" 516)]
noncomputable def ob159:Obj:=hF .none st37 "land_about" 0 .none .none
noncomputable def ob160:Obj:=hC "land_about" 510 511 512 518 239 240 241 242 243 157 3 0 0 3 181 517 157 true
noncomputable def ob161:Obj:=zzH st37 "land_about" (.str "spotlook.lands" 488) 244
noncomputable def ob162:Obj:=hF .none st38 "lands_of_faces" 0 .none .none
noncomputable def ob163:Obj:=zzD "lands_of_faces" "lands_of_faces" 520 521 522 160 1 3 246 true 247 .none .none (.ref 248) 523 524
noncomputable def ob164:Obj:=zzH st38 "lands_of_faces" (.str "spotlook.lands" 488) 249
noncomputable def ob165:Obj:=kTu [(.str "plot" 531),(.str "corners" 532),(.str "wall" 533),(.str "end" 534)]
noncomputable def ob166:Obj:=hF .none st40 "corners_of" 0 .none .none
noncomputable def ob167:Obj:=hC "corners_of" 528 529 530 536 251 252 253 254 255 173 1 0 0 3 181 535 173 true
noncomputable def ob168:Obj:=zzH st40 "corners_of" (.str "spotlook.plots" 526) 256
noncomputable def ob169:Obj:=kTu [(.str "plot" 543),(.str "spot" 544),(.str "wall" 545)]
noncomputable def ob170:Obj:=hF .none st42 "wall_below" 0 .none .none
noncomputable def ob171:Obj:=hC "wall_below" 540 541 542 547 258 259 260 261 262 180 2 0 0 3 181 546 180 true
noncomputable def ob172:Obj:=zzH st42 "wall_below" (.str "spotlook.plain" 538) 263
noncomputable def ob173:Obj:=kTu [(.str "plot" 552),(.str "spot" 553)]
noncomputable def ob174:Obj:=hF .none st43 "look_plainly" 0 .none .none
noncomputable def ob175:Obj:=hC "look_plainly" 549 550 551 555 265 266 267 268 269 183 2 0 0 3 181 554 183 true
noncomputable def ob176:Obj:=zzH st43 "look_plainly" (.str "spotlook.plain" 538) 270
noncomputable def ob177:Obj:=kTu [(.str "plot" 560),(.str "lands" 561),(.str "spot" 562),(.str "corners" 563),(.str "number" 564),(.str "wall" 565),(.str "below" 566)]
noncomputable def ob178:Obj:=hF .none st44 "look_with_lands" 0 .none .none
noncomputable def ob179:Obj:=hC "look_with_lands" 557 558 559 568 272 273 274 275 276 185 3 0 0 3 181 567 185 true
noncomputable def ob180:Obj:=zzH st44 "look_with_lands" (.str "spotlook.plain" 538) 277
noncomputable def ob181:Obj:=kTu [(.str "_law_script" 575),(.str "_law_k" 576)]
noncomputable def ob182:Obj:=hF .none st46 "_law_cell_at" 0 .none .none
noncomputable def ob183:Obj:=hC "_law_cell_at" 572 573 574 578 279 280 281 282 283 195 2 0 0 3 181 577 195 true
noncomputable def ob184:Obj:=zzH st46 "_law_cell_at" zzN 284
noncomputable def ob185:Obj:=kTu [(.str "_law_row" 583),(.str "_law_base" 584),(.str "_law_rest" 585),(.str "_law_number" 586)]
noncomputable def ob186:Obj:=hF .none st47 "_law_take" 0 .none .none
noncomputable def ob187:Obj:=hC "_law_take" 580 581 582 588 286 287 288 289 290 199 2 0 0 3 181 587 199 true
noncomputable def ob188:Obj:=zzH st47 "_law_take" zzN 291
noncomputable def ob189:Obj:=kTu [(.str "_law_top" 593),(.str "_law_bottom" 594),(.str "_law_one" 595),(.str "_law_other" 596)]
noncomputable def ob190:Obj:=hF .none st48 "_law_low" 0 .none .none
noncomputable def ob191:Obj:=hC "_law_low" 590 591 592 598 293 294 295 296 297 208 2 0 0 3 181 597 208 true
noncomputable def ob192:Obj:=zzH st48 "_law_low" zzN 298
noncomputable def ob193:Obj:=kTu [(.str "_law_row" 603),(.str "_law_top" 604),(.str "_law_bottom" 605),(.str "_law_far" 606)]
noncomputable def ob194:Obj:=hF .none st49 "_law_scale" 0 .none .none
noncomputable def ob195:Obj:=hC "_law_scale" 600 601 602 608 300 301 302 303 304 216 1 0 0 3 181 607 216 true
noncomputable def ob196:Obj:=zzH st49 "_law_scale" zzN 305
noncomputable def ob197:Obj:=kTu [(.str "_law_scale_here" 613),(.str "_law_unit" 614),(.str "_law_top" 615),(.str "_law_bottom" 616),(.str "_law_x" 617),(.str "_law_y" 618)]
noncomputable def ob198:Obj:=hF .none st50 "_law_spot" 0 .none .none
noncomputable def ob199:Obj:=hC "_law_spot" 610 611 612 620 307 308 309 310 311 222 2 0 0 3 181 619 222 true
noncomputable def ob200:Obj:=zzH st50 "_law_spot" zzN 312
noncomputable def ob201:Obj:=hF .none st51 "_law_made" 0 .none .none
noncomputable def ob202:Obj:=zzD "_law_made" "_law_made" 622 623 624 225 2 3 314 true 315 .none .none (.ref 316) 625 626
noncomputable def ob203:Obj:=zzH st51 "_law_made" zzN 317
noncomputable def ob204(P:H0):Obj:=zzM 61 (hE P "__name__" 165 zzN::(en3 P).take 60)
noncomputable def ob205:Obj:={ cls:=.none,data:=.fields (HJ (fl12.take 156)) }
noncomputable def ob206:Obj:=kTu [(.str "_law_one" 631),(.str "_law_two" 632),(.str "_law_three" 633),(.str "_law_far" 634),(.str "_law_beside" 635),(.str "_law_found" 636)]
noncomputable def ob207:Obj:=hF .none st52 "_law_turn" 0 .none .none
noncomputable def ob208:Obj:=hC "_law_turn" 628 629 630 638 319 320 321 322 323 227 3 0 0 3 181 637 227 true
noncomputable def ob209:Obj:=zzH st52 "_law_turn" zzN 324
noncomputable def ob210:Obj:=kTu [(.str "_law_shut" 643),(.str "_law_spot_here" 644)]
noncomputable def ob211:Obj:=hF .none st53 "_law_on" 0 .none .none
noncomputable def ob212:Obj:=hC "_law_on" 640 641 642 646 326 327 328 329 330 232 2 0 0 3 181 645 232 true
noncomputable def ob213:Obj:=zzH st53 "_law_on" zzN 331
noncomputable def ob214:Obj:=hF .none st54 "_law_fair" 0 .none .none
noncomputable def ob215:Obj:=zzD "_law_fair" "_law_fair" 648 649 650 234 2 3 333 true 334 .none .none (.ref 335) 651 652
noncomputable def ob216:Obj:=zzH st54 "_law_fair" zzN 336
noncomputable def ob217:Obj:=hF .none st55 "_law_shuts_here" 0 .none .none
noncomputable def ob218:Obj:=zzD "_law_shuts_here" "_law_shuts_here" 654 655 656 244 3 3 338 true 339 .none .none (.ref 340) 657 658
noncomputable def ob219:Obj:=zzH st55 "_law_shuts_here" zzN 341
noncomputable def ob220:Obj:=hF .none st56 "_law_box" 0 .none .none
noncomputable def ob221:Obj:=zzD "_law_box" "_law_box" 660 661 662 255 2 3 343 true 344 .none .none (.ref 345) 663 664
noncomputable def ob222:Obj:=zzH st56 "_law_box" zzN 346
noncomputable def ob223:Obj:=kTu [(.str "_law_row" 669),(.str "_law_many" 670),(.str "_law_found" 671),(.str "_law_number" 672)]
noncomputable def ob224:Obj:=hF .none st57 "_law_order" 0 .none .none
noncomputable def ob225:Obj:=hC "_law_order" 666 667 668 674 348 349 350 351 352 259 2 0 0 3 181 673 259 true
noncomputable def ob226:Obj:=zzH st57 "_law_order" zzN 353
noncomputable def ob227:Obj:=hF .none st58 "_law_set" 0 .none .none
noncomputable def ob228:Obj:=zzD "_law_set" "_law_set" 676 677 678 264 1 3 355 true 356 .none .none (.ref 357) 679 680
noncomputable def ob229:Obj:=zzH st58 "_law_set" zzN 358
noncomputable def ob230:Obj:=kTu [(.str "_law_scale_here" 685),(.str "_law_told" 686),(.str "_law_top" 687),(.str "_law_bottom" 688),(.str "_law_x" 689),(.str "_law_y" 690),(.str "_law_many" 691)]
noncomputable def ob231:Obj:=hF .none st59 "_law_real" 0 .none .none
noncomputable def ob232:Obj:=hC "_law_real" 682 683 684 693 360 361 362 363 364 279 2 0 0 3 181 692 279 true
noncomputable def ob233:Obj:=zzH st59 "_law_real" zzN 365
noncomputable def ob234:Obj:=hF .none st60 "law" 0 .none .none
noncomputable def ob235:Obj:=zzD "law" "law" 695 696 697 283 1 3 367 true 368 .none .none (.ref 369) 698 699
noncomputable def ob236:Obj:=zzH st60 "law" zzN 370
noncomputable def oL0(P:H0):List Obj:=[PySem.W.boot_o_0 P,PySem.W.boot_o_1 P,PySem.W.boot_o_2 P,PySem.W.boot_o_3 P,PySem.W.boot_o_4 P,PySem.W.boot_o_5 P,PySem.W.boot_o_6 P,PySem.W.boot_o_7 P,PySem.W.boot_o_8 P,PySem.W.boot_o_9 P,PySem.W.boot_o_10 P,ob11,ob12,ob13,ob14,ob15 P]
noncomputable def oL1(P:H0):List Obj:=[ob16,ob17,ob18,ob19 P,ob20,ob21,ob22 P,ob23,ob24,ob25,ob26,ob27 P,ob28,ob29,ob30,ob31 P]
noncomputable def oL2(P:H0):List Obj:=[ob32,ob33,ob34 P,ob35,ob36,ob37,ob38,ob39,ob40,ob41,ob42,ob43,ob44,ob45,ob46,ob47]
noncomputable def oL3(P:H0):List Obj:=[ob48,ob49,ob50,ob51,ob52,ob53,ob54,ob55,ob56,ob57,ob58 P,ob59,ob60,ob61,ob62,ob63]
noncomputable def oL4(P:H0):List Obj:=[ob64,ob65,ob66,ob67,ob68,ob69,ob70,ob71,ob72,ob73,ob74,ob75,ob76,ob77,ob78,ob79]
noncomputable def oL5(P:H0):List Obj:=[ob80,ob81,ob82,ob83,ob84,ob85,ob86,ob87,ob88,ob89,ob90,ob91,ob92,ob93,ob94,ob95]
noncomputable def oL6(P:H0):List Obj:=[ob96,ob97,ob98,ob99,ob100,ob101,ob102,ob103,ob104,ob105,ob106,ob107,ob108 P,ob109,ob110,ob111]
noncomputable def oL7(P:H0):List Obj:=[ob112,ob113,ob114,ob115,ob116,ob117,ob118,ob119,ob120,ob121,ob122,ob123,ob124,ob125,ob126,ob127]
noncomputable def oL8(P:H0):List Obj:=[ob128,ob129,ob130,ob131,ob132,ob133,ob134,ob135,ob136,ob137,ob138,ob139,ob140,ob141,ob142,ob143]
noncomputable def oL9(P:H0):List Obj:=[ob144,ob145,ob146,ob147,ob148,ob149,ob150,ob151,ob152,ob153,ob154,ob155,ob156 P,ob157,ob158,ob159]
noncomputable def oL10(P:H0):List Obj:=[ob160,ob161,ob162,ob163,ob164,ob165,ob166,ob167,ob168,ob169,ob170,ob171,ob172,ob173,ob174,ob175]
noncomputable def oL11(P:H0):List Obj:=[ob176,ob177,ob178,ob179,ob180,ob181,ob182,ob183,ob184,ob185,ob186,ob187,ob188,ob189,ob190,ob191]
noncomputable def oL12(P:H0):List Obj:=[ob192,ob193,ob194,ob195,ob196,ob197,ob198,ob199,ob200,ob201,ob202,ob203,ob204 P,ob205,ob206,ob207]
noncomputable def oL13(P:H0):List Obj:=[ob208,ob209,ob210,ob211,ob212,ob213,ob214,ob215,ob216,ob217,ob218,ob219,ob220,ob221,ob222,ob223]
noncomputable def oL14(P:H0):List Obj:=[ob224,ob225,ob226,ob227,ob228,ob229,ob230,ob231,ob232,ob233,ob234,ob235,ob236]
noncomputable def fA(c i:Nat)(P:H0):Obj:=(([oL0 P,oL1 P,oL2 P,oL3 P,oL4 P,oL5 P,oL6 P,oL7 P,oL8 P,oL9 P,oL10 P,oL11 P,oL12 P,oL13 P,oL14 P]:List (List Obj)).getD c []).getD i { cls:=.none }
noncomputable def tW0(n:Nat->GX->GX->GX)(e:GX):GX:=(fun m:Nat->GX=>(n 0 (n 1 (n 3 (m 7) (m 11)) (n 5 (m 9) (m 13))) (n 2 (n 4 (m 8) (m 12)) (n 6 (m 10) (m 14))))) fun a=>n a e e
noncomputable def tX0(f:Nat->Nat->H0->Obj)(P:H0):GX:=tW0 (fun k=>.node (f (k/16) (k%16) P)) .nil
noncomputable def tW1(n:Nat->GX->GX->GX)(e:GX):GX:=(fun m:Nat->GX=>(n 0 (n 1 (n 15 (n 7 (m 17) (m 22)) (n 11 (m 12) (m 26))) (n 5 (n 9 (m 19) (m 24)) (n 13 (m 21) e))) (n 2 (n 4 (n 8 (m 18) (m 23)) (n 16 (m 20) e)) (n 6 (n 10 (m 11) (m 25)) (n 14 (m 11) e))))) fun a=>n a e e
noncomputable def tX1(f:Nat->Nat->H0->Obj)(P:H0):GX:=tW1 (fun k=>.node (f (k/16) (k%16) P)) .nil
noncomputable def tW2(n:Nat->GX->GX->GX)(e:GX):GX:=(fun m:Nat->GX=>(n 0 (n 1 (n 27 (n 7 (n 17 (n 11 (m 50) e) (m 11)) (n 22 (n 37 (m 11) e) (m 12))) (n 11 (n 12 (n 11 (m 53) e) (m 43)) (n 26 (m 11) (m 48)))) (n 5 (n 9 (n 19 (n 32 (m 51) e) (m 42)) (n 24 (n 12 (m 56) e) (m 11))) (n 13 (n 21 (n 35 (m 12) e) (m 45)) (n 18 (m 40) (m 11))))) (n 2 (n 4 (n 8 (n 18 (n 12 (m 11) e) (m 12)) (n 29 (n 11 (m 55) e) (m 46))) (n 28 (n 20 (n 34 (m 11) e) (m 44)) (n 30 (m 39) (m 49)))) (n 6 (n 10 (n 11 (n 33 (m 52) e) (m 11)) (n 25 (n 38 (m 57) e) (m 47))) (n 14 (n 11 (n 36 (m 54) e) (m 11)) (n 31 (m 41) (m 12))))))) fun a=>n a e e
noncomputable def tX2(f:Nat->Nat->H0->Obj)(P:H0):GX:=tW2 (fun k=>.node (f (k/16) (k%16) P)) .nil
noncomputable def tW3(n:Nat->GX->GX->GX)(e:GX):GX:=(fun m:Nat->GX=>(n 0 (n 1 (n 58 (n 7 (n 17 (n 11 (n 50 (m 11) e) (m 71)) (n 11 (n 61 (m 98) e) (m 12))) (n 22 (n 37 (n 11 (m 93) e) (m 11)) (n 12 (n 66 (m 103) e) (m 84)))) (n 11 (n 12 (n 11 (n 53 (m 11) e) (m 11)) (n 43 (n 12 (m 100) e) (m 82))) (n 26 (n 11 (n 11 (m 12) e) (m 77)) (n 48 (n 68 (m 11) e) (m 87))))) (n 5 (n 9 (n 19 (n 32 (n 51 (m 90) e) (m 12)) (n 42 (n 63 (m 11) e) (m 11))) (n 24 (n 12 (n 56 (m 95) e) (m 76)) (n 11 (n 11 (m 12) e) (m 85)))) (n 13 (n 21 (n 35 (n 12 (m 92) e) (m 74)) (n 45 (n 11 (m 101) e) (m 11))) (n 18 (n 40 (n 60 (m 11) e) (m 79)) (n 11 (n 69 (m 106) e) (m 12)))))) (n 2 (n 4 (n 8 (n 18 (n 12 (n 11 (m 89) e) (m 11)) (n 12 (n 62 (m 99) e) (m 80))) (n 29 (n 11 (n 55 (m 94) e) (m 12)) (n 46 (n 67 (m 11) e) (m 11)))) (n 59 (n 20 (n 34 (n 11 (m 12) e) (m 73)) (n 44 (n 64 (m 11) e) (m 83))) (n 30 (n 39 (n 12 (m 96) e) (m 78)) (n 49 (n 11 (m 105) e) (m 11))))) (n 6 (n 10 (n 11 (n 33 (n 52 (m 91) e) (m 72)) (n 11 (n 11 (m 12) e) (m 81))) (n 25 (n 38 (n 57 (m 11) e) (m 11)) (n 47 (n 12 (m 104) e) (m 86)))) (n 14 (n 11 (n 36 (n 54 (m 11) e) (m 75)) (n 11 (n 65 (m 102) e) (m 12))) (n 31 (n 41 (n 11 (m 97) e) (m 11)) (n 12 (n 70 (m 107) e) (m 88)))))))) fun a=>n a e e
noncomputable def tX3(f:Nat->Nat->H0->Obj)(P:H0):GX:=tW3 (fun k=>.node (f (k/16) (k%16) P)) .nil
noncomputable def tW4(n:Nat->GX->GX->GX)(e:GX):GX:=(fun m:Nat->GX=>(n 0 (n 1 (n 108 (n 7 (n 17 (n 11 (n 50 (m 11) (m 128)) (n 71 (m 11) (m 146))) (n 11 (n 61 (m 98) (m 12)) (n 12 (m 118) e))) (n 22 (n 37 (n 11 (m 93) (m 11)) (n 11 (m 12) (m 151))) (n 12 (n 66 (m 103) (m 141)) (n 84 (m 123) e)))) (n 11 (n 12 (n 11 (n 53 (m 11) (m 11)) (n 11 (m 111) (m 148))) (n 43 (n 12 (m 100) (m 139)) (n 82 (m 12) e))) (n 26 (n 11 (n 11 (m 12) (m 134)) (n 77 (m 116) (m 11))) (n 48 (n 68 (m 11) (m 144)) (n 87 (m 125) e))))) (n 5 (n 9 (n 19 (n 32 (n 51 (m 90) (m 12)) (n 12 (m 110) (m 11))) (n 42 (n 63 (m 11) (m 11)) (n 11 (m 120) e))) (n 24 (n 12 (n 56 (m 95) (m 133)) (n 76 (m 11) (m 12))) (n 11 (n 11 (m 12) (m 142)) (n 85 (m 11) e)))) (n 13 (n 21 (n 35 (n 12 (m 92) (m 131)) (n 74 (m 113) (m 149))) (n 45 (n 11 (m 101) (m 11)) (n 11 (m 11) e))) (n 18 (n 40 (n 60 (m 11) (m 136)) (n 79 (m 11) (m 154))) (n 11 (n 69 (m 106) (m 12)) (n 12 (m 126) e)))))) (n 2 (n 4 (n 8 (n 18 (n 12 (n 11 (m 89) (m 11)) (n 11 (m 12) (m 147))) (n 12 (n 62 (m 99) (m 137)) (n 80 (m 119) e))) (n 29 (n 11 (n 55 (m 94) (m 12)) (n 12 (m 114) (m 11))) (n 46 (n 67 (m 11) (m 11)) (n 11 (m 124) e)))) (n 109 (n 20 (n 34 (n 11 (m 12) (m 130)) (n 73 (m 112) (m 11))) (n 44 (n 64 (m 11) (m 140)) (n 83 (m 121) e))) (n 30 (n 39 (n 12 (m 96) (m 135)) (n 78 (m 117) (m 153))) (n 49 (n 11 (m 105) (m 11)) (n 11 (m 11) e))))) (n 6 (n 10 (n 11 (n 33 (n 52 (m 91) (m 129)) (n 72 (m 11) (m 12))) (n 11 (n 11 (m 12) (m 138)) (n 81 (m 11) e))) (n 25 (n 38 (n 57 (m 11) (m 11)) (n 11 (m 115) (m 152))) (n 47 (n 12 (m 104) (m 143)) (n 86 (m 12) e)))) (n 14 (n 11 (n 36 (n 54 (m 11) (m 132)) (n 75 (m 11) (m 150))) (n 11 (n 65 (m 102) (m 12)) (n 12 (m 122) e))) (n 31 (n 41 (n 11 (m 97) (m 11)) (n 11 (m 12) (m 155))) (n 12 (n 70 (m 107) (m 145)) (n 88 (m 127) e)))))))) fun a=>n a e e
noncomputable def tX4(f:Nat->Nat->H0->Obj)(P:H0):GX:=tW4 (fun k=>.node (f (k/16) (k%16) P)) .nil
noncomputable def tW5(n:Nat->GX->GX->GX)(e:GX):GX:=(fun m:Nat->GX=>(n 0 (n 1 (n 156 (n 7 (n 17 (n 11 (n 50 (n 11 (m 166) e) (m 128)) (n 71 (n 11 (m 12) e) (m 146))) (n 11 (n 61 (n 98 (m 176) e) (m 12)) (n 12 (n 118 (m 11) e) (m 11)))) (n 22 (n 37 (n 11 (n 93 (m 171) e) (m 11)) (n 11 (n 12 (m 189) e) (m 151))) (n 12 (n 66 (n 103 (m 11) e) (m 141)) (n 84 (n 123 (m 198) e) (m 12))))) (n 11 (n 12 (n 11 (n 53 (n 11 (m 12) e) (m 11)) (n 11 (n 111 (m 187) e) (m 148))) (n 43 (n 12 (n 100 (m 11) e) (m 139)) (n 82 (n 12 (m 11) e) (m 159)))) (n 26 (n 11 (n 11 (n 12 (m 173) e) (m 134)) (n 77 (n 116 (m 192) e) (m 11))) (n 48 (n 68 (n 11 (m 182) e) (m 144)) (n 87 (n 125 (m 12) e) (m 11)))))) (n 5 (n 9 (n 19 (n 32 (n 51 (n 90 (m 168) e) (m 12)) (n 12 (n 110 (m 11) e) (m 11))) (n 42 (n 63 (n 11 (m 12) e) (m 11)) (n 11 (n 120 (m 195) e) (m 158)))) (n 24 (n 12 (n 56 (n 95 (m 11) e) (m 133)) (n 76 (n 11 (m 190) e) (m 12))) (n 11 (n 11 (n 12 (m 181) e) (m 142)) (n 85 (n 11 (m 200) e) (m 163))))) (n 13 (n 21 (n 35 (n 12 (n 92 (m 11) e) (m 131)) (n 74 (n 113 (m 11) e) (m 149))) (n 45 (n 11 (n 101 (m 179) e) (m 11)) (n 11 (n 11 (m 197) e) (m 161)))) (n 18 (n 40 (n 60 (n 11 (m 174) e) (m 136)) (n 79 (n 11 (m 12) e) (m 154))) (n 11 (n 69 (n 106 (m 184) e) (m 12)) (n 12 (n 126 (m 202) e) (m 165))))))) (n 2 (n 4 (n 8 (n 18 (n 12 (n 11 (n 89 (m 167) e) (m 11)) (n 11 (n 12 (m 185) e) (m 147))) (n 12 (n 62 (n 99 (m 11) e) (m 137)) (n 80 (n 119 (m 194) e) (m 12)))) (n 29 (n 11 (n 55 (n 94 (m 172) e) (m 12)) (n 12 (n 114 (m 11) e) (m 11))) (n 46 (n 67 (n 11 (m 12) e) (m 11)) (n 11 (n 124 (m 199) e) (m 162))))) (n 157 (n 20 (n 34 (n 11 (n 12 (m 169) e) (m 130)) (n 73 (n 112 (m 188) e) (m 11))) (n 44 (n 64 (n 11 (m 178) e) (m 140)) (n 83 (n 121 (m 12) e) (m 160)))) (n 30 (n 39 (n 12 (n 96 (m 11) e) (m 135)) (n 78 (n 117 (m 11) e) (m 153))) (n 49 (n 11 (n 105 (m 183) e) (m 11)) (n 11 (n 11 (m 201) e) (m 12)))))) (n 6 (n 10 (n 11 (n 33 (n 52 (n 91 (m 11) e) (m 129)) (n 72 (n 11 (m 186) e) (m 12))) (n 11 (n 11 (n 12 (m 177) e) (m 138)) (n 81 (n 11 (m 196) e) (m 11)))) (n 25 (n 38 (n 57 (n 11 (m 12) e) (m 11)) (n 11 (n 115 (m 191) e) (m 152))) (n 47 (n 12 (n 104 (m 11) e) (m 143)) (n 86 (n 12 (m 11) e) (m 164))))) (n 14 (n 11 (n 36 (n 54 (n 11 (m 170) e) (m 132)) (n 75 (n 11 (m 12) e) (m 150))) (n 11 (n 65 (n 102 (m 180) e) (m 12)) (n 12 (n 122 (m 11) e) (m 11)))) (n 31 (n 41 (n 11 (n 97 (m 175) e) (m 11)) (n 11 (n 12 (m 193) e) (m 155))) (n 12 (n 70 (n 107 (m 11) e) (m 145)) (n 88 (n 127 (m 203) e) (m 11))))))))) fun a=>n a e e
noncomputable def tX5(f:Nat->Nat->H0->Obj)(P:H0):GX:=tW5 (fun k=>.node (f (k/16) (k%16) P)) .nil
noncomputable def tW6(n:Nat->GX->GX->GX)(e:GX):GX:=(fun m:Nat->GX=>(n 0 (n 1 (n 204 (n 7 (n 17 (n 11 (n 50 (n 11 (m 166) e) (n 128 (m 11) e)) (n 71 (n 11 (m 12) e) (n 146 (m 11) e))) (n 11 (n 61 (n 98 (m 176) e) (n 12 (m 214) e)) (n 12 (n 118 (m 11) e) (n 11 (m 11) e)))) (n 22 (n 37 (n 11 (n 93 (m 171) e) (n 11 (m 12) e)) (n 11 (n 12 (m 189) e) (n 151 (m 229) e))) (n 12 (n 66 (n 103 (m 11) e) (n 141 (m 11) e)) (n 84 (n 123 (m 198) e) (m 12))))) (n 11 (n 12 (n 11 (n 53 (n 11 (m 12) e) (n 11 (m 207) e)) (n 11 (n 111 (m 187) e) (n 148 (m 11) e))) (n 43 (n 12 (n 100 (m 11) e) (n 139 (m 12) e)) (n 82 (n 12 (m 11) e) (n 159 (m 236) e)))) (n 26 (n 11 (n 11 (n 12 (m 173) e) (n 134 (m 212) e)) (n 77 (n 116 (m 192) e) (n 11 (m 11) e))) (n 48 (n 68 (n 11 (m 182) e) (n 144 (m 222) e)) (n 87 (n 125 (m 12) e) (m 11)))))) (n 5 (n 9 (n 19 (n 32 (n 51 (n 90 (m 168) e) (n 12 (m 206) e)) (n 12 (n 110 (m 11) e) (n 11 (m 225) e))) (n 42 (n 63 (n 11 (m 12) e) (n 11 (m 216) e)) (n 11 (n 120 (m 195) e) (n 158 (m 234) e)))) (n 24 (n 12 (n 56 (n 95 (m 11) e) (n 133 (m 11) e)) (n 76 (n 11 (m 190) e) (n 12 (m 12) e))) (n 11 (n 11 (n 12 (m 181) e) (n 142 (m 220) e)) (n 85 (n 11 (m 200) e) (m 163))))) (n 13 (n 21 (n 35 (n 12 (n 92 (m 11) e) (n 131 (m 209) e)) (n 74 (n 113 (m 11) e) (n 149 (m 227) e))) (n 45 (n 11 (n 101 (m 179) e) (n 11 (m 218) e)) (n 11 (n 11 (m 197) e) (m 161)))) (n 18 (n 40 (n 60 (n 11 (m 174) e) (n 136 (m 11) e)) (n 79 (n 11 (m 12) e) (n 154 (m 232) e))) (n 11 (n 69 (n 106 (m 184) e) (n 12 (m 12) e)) (n 12 (n 126 (m 202) e) (m 165))))))) (n 2 (n 4 (n 8 (n 18 (n 12 (n 11 (n 89 (m 167) e) (n 11 (m 12) e)) (n 11 (n 12 (m 185) e) (n 147 (m 224) e))) (n 12 (n 62 (n 99 (m 11) e) (n 137 (m 215) e)) (n 80 (n 119 (m 194) e) (n 12 (m 12) e)))) (n 29 (n 11 (n 55 (n 94 (m 172) e) (n 12 (m 210) e)) (n 12 (n 114 (m 11) e) (n 11 (m 11) e))) (n 46 (n 67 (n 11 (m 12) e) (n 11 (m 12) e)) (n 11 (n 124 (m 199) e) (m 162))))) (n 205 (n 20 (n 34 (n 11 (n 12 (m 169) e) (n 130 (m 208) e)) (n 73 (n 112 (m 188) e) (n 11 (m 12) e))) (n 44 (n 64 (n 11 (m 178) e) (n 140 (m 217) e)) (n 83 (n 121 (m 12) e) (m 160)))) (n 30 (n 39 (n 12 (n 96 (m 11) e) (n 135 (m 213) e)) (n 78 (n 117 (m 11) e) (n 153 (m 231) e))) (n 49 (n 11 (n 105 (m 183) e) (n 11 (m 11) e)) (n 11 (n 11 (m 201) e) (m 12)))))) (n 6 (n 10 (n 11 (n 33 (n 52 (n 91 (m 11) e) (n 129 (m 11) e)) (n 72 (n 11 (m 186) e) (n 12 (m 226) e))) (n 11 (n 11 (n 12 (m 177) e) (n 138 (m 11) e)) (n 81 (n 11 (m 196) e) (n 11 (m 235) e)))) (n 25 (n 38 (n 57 (n 11 (m 12) e) (n 11 (m 211) e)) (n 11 (n 115 (m 191) e) (n 152 (m 230) e))) (n 47 (n 12 (n 104 (m 11) e) (n 143 (m 221) e)) (n 86 (n 12 (m 11) e) (m 164))))) (n 14 (n 11 (n 36 (n 54 (n 11 (m 170) e) (n 132 (m 11) e)) (n 75 (n 11 (m 12) e) (n 150 (m 228) e))) (n 11 (n 65 (n 102 (m 180) e) (n 12 (m 219) e)) (n 12 (n 122 (m 11) e) (m 11)))) (n 31 (n 41 (n 11 (n 97 (m 175) e) (n 11 (m 12) e)) (n 11 (n 12 (m 193) e) (n 155 (m 233) e))) (n 12 (n 70 (n 107 (m 11) e) (n 145 (m 223) e)) (n 88 (n 127 (m 203) e) (m 11))))))))) fun a=>n a e e
noncomputable def tX6(f:Nat->Nat->H0->Obj)(P:H0):GX:=tW6 (fun k=>.node (f (k/16) (k%16) P)) .nil
noncomputable def hX0(f:Nat->Nat->H0->Obj)(P:H0):Heap:=(fun g:Nat->Obj=>(⟨⟨[g 0,g 1,g 2,g 3,g 4,g 5,g 6,g 7,g 8,g 9,g 10,g 11,g 12,g 13,g 14]⟩,{}⟩:Heap)) fun k=>f (k/16) (k%16) P
noncomputable def hX1(f:Nat->Nat->H0->Obj)(P:H0):Heap:=(fun g:Nat->Obj=>(⟨⟨[g 0,g 1,g 2,g 204,g 4,g 5,g 6,g 7,g 8,g 9,g 10,g 11,g 205,g 13,g 14,g 17,g 18,g 19,g 11,g 12,g 20,g 21,g 11,g 22,g 29,g 24,g 25,g 26,g 30,g 18,g 31,g 11,g 12,g 32,g 33,g 11,g 34,g 35,g 36,g 37,g 11,g 12,g 38,g 11,g 39,g 40,g 41,g 11,g 12,g 42,g 11,g 43,g 44,g 45,g 11,g 12,g 46,g 11,g 47,g 48,g 49,g 11,g 12,g 50,g 11,g 51,g 52,g 53,g 11,g 12,g 54,g 11,g 55,g 56,g 57,g 11,g 12,g 60,g 11,g 61,g 62,g 63,g 11,g 12,g 64,g 11,g 65,g 66,g 67,g 11,g 12,g 68,g 11,g 69,g 70,g 71,g 11,g 12,g 72,g 11,g 73,g 74,g 75,g 11,g 12,g 76,g 11,g 77,g 78,g 79,g 11,g 12,g 80,g 11,g 81,g 82,g 83,g 11,g 12,g 84,g 11,g 85,g 86,g 87,g 11,g 12,g 88,g 11,g 89,g 90,g 91,g 11,g 12,g 92,g 11,g 93,g 94,g 95,g 11,g 12,g 96,g 11,g 97,g 98,g 99,g 11,g 12,g 100,g 11,g 101,g 102,g 103,g 11,g 12,g 104,g 11,g 105,g 106,g 107,g 11,g 12,g 110,g 11,g 111,g 112,g 113,g 11,g 12,g 114,g 11,g 115,g 116,g 117,g 11,g 12,g 118,g 119,g 120,g 11,g 12,g 121,g 11,g 122,g 123,g 124,g 11,g 12,g 125,g 11,g 126,g 127,g 128,g 11,g 12,g 129,g 11,g 130,g 131,g 132,g 11,g 12,g 133,g 11,g 134,g 135,g 136,g 11,g 12,g 137,g 11,g 138,g 139,g 140,g 11,g 12,g 141,g 11,g 142,g 143,g 144,g 11,g 12,g 145,g 146,g 147,g 11,g 12,g 148,g 11,g 149,g 150,g 151,g 11,g 12,g 152,g 11,g 153,g 154,g 155,g 11,g 12,g 158,g 11,g 159,g 160,g 161,g 11,g 12,g 162,g 163,g 164,g 11,g 12,g 165,g 11,g 166,g 167,g 168,g 11,g 12,g 169,g 11,g 170,g 171,g 172,g 11,g 12,g 173,g 11,g 174,g 175,g 176,g 11,g 12,g 177,g 11,g 178,g 179,g 180,g 11,g 12,g 181,g 11,g 182,g 183,g 184,g 11,g 12,g 185,g 11,g 186,g 187,g 188,g 11,g 12,g 189,g 11,g 190,g 191,g 192,g 11,g 12,g 193,g 11,g 194,g 195,g 196,g 11,g 12,g 197,g 11,g 198,g 199,g 200,g 11,g 12,g 201,g 202,g 203,g 11,g 12,g 206,g 11,g 207,g 208,g 209,g 11,g 12,g 210,g 11,g 211,g 212,g 213,g 11,g 12,g 214,g 215,g 216,g 11,g 12,g 217,g 218,g 219,g 11,g 12,g 220,g 221,g 222,g 11,g 12,g 223,g 11,g 224,g 225,g 226,g 11,g 12,g 227,g 228,g 229,g 11,g 12,g 230,g 11,g 231,g 232,g 233,g 11,g 12,g 234,g 235,g 236]⟩,{}⟩:Heap)) fun k=>f (k/16) (k%16) P
theorem laid:(fun(_:GL) (_:GL) (_:Nat->Nat->H0->Obj) (_:List Stmt) (_:List Stmt) (_:List Stmt) (_:List Stmt) (_:List Stmt) (_:List Stmt)=>true) pw2 vw fA sx0 sx1 sx2 sx3 sx4 sx5=true:=by k_qdec
end QQ
namespace PySem.W.Fast
noncomputable def tw3590998565995968739:GL:=tw4061903402435717205
theorem te3590998565995968739:GW=tw3590998565995968739:=Eq.trans (by kernel_rfl:GW=QQ.pw2) te4061903402435717205
noncomputable def tw9807236226714945210:GL:=tw2543460329597916322
theorem te9807236226714945210:QQ.vw=tw9807236226714945210:=te2543460329597916322
noncomputable def tw4575503374530607198:List Stmt:=tw4220349153739756805
theorem te4575503374530607198:QQ.sx0=tw4575503374530607198:=te4220349153739756805
noncomputable def tw10074045917179438991:List Stmt:=tw11397161696757032129
theorem te10074045917179438991:QQ.sx1=tw10074045917179438991:=te11397161696757032129
noncomputable def tw4881364215887690788:List Stmt:=tw10303515436491237874
theorem te4881364215887690788:QQ.sx2=tw4881364215887690788:=te10303515436491237874
noncomputable def tw16628295509918442694:List Stmt:=tw12358083906500975388
theorem te16628295509918442694:QQ.sx3=tw16628295509918442694:=te12358083906500975388
noncomputable def tw8237660981228916496:List Stmt:=tw2861187580803015100
theorem te8237660981228916496:QQ.sx4=tw8237660981228916496:=te2861187580803015100
noncomputable def tw626267902834783991:List Stmt:=tw9932084693255007381
theorem te626267902834783991:QQ.sx5=tw626267902834783991:=te9932084693255007381
noncomputable def tw15015793528006561301:H0->BT:=QQ.tX0 tw16523235828492288951
theorem te15015793528006561301:QQ.tX0 QQ.fA=tw15015793528006561301:=congrArg QQ.tX0 te16523235828492288951
noncomputable def tw15028855384628755232:H0->BT:=QQ.tX1 tw16523235828492288951
theorem te15028855384628755232:QQ.tX1 QQ.fA=tw15028855384628755232:=congrArg QQ.tX1 te16523235828492288951
noncomputable def tw1901096904546513568:H0->BT:=QQ.tX2 tw16523235828492288951
theorem te1901096904546513568:QQ.tX2 QQ.fA=tw1901096904546513568:=congrArg QQ.tX2 te16523235828492288951
noncomputable def tw13542186867525417705:H0->BT:=QQ.tX3 tw16523235828492288951
theorem te13542186867525417705:QQ.tX3 QQ.fA=tw13542186867525417705:=congrArg QQ.tX3 te16523235828492288951
noncomputable def tw13005828890827352205:H0->BT:=QQ.tX4 tw16523235828492288951
theorem te13005828890827352205:QQ.tX4 QQ.fA=tw13005828890827352205:=congrArg QQ.tX4 te16523235828492288951
noncomputable def tw17313409593834708259:H0->BT:=QQ.tX5 tw16523235828492288951
theorem te17313409593834708259:QQ.tX5 QQ.fA=tw17313409593834708259:=congrArg QQ.tX5 te16523235828492288951
noncomputable def tw7215025990763729562:H0->BT:=QQ.tX6 tw16523235828492288951
theorem te7215025990763729562:QQ.tX6 QQ.fA=tw7215025990763729562:=congrArg QQ.tX6 te16523235828492288951
noncomputable def tw15940146285302742359:H0->PySem.Heap:=QQ.hX0 tw16523235828492288951
theorem te15940146285302742359:QQ.hX0 QQ.fA=tw15940146285302742359:=congrArg QQ.hX0 te16523235828492288951
noncomputable def tw2086698351954528369:H0->PySem.Heap:=QQ.hX1 tw16523235828492288951
theorem te2086698351954528369:QQ.hX1 QQ.fA=tw2086698351954528369:=congrArg QQ.hX1 te16523235828492288951
end PySem.W.Fast
open PySem PySem.W PyProof.Rows
set_option maxRecDepth 100000 in
set_option maxHeartbeats 0 in
theorem PySem.Challenge.cw_spotlook_k27_whole_faces_tell_the_lands_holds : PySem.Challenge.rw_spotlook_k27_whole_faces_tell_the_lands.Holds := by
 w_on;o_law;o_head (PySem.W.kHook QQ.kK [↑3,↑45,↑46,↑52,↑53,↑59,↑60,↑66,↑67,↑73,↑74,↑80,↑81,↑87,↑88,↑94,↑95,↑101,↑102,↑108,↑109,↑115,↑116,↑122,↑123,↑129,↑130,↑136,↑137,↑143,↑144,↑150,↑151,↑157,↑158,↑164,↑165,↑171,↑172,↑176,↑177,↑183,↑184,↑190,↑191,↑197,↑198,↑204,↑205,↑211,↑212,↑218,↑219,↑223,↑224,↑230,↑231,↑237,↑238,↑244,↑245,↑249,↑250,↑256,↑257,↑263,↑264,↑270,↑271,↑277,↑278,↑284,↑285,↑291,↑292,↑298,↑299,↑305,↑306,↑312,↑313,↑317,↑318,↑324,↑325,↑331,↑332,↑336,↑337,↑341,↑342,↑346,↑347,↑353,↑354,↑358,↑359,↑365,↑366,↑370,↑371] (fun _=>by kernel_rfl));(case hw=>w_witness2)
 k_fill
 refine SD.vt (k:=11) (x:="_law_script") (sp:=QQ.iL) (l:=PySem.Challenge.rw_spotlook_k27_whole_faces_tell_the_lands) rfl rfl ⟨rfl,by decide,by decide,rfl⟩ (fun w h Y=>PySem.W.kIn_of Y) ?F QQ.BH
 case F=>
  intro w mg fa h KX G hmg
  have T:QQ.Tx (L2.KOf KX) mg:=by
   dsimp only[L2.KOf]
   constructor
   all_goals first
    |(refine' PySem.W.mg_none_of KX G ?a;(case a=>k_is))
    |(refine' SD.Txt.mk KX G ?a ?l ?c ?k;(case a=>k_is);(case l=>k_is);(case c=>k_is);(case k=>k_is))
  exact QQ.Ex T hmg
