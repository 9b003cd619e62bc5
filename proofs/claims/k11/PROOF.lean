import PyProof.Rows.All
import Wide.All
import OpenK.AllK
import Wide.FinOn
import Lean
import PyProof.EqAt
import PyProof.EqKinds
import PyProof.TupleCall
import PySem.Challenge.RW_spotlook_k11_walls_parted
open Array renaming length_toList->Fu,forIn_toList->FV
open Bool renaming false_eq_true->EO,false_ne_true->ET,and_eq_true->FF,not_true->G1
open False renaming elim->FC
open ForInStep renaming yield->GN
open Int renaming sign_eq_neg_one_of_neg->FN,sign_eq_one_of_pos->G3,mul_pos->Gx,ofNat->Hw,neg_mul->Hx
open LawfulMonad renaming pure_bind->FT,bind_assoc->Hb
open List renaming length_map->E6,getElem?_eq_some_iff->EB,toArray->EE,size_toArray->EI,map_cons->EJ,getElem?_eq_getElem->EL,mem_append->EM,getElem?_map->EN,mem_cons_of_mem->EU,mem_of_getElem?->F0,mem_singleton->F1,mem_append_right->F7,length_cons->F8,mem_cons_self->Fb,mem_cons->Fc,map_append->Fg,pairwise_iff_getElem->Fj,range->Fl,find?_cons->Fw,mem_map->FH,length_take->FJ,getElem?_append_right->FK,getD_eq_getElem?_getD->FO,getElem?_append_left->FR,forIn_cons->FW,lookup_cons->FX,forIn_nil->FZ,filterMap_cons->G4,take_succ->G9,length_nil->Gd,length_append->Gh,take_length->Gm,map_nil->Gq,map->Gr,zip_cons_cons->GA,append_nil->GL,getElem_of_mem->GQ,map_map->GR,lookup->GS,replicate->Hu
open Nat renaming le_refl->E9,lt_of_lt_of_le->EK,ne_of_lt->EV,le_trans->Fh,zero_le->Fz,lt_irrefl->G0,le_of_lt->Hh
open PyProof.Rows renaming seqObj->FD,IntsAre->Gb,callWith_type1->Gn
open PySem renaming wpAny_bind->cc,Value->E2,Shared->E3,wpAny_pure->E5,wpAny->E8,model->ED,Program->EF,Params->EG,starEach->EH,sizeLine->ER,wpAny_mono->ES,Around->EX,mainGlobals->EY,World->EZ,mem_of_lookup->F2,compareOp->Fm,bootBuiltins->Fp,wpAny_newObj_type->Fq,wpAny_holding->Fs,wpAny_seqItems->Fx,DictEntry->FA,foldedSetIterable->FG,cLine->FQ,backTo->G6,rawInt->Gg,sizeLine_eq->Gi,cellsFrom->Gj,wpAny_callSpecial?_slot->Gk,Spec->Gp,wpAny_nextOf_list_item->Gu,wpAny_loadPart'->Gv,wpAny_letGo->Gw,Scope->Gz,wpAny_setField_rec->GD,NameKind->GG,wpAny_field->GH,wpAny_typeNameOfWhole_keyiter->GJ,wpAny_pyNext_tuple_item->GK,wpAny_call_entry->GV,wpAny_Call_Name_kw->GY,PyData->GZ,wpAny_tryCatch->Ha,codeAny->Hc,wpAny_passesOwn->Hd,codeAny_builtin->Hf,wpAny_truthy_bool->Hj,binaryOp->Hk,FuncData->Hl,Builtin->Hm,codeAny_call_builtin->Hn,assignEach->Ho,wpAny_standAt->Hq,plainId_quiet->Hr,swapsWith->Ht,sysModules->Hy,setField->Hz,Paired->HA
open PySem.Around renaming under_plainId->GI
open PySem.Builtin.ObjectAttr renaming storeInDict->GC
open PySem.Builtin.SmallTypes renaming nextOf->FE,ownedTupleIsFree->Ga
open PySem.Challenge renaming pw_spotlook_k11_walls_parted->Fe
open PySem.EntryCells renaming newEntry->GP
open PySem.F renaming slot_dict_keyiterator_next->Ge,plain_max_loop->GW,plain_min_loop->GX
open PySem.Heap renaming get?_push_of_some->E4,lt_size->E7,get?_push_size->EC,get?_update_other->EW,get?_update_self->Fy,size_push->G8,SameBut->Hi
open PySem.NameKind renaming free->GU
open PySem.Obj renaming mapSeq->FL
open PySem.PassesOwn renaming never->Fn
open PySem.PyData renaming eqv->Ff,eqvAll->FP,canLayAll0->G5,depthAll->Gy
open PySem.Sem renaming wp_bind'->Fv
open PySem.SeqAt renaming shaped->G2
open PySem.Str renaming ofString->F9
open PySem.Value renaming ref->F6,none->Fi,bool->FY,builtin->GF
open PySem.W renaming Frag->E1,BT->EA,kitOne->F5,subIn->Fd,nsIn->Fo,mg_none_of->Ft,fnOf->FI,keepIn->G7,kla_obj->Gf,hasDictIn->Gs,kia_one->He,excIn->Hs,codeIn->Hv,Looks->HB
open Rat renaming num_divInt_den->FU,intCast_mul->GO,intCast_sub->Hg
open True renaming intro->GB
local macro_rules | `(↑$n:num) => `(nat_lit $n)
set_option Elab.async false
set_option linter.all false
set_option maxRecDepth 100000
set_option maxHeartbeats 4000000
theorem nbL{n m:Nat}(h:Nat.ble n m=true):n<=m:=Nat.le_of_ble_eq_true h
namespace L2
open PySem PySem.Spec PyProof.Rows
abbrev Key:=Sum Int Str
def z4:Key->E2->Bool
 |.inl k,v=>Value.isInt k v
 |.inr x,v=>Value.isStrOf x v
def Em(w:EZ):Key->Int
 |.inl k=>hashInt k
 |.inr x=>hashStr w x
theorem aZ:∀{k:Key} {v:E2},z4 k v=true->(∃i t,k=Sum.inl i/\v=Value.int i t)\/(∃x t,k=Sum.inr x/\v=Value.str x t)
 |.inl i,v,h=>by
  obtain⟨t,e⟩:=Value.isInt_shape (k:=i) (v:=v) h
  exact .inl ⟨i,t,rfl,e⟩
 |.inr x,v,h=>by
  obtain⟨t,e⟩:=Value.isStrOf_shape (x:=x) (v:=v) h
  exact .inr ⟨x,t,rfl,e⟩
theorem Ai(a b:Int):decide ((Sum.inl a:Key)=Sum.inl b)=(a==b):=by
 by_cases e:a=b
 ·subst e;simp
 ·have h:¬(Sum.inl a:Key)=Sum.inl b:=fun q=>e (Sum.inl.inj q);rw[decide_eq_false h];exact(beq_eq_false_iff_ne.mpr e).symm
theorem BO(a b:Str):decide ((Sum.inr a:Key)=Sum.inr b)=decide (a=b):=by
 by_cases e:a=b
 ·subst e;simp
 ·have h:¬(Sum.inr a:Key)=Sum.inr b:=fun q=>e (Sum.inr.inj q);rw[decide_eq_false h,decide_eq_false e]
theorem BV(a:Int)(b:Str):decide ((Sum.inl a:Key)=Sum.inr b)=false:=decide_eq_false (fun q=>nomatch q)
theorem AJ(a:Str)(b:Int):decide ((Sum.inr a:Key)=Sum.inl b)=false:=decide_eq_false (fun q=>nomatch q)
def qT(prog:EF)(w:EZ):PySem.KeyKind prog w Key where
 is:=z4
 hash:=Em w
 inj:=fun v a b ha hb=>by
  rcases aZ ha with⟨i,t,rfl,rfl⟩|⟨x,t,rfl,rfl⟩
  ·rcases aZ hb with⟨j,u,rfl,e⟩|⟨y,u,rfl,e⟩
   ·injection e with e1 _;rw[e1]
   ·exact nomatch e
  ·rcases aZ hb with⟨j,u,rfl,e⟩|⟨y,u,rfl,e⟩
   ·exact nomatch e
   ·injection e with e1 _;rw[e1]
 byValue:=fun k v h=>by
  rcases aZ h with⟨i,t,rfl,rfl⟩|⟨x,t,rfl,rfl⟩<;>rfl
 pyHash:=fun hv h=>by
  rcases aZ hv with⟨i,t,rfl,rfl⟩|⟨x,t,rfl,rfl⟩
  ·exact wpAny_pyHash_int h
  ·exact wpAny_pyHash_str h
 eqBool:=fun hu hv h=>by
  rcases aZ hu with⟨i,t,rfl,rfl⟩|⟨x,t,rfl,rfl⟩
  ·rcases aZ hv with⟨j,u,rfl,rfl⟩|⟨y,u,rfl,rfl⟩
   ·rw[Ai]at h;exact wpAny_eqBool_int h
   ·rw[BV]at h;exact SeqAt.EqAt.int_str i t y u _ _ _ _ h
  ·rcases aZ hv with⟨j,u,rfl,rfl⟩|⟨y,u,rfl,rfl⟩
   ·rw[AJ]at h;exact SeqAt.EqAt.str_int x t j u _ _ _ _ h
   ·rw[BO]at h;exact wpAny_eqBool_str h
 «strs»:=fun k x t v h=>by
  rcases aZ h with⟨i,u,rfl,e⟩|⟨y,u,rfl,e⟩
  ·exact nomatch e
  ·injection e with e1 _
   subst e1
   cases v<;>rfl
inductive V where
 |non|bl (b:Bool)|int (i:Int)|str (x:Str)|byt (b:Array UInt8)|flt (b:UInt64)|ref (a:Addr)|ty (n:String)
 deriving DecidableEq
def RelV:V->E2->Prop
 |.non,u=>u=Fi
 |.bl b,u=>u=FY b
 |.int i,u=>∃t,u=Value.int i t
 |.str x,u=>∃t,u=Value.str x t
 |.byt b,u=>∃t,u=Value.bytes b t
 |.flt b,u=>∃t,u=Value.float b t
 |.ref a,u=>u=F6 a
 |.ty n,u=>u=Value.type n
abbrev Vals:List V->List E2->Prop:=HA RelV
theorem Vals.length{xs:List V}{us:List E2}(r:Vals xs us):xs.length=us.length:=Paired.length r
theorem Vals.get:∀{xs:List V} {us:List E2} {i:Nat} {x:V},Vals xs us->xs[i]?=some x->∃u,us[i]?=some u/\RelV x u
 |_,_,_,_,.nil,e=>by simp at e
 |_,_,0,_,.cons r _,e=>by simp at e;subst e;exact⟨_,rfl,r⟩
 |_,_,i+1,x,.cons _ t,e=>by
  obtain⟨u,h1,h2⟩:=Vals.get (i:=i) (x:=x) t (by simpa using e)
  exact⟨u,by simpa using h1,h2⟩
theorem Vals.set{x:V}{u:E2}(r:RelV x u):∀{xs:List V} {us:List E2} (i:Nat),Vals xs us->Vals (xs.set i x) (us.set i u)
 |_,_,_,.nil=>.nil
 |_,_,0,.cons _ t=>.cons r t
 |_,_,i+1,.cons q t=>.cons q (Vals.set r i t)
theorem Vals.append:∀{xs ys:List V} {us ws:List E2},Vals xs us->Vals ys ws->Vals (xs++ys) (us++ws)
 |_,_,_,_,.nil,s=>s
 |_,_,_,_,.cons r t,s=>.cons r (Vals.append t s)
theorem Vals.take:∀{xs:List V} {us:List E2} (n:Nat),Vals xs us->Vals (xs.take n) (us.take n)
 |_,_,0,_=>.nil
 |_,_,_+1,.nil=>.nil
 |_,_,n+1,.cons r t=>.cons r (Vals.take n t)
theorem Vals.drop:∀{xs:List V} {us:List E2} (n:Nat),Vals xs us->Vals (xs.drop n) (us.drop n)
 |_,_,0,r=>r
 |_,_,_+1,.nil=>.nil
 |_,_,n+1,.cons _ t=>Vals.drop n t
def oo:Option V->Option E2->Prop
 |some v,some u=>RelV v u
 |none,none=>True
 |_,_=>False
def KV{κ:Type}:List (κ×V)->List (κ×E2)->Prop:=HA fun(p:κ×V) (q:κ×E2)=>p.1=q.1/\RelV p.2 q.2
def kV:Key->V
 |.inl i=>.int i
 |.inr x=>.str x
inductive HO where
 |lst (xs:List V)
 |tup (xs:List V)
 |dK (kvs:List (Key×V))|dT (kvs:List (List Key×V))
 |set (S:Int->Bool) (n:Nat)
 |ins (C dx:Addr) (fs:List (Str×V))
 |own (x:Addr)
 |xd (fs:List (Str×V))
 |met (f x:Addr)
 |rng (lo hi:Int)
 |frz (o:Obj) (u:HO)
 |tbl (ps:Array E2)
 |ext (φ:Heap->Prop)
abbrev Hp:=Addr->Option HO
def upd(H:Hp)(a:Addr)(o:HO):Hp:=fun b=>if b=a then some o else H b
theorem ay{H:Hp}{a:Addr}{o:HO}:upd H a o a=some o:=by unfold upd;rw[if_pos rfl]
theorem az{H:Hp}{a b:Addr}{o:HO}(h:b≠a):upd H a o b=H b:=by unfold upd;rw[if_neg h]
theorem xq{H:Hp}{a:Addr}{o u:HO}:upd (upd H a o) a u=upd H a u:=by funext b;unfold upd;split<;>rfl
theorem df{H:Hp}{a b:Addr}{o:HO}(h:H a=some o)(h':H b=none):a≠b:=by intro e;subst e;rw[h]at h';cases h'
section
variable(P:EF)(w:EZ)
def bB(H:Hp)(h:Heap)(a:Addr):HO->Prop
 |.lst xs=>xs.length<=ER/\∃(its:List E2) (n:Nat),Vals xs its/\h.get? a=some { cls:=.type "list",data:=.seq its.toArray n }
 |.tup xs=>xs.length<=ER/\∃its:List E2,Vals xs its/\IsTup h a its.toArray
 |.dK kvs=>kvs.length<=ER/\(a==Hy)=false/\∃vs,KV kvs vs/\h.DictOf (qT P w) a vs
 |.dT kvs=>kvs.length<=ER/\(a==Hy)=false/\∃xs:List (List Key×Addr×E2),
  HA (fun(p:List Key×V) (q:List Key×Addr×E2)=>p.1=q.1/\H q.2.1=some (.tup (p.1.map kV))/\RelV p.2 q.2.2) kvs xs/\
  ∃o es ep,h.get? a=some o/\o.ExactDict/\o.data=.dict es ep/\es.toList=xs.map (entryOfKey (tupleKind (qT P w)))/\(xs.map (·.1)).Nodup
 |.set S n=>h.SetOf (intKind P w) a S n
 |.ins C dx fs=>H dx=some (.own a)/\fs.length<=1000/\dx≠a/\h.get? a=some (PySem.W.instObj C dx)/\
  ∃mA,h.Ns1 dx mA/\(∀f,oo (fs.lookup f) (mA f))/\PySem.Within mA (fs.map (·.1))
 |.own _=>∃o,h.get? a=some o
 |.xd fs=>∃mA,h.Ns1 a mA/\∀f,oo (fs.lookup f) (mA f)
 |.rng lo hi=>∃t u v,h.get? a=some { cls:=.type "range",data:=.fields #[.int lo t,.int hi u,.int 1 v] }
 |.frz o u=>h.get? a=some o/\bB H h a u
 |.tbl ps=>h.get? a=some { cls:=.none,data:=.fields ps }
 |.met f x=>h.get? a=some (PySem.W.methodObj (.ref f) (.ref x))
 |.ext φ=>φ h/\(∃o,h.get? a=some o)/\∀h1 h2:Heap,φ h1->(∀o,h1.get? a=some o->h2.get? a=some o)->φ h2
def HOk(H:Hp)(h:Heap):Prop:=∀a o,H a=some o->bB P w H h a o
end
section
variable{P:EF}{w:EZ}{H H':Hp}{h h':Heap}{a:Addr}{o:HO}
theorem bB.lt(x:bB P w H h a o):a<h.objs.size:=by
 cases o with
 |lst xs=>obtain⟨_,_,_,_,e⟩:=x;exact E7 e
 |tup xs=>obtain⟨_,_,_,p⟩:=x;exact p.lt
 |dK kvs=>obtain⟨_,_,_,_,o,_,_,e,_⟩:=x;exact E7 e
 |dT kvs=>obtain⟨_,_,_,_,o,_,_,e,_⟩:=x;exact E7 e
 |set S n=>obtain⟨o,_,_,_,e,_⟩:=x;exact E7 e
 |ins C dx fs=>obtain⟨_,_,_,e,_⟩:=x;exact E7 e
 |own y=>obtain⟨_,e⟩:=x;exact E7 e
 |xd fs=>obtain⟨_,⟨_,_,_,e,_⟩,_⟩:=x;exact E7 e
 |rng lo hi=>obtain⟨_,_,_,e⟩:=x;exact E7 e
 |frz ob u=>obtain⟨e,_⟩:=x;exact E7 e
 |tbl ps=>exact E7 (show h.get? a=some _ from x)
 |met f y=>exact E7 (show h.get? a=some _ from x)
 |ext φ=>obtain⟨_,⟨_,e⟩,_⟩:=x;exact E7 e
theorem Paired.Ci{α β:Type}{F G:α->β->Prop}:∀{l₁:List α} {l₂:List β},HA F l₁ l₂->(∀a b,F a b->G a b)->HA G l₁ l₂
 |_,_,.nil,_=>.nil
 |_,_,.cons r t,f=>.cons (f _ _ r) (Paired.Ci t f)
theorem bB.dq(x:bB P w H h a o)(k:∀b u,(b=a\/H b=some (.own a))->h.get? b=some u->h'.get? b=some u) (ho:∀b,H b=some (.own a)->H' b=some (.own a)) (ht:∀b xs,H b=some (.tup xs)->H' b=some (.tup xs)):bB P w H' h' a o:=by
 induction o with
 |lst xs=>obtain⟨z,its,n,r,e⟩:=x;exact⟨z,its,n,r,k _ _ (.inl rfl) e⟩
 |tup xs=>obtain⟨z,its,r,ob,e,c⟩:=x;exact⟨z,its,r,ob,k _ _ (.inl rfl) e,c⟩
 |dK kvs=>obtain⟨z,y,vs,r,ob,es,ep,e,c⟩:=x;exact⟨z,y,vs,r,ob,es,ep,k _ _ (.inl rfl) e,c⟩
 |dT kvs=>
  obtain⟨z,y,xs,r,ob,es,ep,e,c⟩:=x
  exact⟨z,y,xs,Paired.Ci r fun p q z=>⟨z.1,ht _ _ z.2.1,z.2.2⟩,ob,es,ep,k _ _ (.inl rfl) e,c⟩
 |set S n=>obtain⟨ob,es,ep,t,e,c⟩:=x;exact⟨ob,es,ep,t,k _ _ (.inl rfl) e,c⟩
 |ins C dx fs=>
  obtain⟨d,z,ne,e,mA,⟨od,es,ep,e2,c⟩,r⟩:=x
  exact⟨ho _ d,z,ne,k _ _ (.inl rfl) e,mA,⟨od,es,ep,k _ _ (.inr d) e2,c⟩,r⟩
 |own y=>obtain⟨ob,e⟩:=x;exact⟨ob,k _ _ (.inl rfl) e⟩
 |xd fs=>obtain⟨mA,⟨od,es,ep,e,c⟩,r⟩:=x;exact⟨mA,⟨od,es,ep,k _ _ (.inl rfl) e,c⟩,r⟩
 |rng lo hi=>obtain⟨t,u,v,e⟩:=x;exact⟨t,u,v,k _ _ (.inl rfl) e⟩
 |frz ob u ih=>obtain⟨e,q⟩:=x;exact⟨k _ _ (.inl rfl) e,ih q⟩
 |tbl ps=>
  have e:h.get? a=some { cls:=.none,data:=.fields ps }:=x
  show h'.get? a=some { cls:=.none,data:=.fields ps }
  exact k a _ (.inl rfl) e
 |met f y=>
  have e:h.get? a=some (PySem.W.methodObj (.ref f) (.ref y)):=x
  show h'.get? a=some (PySem.W.methodObj (.ref f) (.ref y))
  exact k a _ (.inl rfl) e
 |ext φ=>obtain⟨p,⟨o,e⟩,st⟩:=x;exact⟨st _ _ p fun o q=>k _ _ (.inl rfl) q,⟨o,k _ _ (.inl rfl) e⟩,st⟩
theorem HOk.lt(x:HOk P w H h)(e:H a=some o):a<h.objs.size:=(x a o e).lt
theorem HOk.fresh(x:HOk P w H h)(e:h.objs.size<=a):H a=none:=by
 cases q:H a with
 |none=>rfl
 |some u=>exact absurd (EK (x.lt q) e) (G0 _)
theorem HOk.kept(x:HOk P w H h)(k:∀b u,h.get? b=some u->h'.get? b=some u):HOk P w H h':=fun a o e=>(x a o e).dq (fun b u _ q=>k b u q) (fun _ q=>q) fun _ _ q=>q
theorem HOk.laid(x:HOk P w H h)(k:∀b u,h.get? b=some u->h'.get? b=some u)(hp:h.objs.size<=a)(new:bB P w (upd H a o) h' a o):HOk P w (upd H a o) h':=fun b u e=>by
 have hn:=x.fresh hp;by_cases hb:b=a
 ·subst hb;rw[ay]at e;cases e;exact new
 ·rw[az hb]at e;exact(x b u e).dq (fun c v _ q=>k c v q) (fun c q=>by rw[az (df q hn)];exact q) fun c xs q=>by rw[az (df q hn)];exact q
end
def Rd(H:Hp)(a:Addr)(u:HO):Prop:=H a=some u\/∃o,H a=some (.frz o u)
theorem Rd.ok{P:EF}{w:EZ}{H:Hp}{h:Heap}{a:Addr}{u:HO}(r:Rd H a u)(x:HOk P w H h):bB P w H h a u:=by
 rcases r with r|⟨o,r⟩
 ·exact x a u r
 ·obtain⟨_,q⟩:=x a _ r;exact q
def Mut:Option HO->Prop
 |some (.lst _)=>True
 |some (.dK _)=>True
 |some (.dT _)=>True
 |some (.set _ _)=>True
 |some (.ins _ _ _)=>True
 |some (.ext _)=>True
 |_=>False
section
variable{P:EF}{w:EZ}{H:Hp}{h h':Heap}{x e:Addr}{o':HO}
theorem HOk.write(ok:HOk P w H h)(mu:Mut (H x))(he:e=x\/H e=some (.own x))(k:∀b u,b≠e->h.get? b=some u->h'.get? b=some u)(heo:∃u,h'.get? e=some u)
 (new:bB P w (upd H x o') h' x o'):HOk P w (upd H x o') h':=fun b u q=>by
 have nown:∀c y,H c=some (.own y)->c≠x:=fun c y r z=>by subst z;rw[r]at mu;exact mu
 have ntup:∀c xs,H c=some (.tup xs)->c≠x:=fun c xs r z=>by subst z;rw[r]at mu;exact mu
 by_cases hb:b=x
 ·subst hb;rw[ay]at q;cases q;exact new
 ·rw[az hb]at q
  by_cases hbe:b=e
  ·have q':H b=some (.own x):=by
    rcases he with z|z
    ·exact absurd (hbe.trans z) hb
    ·rw[hbe];exact z
   rw[q]at q';cases q'
   obtain⟨v,hv⟩:=heo
   exact⟨v,by rw[hbe];exact hv⟩
  ·refine(ok b u q).dq (fun c v hc r=>k c v ?_ r) (fun c r=>by rw[az (nown c b r)];exact r) fun c xs r=>by rw[az (ntup c xs r)];exact r
   rcases hc with rfl|hc
   ·exact hbe
   ·rintro rfl
    rcases he with z|z
    ·exact nown c b hc z
    ·rw[hc]at z;cases z;exact hb rfl
end
structure Un(fs ex:List Addr)(H H':Hp)(h h':Heap):Prop where
 keep:∀b o,h.get? b=some o->H b=none->b∉fs->b∉ex->h'.get? b=some o
 slot:∀b o,h.get? b=some o->H b=none->b∈fs->b∉ex->∃sl,h'.get? b=some { o with slots:=sl }
 free:∀b o,h.get? b=some o->H b=none->b∉ex->H' b=none
 there:∀b o,h.get? b=some o->b∉ex->∃o',h'.get? b=some o'
 tups:∀b xs,H b=some (.tup xs)->H' b=some (.tup xs)
 frzs:∀b o u,H b=some (.frz o u)->H' b=some (.frz o u)
 tbls:∀b ps,H b=some (.tbl ps)->∃more,H' b=some (.tbl (ps++more))
section
variable{fs fs' ex ex':List Addr}{H H1 H2:Hp}{h h1 h2 h':Heap}{a x e:Addr}{o:HO}
theorem Un.any(u:Un fs ex H H1 h h1){b:Addr}{ob:Obj}(q:h.get? b=some ob)(n:H b=none)(hx:b∉ex):∃sl,h1.get? b=some { ob with slots:=sl }:=by
 by_cases hb:b∈fs
 ·exact u.slot b ob q n hb hx
 ·exact⟨ob.slots,u.keep b ob q n hb hx⟩
theorem Un.kept(k:∀b u,h.get? b=some u->h'.get? b=some u):Un fs ex H H h h':=⟨fun b ob q _ _ _=>k b ob q,fun b ob q _ _ _=>⟨ob.slots,k b ob q⟩,fun _ _ _ n _=>n,fun b ob q _=>⟨ob,k b ob q⟩,fun _ _ q=>q,fun _ _ _ q=>q,fun _ ps q=>⟨#[],by rw[q];simp⟩⟩
theorem Un.refl:Un fs ex H H h h:=Un.kept fun _ _ q=>q
theorem Un.laid(k:∀b u,h.get? b=some u->h'.get? b=some u)(hp:h.objs.size<=a)(hn:H a=none):Un fs ex H (upd H a o) h h' where
 keep:=fun b u q _ _ _=>k b u q
 slot:=fun b u q _ _ _=>⟨u.slots,k b u q⟩
 free:=fun b u q n _=>by rw[az (EV (EK (E7 q) hp))];exact n
 there:=fun b u q _=>⟨u,k b u q⟩
 tups:=fun b xs q=>by rw[az (df q hn)];exact q
 frzs:=fun b u xs q=>by rw[az (df q hn)];exact q
 tbls:=fun b ps q=>⟨#[],by rw[az (df q hn),q];simp⟩
theorem Un.write(mu:Mut (H x))(he:e=x\/H e=some (.own x))(k:∀b u,b≠e->h.get? b=some u->h'.get? b=some u)(heo:∃u,h'.get? e=some u):Un fs ex H (upd H x o) h h':=by
 have hx:∀b,H b=none->b≠x:=fun b n z=>by subst z;rw[n]at mu;exact mu
 have hb:∀b,H b=none->b≠e:=fun b n z=>by
  subst z;rcases he with r|r
  ·exact hx b n r
  ·rw[n]at r;cases r
 have hm:∀b u,H b=some u->¬Mut (some u)->b≠x:=fun b u q nm z=>by subst z;rw[q]at mu;exact nm mu
 refine⟨fun b u q n _ _=>k b u (hb b n) q,fun b u q n _ _=>⟨u.slots,k b u (hb b n) q⟩,fun b u q n _=>by rw[az (hx b n)];exact n,fun b u q _=>?_,fun b xs q=>by rw[az (hm b _ q fun z=>z)];exact q,fun b u xs q=>by rw[az (hm b _ q fun z=>z)];exact q,fun b ps q=>⟨#[],by rw[az (hm b _ q fun z=>z),q];simp⟩⟩;by_cases hbe:b=e
 ·subst hbe;exact heo
 ·exact⟨u,k b u hbe q⟩
end
def trk(h:Heap)(H:Hp):List Addr:=(Fl h.objs.size).filter fun a=>(H a).isSome
def g9(h:Heap)(H:Hp):Heap:=PySem.W.hideAll h (trk h H)
theorem lr(h:Heap)(H:Hp):(g9 h H).objs.size=h.objs.size:=PySem.W.hideAll_size _ _
theorem gL{h:Heap}{H:Hp}{b:Addr}{o:Obj}(e:h.get? b=some o)(n:H b=none):(g9 h H).get? b=some o:=
 PySem.W.hideAll_get _ e fun hm=>by
  have q:(H b).isSome=true:=(List.mem_filter.mp hm).2
  rw[n]at q;simp at q
theorem mW{h:Heap}{H:Hp}{b:Addr}{o:Obj}(e:(g9 h H).get? b=some o):h.get? b=some o/\H b=none:=by
 have e':h.get? b=some o:=PySem.W.of_hideAll (trk h H) e;refine⟨e',?_⟩;cases q:H b with
 |none=>rfl
 |some x=>
  have hm:b∈trk h H:=List.mem_filter.mpr ⟨List.mem_range.mpr (E7 e'),by simp[q]⟩
  have z:(g9 h H).get? b=none:=PySem.W.hideAll_none (trk h H) hm
  rw[z]at e;cases e
structure Mod(K:E1)(mg:Str->Option E2)(base:Heap):Prop where
 kin:K.In base
 glob:base.Ns EY mg
 blt:∃mb,base.Ns builtinsNs mb/\∀x:Str,x≠"__name__"->mb x=Fp x
 nolimit:base.NoLimit
structure Cx where
 prog:EF
 w:EZ
 K:E1
 mg:Str->Option E2
 base:Heap
 A:EX
 N:List Str
 s₀:E3
 H₀:Hp
 env:Env
 outer:List Env
 stack:List Env
 ex:List Addr
 fn:Str->Bool
 calm:Bool
 pn:List (Addr×Obj)
 xe:E2->E3->Prop
def frs(l:List Env):List Addr:=l.filterMap (·.frame)
abbrev Cx.fs(X:Cx):List Addr:=frs X.outer
def Vis(sc:Gz)(x:Str):Prop:=sc.names.lookup x=some .local\/sc.names.lookup x=some .cell\/sc.names.lookup x=some .free
def Loc(sc:Gz)(x:Str):Prop:=sc.names.lookup x=some .local\/sc.names.lookup x=some .cell
def Look(env:Env)(h:Heap)(m:Str->Option E2)(x:Str)(u:E2):Prop:=
 (env.kindOf x=some .local/\m x=some u)\/((env.kindOf x=some .cell\/env.kindOf x=some .free)/\∃c,env.cells.lookup x=some c/\h.IsCell c (some u))
structure Cx.Ok(X:Cx):Prop where
 mod:Mod X.K X.mg X.base
 kind:X.env.scope.kind=.function
 glob:X.env.globals=EY
 blt:X.env.builtins=builtinsNs
 above:X.s₀.heap.objs.size<=X.env.locals
 inj:∀x y c,X.env.cells.lookup x=some c->X.env.cells.lookup y=some c->x=y
 has:∀x,(X.env.kindOf x=some .cell\/X.env.kindOf x=some .free)->∃c,X.env.cells.lookup x=some c
 cab:∀x c,X.fn x=true->X.env.cells.lookup x=some c->X.s₀.heap.objs.size<=c
 hd:X.calm=true->X.A.handled=none
 frames:X.A.frames=some X.stack
 stk:X.stack=X.outer\/(X.stack=X.env::X.outer/\X.env.frame=some X.env.locals)
 exf:∀b∈X.ex,b≠X.env.locals/\∀x c,X.env.cells.lookup x=some c->c≠b
 bs:∀b o,X.base.get? b=some o->X.s₀.heap.get? b=some o/\X.H₀ b=none
 bsz:X.base.objs.size<=X.s₀.heap.objs.size
 noex:∀b o,X.base.get? b=some o->b∉X.ex
 exfs:∀b∈X.ex,b∉X.fs
 eL:X.s₀.heap.FunFrames X.base X.outer
 frf:∀b∈X.fs,X.H₀ b=none
structure Inv(X:Cx)(pins:List (Addr×Obj))(σ:List (Option V))(H:Hp)(s:E3):Prop where
 ok:X.Ok
 os:s.os=X.s₀.os
 bare:AllBare s.gens
 base:Un X.fs X.ex X.H₀ H X.s₀.heap s.heap
 loc:∃m,s.heap.Ns X.env.locals m/\∀(i:Nat) (x:Str) (v:V),X.N[i]?=some x->σ[i]?=some (some v)->Vis X.env.scope x->∃u,RelV v u/\Look X.env s.heap m x u
 cell:∀x c,X.env.cells.lookup x=some c->∃v,s.heap.IsCell c v
 free:H X.env.locals=none
 freeC:∀x c,X.env.cells.lookup x=some c->H c=none
 pin:∀p∈X.pn++pins,s.heap.get? p.1=some p.2/\H p.1=none/\p.1≠X.env.locals/\p.1∉X.fs/\∀v,p.2.data≠.cell v
 hok:HOk X.prog X.w H s.heap
 len:σ.length=X.N.length
section
variable{X:Cx}{pins:List (Addr×Obj)}{σ:List (Option V)}{H H':Hp}{s:E3}{h':Heap}
theorem Cx.Ok.DR(ok:X.Ok){b:Addr}{o:Obj}(e:X.base.get? b=some o):b∉X.fs:=fun hb=>by have:=(ok.eL.mem hb).1;rw[e]at this;cases this
theorem Inv.bs(I:Inv X pins σ H s):∀b o,X.base.get? b=some o->s.heap.get? b=some o/\H b=none:=fun b o e=>⟨I.base.keep b o (I.ok.bs b o e).1 (I.ok.bs b o e).2 (I.ok.DR e) (I.ok.noex b o e),I.base.free b o (I.ok.bs b o e).1 (I.ok.bs b o e).2 (I.ok.noex b o e)⟩
theorem Inv.bk(I:Inv X pins σ H s):∀b o,X.base.get? b=some o->s.heap.get? b=some o:=fun b o e=>(I.bs b o e).1
theorem Inv.mod(I:Inv X pins σ H s):Mod X.K X.mg X.base:=I.ok.mod
theorem Inv.kIn(I:Inv X pins σ H s):X.K.In s.heap:=I.ok.mod.kin.keeps I.bk
theorem Inv.lt(I:Inv X pins σ H s):X.env.locals<s.heap.objs.size:=let⟨_,hn,_⟩:=I.loc;hn.lt
theorem Inv.sz(I:Inv X pins σ H s):X.s₀.heap.objs.size<=s.heap.objs.size:=Fh I.ok.above (Hh I.lt)
theorem Inv.D8(I:Inv X pins σ H s){a:Addr}(h:s.heap.objs.size<=a):a∉X.fs:=fun hb=>by obtain⟨_,o,ho,_⟩:=I.ok.eL.mem hb;exact absurd (EK (E7 ho) (Fh I.sz h)) (G0 _)
theorem Inv.cne(I:Inv X pins σ H s):∀x c,X.env.cells.lookup x=some c->c≠X.env.locals:=fun x c e z=>by obtain⟨v,o,ho,hd⟩:=I.cell x c e;obtain⟨m,⟨o',es,ep,ho',hd',_⟩,_⟩:=I.loc;rw[z,ho']at ho;cases ho;rw[hd']at hd;cases hd
theorem Inv.eL(I:Inv X pins σ H s):s.heap.FunFrames X.base X.outer:=by
 have all:∀(l:List Env),(∀b∈frs l,b∈X.fs)->X.s₀.heap.FunFrames X.base l->s.heap.FunFrames X.base l:=by
  intro l
  induction l with
  |nil=>intro _ _;trivial
  |cons env r ih=>
   intro hs hl
   obtain⟨hk,⟨L,o,hf,hn,ho,hd⟩,hr⟩:=hl
   have hL:L∈X.fs:=hs L (by unfold frs;rw[G4,hf];exact Fb)
   obtain⟨sl,e⟩:=I.base.slot L o ho (I.ok.frf L hL) hL fun z=>I.ok.exfs L z hL
   exact⟨hk,⟨L,_,hf,hn,e,hd⟩,ih (fun b hb=>hs b (by unfold frs;rw[G4,hf];exact EU _ hb)) hr⟩
 exact all X.outer (fun _ hb=>hb) I.ok.eL
theorem Inv.stack(I:Inv X pins σ H s):s.heap.FunFrames X.base X.stack:=by
 rcases I.ok.stk with e|⟨e,hf⟩
 ·rw[e];exact I.eL
 ·rw[e];obtain⟨m,hn,_⟩:=I.loc;refine .cons (by rw[I.ok.kind];decide) hf hn ?_ I.eL;exact Heap.get?_none_of_le (Fh I.ok.bsz I.ok.above)
theorem Inv.lM(I:Inv X pins σ H s):∀b∈frs X.stack,b∈X.env.locals::X.fs:=fun b hb=>by
 rcases I.ok.stk with e|⟨e,hf⟩
 ·rw[e]at hb;exact EU _ hb
 ·rw[e]at hb;unfold frs at hb;rw[G4,hf]at hb;exact hb
theorem Inv.fH(I:Inv X pins σ H s):∀b∈frs X.stack,H b=none:=fun b hb=>by
 rcases Fc.mp (I.lM b hb)with e|hb
 ·rw[e];exact I.free
 ·obtain⟨_,o,ho,_⟩:=I.ok.eL.mem hb;exact I.base.free b o ho (I.ok.frf b hb) fun z=>I.ok.exfs b z hb
theorem Inv.step{g':Array GenState}{t':Nat}{d':Drawn}{ch:List Addr}(I:Inv X pins σ H s)
 (hch:∀b∈ch,(b∈X.ex\/X.s₀.heap.objs.size<=b)/\b≠X.env.locals/\(∀x c,X.env.cells.lookup x=some c->c≠b)/\∀p∈X.pn++pins,p.1≠b)
 (keep:∀b o,b≠X.env.locals->b∉X.fs->b∉ch->s.heap.get? b=some o->H b=none->h'.get? b=some o)
 (slot:∀b o,b≠X.env.locals->b∈X.fs->b∉ch->s.heap.get? b=some o->H b=none->∃sl,h'.get? b=some { o with slots:=sl }) (free:∀b o,b∉ch->s.heap.get? b=some o->H b=none->H' b=none)
 (there:∀b o,b∉ch->s.heap.get? b=some o->∃o',h'.get? b=some o')
 (tups:∀b xs,H b=some (.tup xs)->H' b=some (.tup xs)) (frzs:∀b o u,H b=some (.frz o u)->H' b=some (.frz o u)) (tbls:∀b ps,H b=some (.tbl ps)->∃more,H' b=some (.tbl (ps++more)))
 (ns:∀m,s.heap.Ns X.env.locals m->h'.Ns X.env.locals m) (hok:HOk X.prog X.w H' h') (hg:AllBare g') :
 Inv X pins σ H' { s with heap:=h',gens:=g',drawn:=d',toks:=t' }:=by
 have neL:∀b o,X.s₀.heap.get? b=some o->b≠X.env.locals:=fun b o e=>EV (EK (E7 e) I.ok.above)
 have neC:∀b o,X.s₀.heap.get? b=some o->b∉X.ex->b∉ch:=fun b o e hx hb=>by
  rcases(hch b hb).1 with z|z
  ·exact hx z
  ·exact absurd (EK (E7 e) z) (G0 _)
 have cellK:∀x c,X.env.cells.lookup x=some c->∀v,s.heap.IsCell c v->h'.IsCell c v:=fun x c e v zz1_0=>by
  obtain⟨o,ho,hd⟩:=zz1_0
  have nch:c∉ch:=fun z=>(hch c z).2.2.1 x c e rfl
  by_cases hc:c∈X.fs
  ·obtain⟨sl,q⟩:=slot c o (I.cne x c e) hc nch ho (I.freeC x c e)
   exact⟨_,q,hd⟩
  ·exact⟨o,keep c o (I.cne x c e) hc nch ho (I.freeC x c e),hd⟩
 refine⟨I.ok,I.os,hg,⟨fun b o e n hb hx=>?_,fun b o e n hb hx=>?_,fun b o e n hx=>?_,fun b o e hx=>?_,fun b xs e=>tups b xs (I.base.tups b xs e),fun b o xs e=>frzs b o xs (I.base.frzs b o xs e),fun b ps e=>?_⟩,?_,fun x c e=>?_,?_,fun x c e=>?_,fun p hp=>?_,hok,I.len⟩
 ·exact keep b o (neL b o e) hb (neC b o e hx) (I.base.keep b o e n hb hx) (I.base.free b o e n hx)
 ·obtain⟨sl,e1⟩:=I.base.slot b o e n hb hx
  obtain⟨sl',e2⟩:=slot b _ (neL b o e) hb (neC b o e hx) e1 (I.base.free b o e n hx)
  exact⟨sl',e2⟩
 ·obtain⟨o',e1⟩:=I.base.there b o e hx
  exact free b o' (neC b o e hx) e1 (I.base.free b o e n hx)
 ·obtain⟨o',e1⟩:=I.base.there b o e hx
  exact there b o' (neC b o e hx) e1
 ·obtain⟨m1,e1⟩:=I.base.tbls b ps e
  obtain⟨m2,e2⟩:=tbls b _ e1
  exact⟨m1++m2,by rw[e2,Array.append_assoc]⟩
 ·obtain⟨m,hn,hl⟩:=I.loc
  refine⟨m,ns m hn,fun i x v e1 e2 e3=>?_⟩
  obtain⟨u,r,l⟩:=hl i x v e1 e2 e3
  refine⟨u,r,?_⟩
  rcases l with l|⟨k,c,e,z⟩
  ·exact .inl l
  ·exact .inr ⟨k,c,e,cellK x c e _ z⟩
 ·obtain⟨v,z⟩:=I.cell x c e
  exact⟨v,cellK x c e v z⟩
 ·obtain⟨m,⟨o,_,_,ho,_⟩,_⟩:=I.loc
  exact free _ o (fun z=>(hch _ z).2.1 rfl) ho I.free
 ·obtain⟨v,o,ho,hd⟩:=I.cell x c e
  exact free c o (fun z=>(hch c z).2.2.1 x c e rfl) ho (I.freeC x c e)
 ·obtain⟨e,n,ne,nf,d⟩:=I.pin p hp
  have nch:p.1∉ch:=fun z=>(hch p.1 z).2.2.2 p hp rfl
  exact⟨keep p.1 p.2 ne nf nch e n,free p.1 p.2 nch e n,ne,nf,d⟩
theorem Inv.un{t':Nat}(I:Inv X pins σ H s)(u:Un X.fs [] H H' s.heap h')(hok:HOk X.prog X.w H' h'):Inv X pins σ H' { s with heap:=h',toks:=t' }:=by
 obtain⟨m,⟨o,es,ep,ho,r⟩,_⟩:=id I.loc;obtain⟨sl,hL⟩:=u.any ho I.free (by simp)
 exact I.step (g':=s.gens) (d':=s.drawn) (ch:=[]) (fun _ z=>nomatch z) (fun b o _ hb _ e n=>u.keep b o e n hb (by simp)) (fun b o _ hb _ e n=>u.slot b o e n hb (by simp)) (fun b o _ e n=>u.free b o e n (by simp)) (fun b o _ e=>u.there b o e (by simp)) u.tups u.frzs u.tbls (fun m' hm=>by
  obtain⟨o',es',ep',ho',r'⟩:=hm
  rw[ho]at ho';cases ho'
  exact⟨_,es',ep',hL,r'⟩) hok I.bare
theorem Inv.call{g':Array GenState}{t':Nat}{d':Drawn}{ch:List Addr}(I:Inv X pins σ H s)(u:Un (frs X.stack) ch H H' s.heap h')(hok:HOk X.prog X.w H' h')(hg:AllBare g') (hch:∀b∈ch,(b∈X.ex\/X.s₀.heap.objs.size<=b)/\b≠X.env.locals/\(∀x c,X.env.cells.lookup x=some c->c≠b)/\∀p∈X.pn++pins,p.1≠b) : Inv X pins σ H' { s with heap:=h',gens:=g',drawn:=d',toks:=t' }:=by
 obtain⟨m,⟨o,es,ep,ho,r⟩,_⟩:=id I.loc;obtain⟨sl,hL⟩:=u.any ho I.free fun z=>(hch _ z).2.1 rfl
 exact I.step (ch:=ch) hch (fun b o hL hb hc e n=>u.keep b o e n (fun z=>(Fc.mp (I.lM b z)).elim hL hb) hc) (fun b o _ _ hc e n=>u.any e n hc) (fun b o hc e n=>u.free b o e n hc) (fun b o hc e=>u.there b o e hc) u.tups u.frzs u.tbls (fun m' hm=>by
  obtain⟨o',es',ep',ho',r'⟩:=hm
  rw[ho]at ho';cases ho'
  exact⟨_,es',ep',hL,r'⟩) hok hg
theorem Inv.turned{t':Nat}{it:Addr}(I:Inv X pins σ H s)(k:∀b o,b≠it->s.heap.get? b=some o->h'.get? b=some o)(hn:H it=none)(hL:it≠X.env.locals)
 (h1:it∈X.ex\/X.s₀.heap.objs.size<=it) (h2:∀x c,X.env.cells.lookup x=some c->c≠it) (h3:∀p∈X.pn++pins,p.1≠it):Inv X pins σ H { s with heap:=h',toks:=t' }:=by
 have nit:∀b u,H b=some u->b≠it:=fun b u e z=>by rw[z,hn]at e;cases e
 refine I.step (g':=s.gens) (d':=s.drawn) (ch:=[it]) (fun b hb=>?_) (fun b o _ _ hc e _=>k b o (fun z=>hc (by simp[z])) e) (fun b o _ _ hc e _=>⟨o.slots,k b o (fun z=>hc (by simp[z])) e⟩) (fun _ _ _ _ n=>n)
  (fun b o hc e=>⟨o,k b o (fun z=>hc (by simp[z])) e⟩) (fun _ _ e=>e) (fun _ _ _ e=>e) (fun b ps e=>⟨#[],by rw[e];simp⟩) (fun m hm=>?_) (fun b u e=>?_) I.bare
 ·have e:b=it:=by simpa using hb
  subst e
  exact⟨h1,hL,h2,h3⟩
 ·obtain⟨o,es,ep,ho,r⟩:=hm
  exact⟨o,es,ep,k _ o (Ne.symm hL) ho,r⟩
 ·refine(I.hok b u e).dq (fun c v hc q=>k c v ?_ q) (fun _ q=>q) fun _ _ q=>q
  rcases hc with z|z
  ·rw[z];exact nit b u e
  ·exact nit c _ z
theorem Inv.tok(I:Inv X pins σ H s)(t:Nat):Inv X pins σ H { s with toks:=t }:=I.un (h':=s.heap) (t':=t) Un.refl I.hok
theorem Inv.kept{t':Nat}(I:Inv X pins σ H s)(k:∀b u,s.heap.get? b=some u->h'.get? b=some u):Inv X pins σ H { s with heap:=h',toks:=t' }:=I.un (Un.kept k) (I.hok.kept k)
theorem Inv.laid{a:Addr}{o:HO}{t':Nat}(I:Inv X pins σ H s)(k:∀b u,s.heap.get? b=some u->h'.get? b=some u)(hp:s.heap.objs.size<=a)(new:bB X.prog X.w (upd H a o) h' a o) : Inv X pins σ (upd H a o) { s with heap:=h',toks:=t' }:=I.un (Un.laid k hp (I.hok.fresh hp)) (I.hok.laid k hp new)
theorem Inv.write{x e:Addr}{o:HO}{t':Nat}(I:Inv X pins σ H s)(mu:Mut (H x))(he:e=x\/H e=some (.own x))(k:∀b u,b≠e->s.heap.get? b=some u->h'.get? b=some u)(heo:∃u,h'.get? e=some u) (new:bB X.prog X.w (upd H x o) h' x o):Inv X pins σ (upd H x o) { s with heap:=h',toks:=t' }:=I.un (Un.write mu he k heo) (I.hok.write mu he k heo new)
theorem Inv.rM{pins':List (Addr×Obj)}(I:Inv X pins σ H s)(h:∀p∈pins',s.heap.get? p.1=some p.2/\H p.1=none/\p.1≠X.env.locals/\p.1∉X.fs/\∀v,p.2.data≠.cell v):Inv X pins' σ H s:=⟨I.ok,I.os,I.bare,I.base,I.loc,I.cell,I.free,I.freeC,fun p hp=>(EM.mp hp).elim (fun z=>I.pin p (List.mem_append_left _ z)) (h p),I.hok,I.len⟩
theorem jj{N:List Str}(hN:N.Nodup){i j:Nat}{x:Str}(a:N[i]?=some x)(b:N[j]?=some x):i=j:=by obtain⟨h1,e1⟩:=EB.mp a;obtain⟨h2,e2⟩:=EB.mp b;exact(List.getElem_inj hN).mp (e1.trans e2.symm)
theorem lD{M:Model}{A:EX}{E:E2->E3->Prop}{i:Nat}{x:Str}{v:V}{u:E2}{Q:Unit->E3->Prop}(I:Inv X pins σ H s)(hN:X.N.Nodup)(hi:X.N[i]?=some x)(hx:Loc X.env.scope x)(r:RelV v u)
 (h:∀s',Inv X pins (σ.set i (some v)) H s'->(∃a,Hi a s.heap s'.heap/\(a=X.env.locals\/X.env.cells.lookup x=some a))->Q () s') (hf:X.fn x=true\/X.env.scope.names.lookup x=some .local:=by first|exact .inl rfl|exact .inr rfl|assumption):E8 M A (storeName X.env x u) Q E s:=by
 obtain⟨m,hn,hl⟩:=id I.loc
 have hcls:(X.env.scope.kind==.class||(X.env.scope.kind==.module&&X.env.locals != X.env.globals))=false:=by rw[I.ok.kind];rfl
 have hiσ:i<σ.length:=by rw[I.len];exact(EB.mp hi).1
 have cne:=I.cne
 have tracked:∀{a:Addr} {h':Heap},(∃o,s.heap.get? a=some o/\H a=none)->Hi a s.heap h'->HOk X.prog X.w H h':=fun{a h'} ha hs b ob e=>by
  obtain⟨_,_,hfree⟩:=ha
  refine(I.hok b ob e).dq (fun c w' hc q=>(hs.2 c ?_).trans q) (fun _ q=>q) fun _ _ q=>q
  rintro rfl
  rcases hc with rfl|hc
  ·rw[hfree]at e;cases e
  ·rw[hfree]at hc;cases hc
 rcases hx with hk|hk
 ·refine wpAny_storeName_local hk hn (fun h' hn' hs=>?_) hcls
  obtain⟨oL,_,_,hoL,_⟩:=id hn
  refine h _ ⟨I.ok,I.os,I.bare,⟨fun b o e n hb hx=>?_,fun b o e n hb hx=>?_,I.base.free,fun b o e hx=>?_,I.base.tups,I.base.frzs,I.base.tbls⟩,⟨_,hn',fun j y v' e1 e2 e3=>?_⟩,fun y c e=>?_,I.free,I.freeC,fun p hp=>?_,tracked ⟨oL,hoL,I.free⟩ hs,by simpa using I.len⟩ ⟨_,hs,.inl rfl⟩
  ·exact(hs.2 b (EV (EK (E7 e) I.ok.above))).trans (I.base.keep b o e n hb hx)
  ·obtain⟨sl,e1⟩:=I.base.slot b o e n hb hx
   exact⟨sl,(hs.2 b (EV (EK (E7 e) I.ok.above))).trans e1⟩
  ·obtain⟨o',e1⟩:=I.base.there b o e hx
   exact⟨o',(hs.2 b (EV (EK (E7 e) I.ok.above))).trans e1⟩
  ·by_cases hj:j=i
   ·subst hj
    rw[hi]at e1;cases e1
    rw[List.getElem?_set_self hiσ]at e2
    cases e2
    exact⟨u,r,.inl ⟨hk,by simp⟩⟩
   ·rw[List.getElem?_set_ne (Ne.symm hj)]at e2
    obtain⟨u',r',q⟩:=hl j y v' e1 e2 e3
    refine⟨u',r',?_⟩
    rcases q with⟨k,e⟩|⟨k,c,e,z⟩
    ·refine .inl ⟨k,?_⟩
     have:y≠x:=fun e=>hj (jj hN e1 (e▸hi))
     simp[this,e]
    ·exact .inr ⟨k,c,e,z.sameBut hs (cne y c e)⟩
  ·obtain⟨w',z⟩:=I.cell y c e
   exact⟨w',z.sameBut hs (cne y c e)⟩
  ·obtain⟨e,n,ne,nf,d⟩:=I.pin p hp
   exact⟨(hs.2 p.1 ne).trans e,n,ne,nf,d⟩
 ·have hfn:X.fn x=true:=by
   rcases hf with z|z
   ·exact z
   ·rw[z]at hk;cases hk
  obtain⟨c,hc⟩:=I.ok.has x (.inl hk)
  obtain⟨w',z⟩:=I.cell x c hc
  refine wpAny_storeName_cell I.ok.kind hk hc z (fun h' hc' hs=>?_)
  obtain⟨oc,hoc,hocd⟩:=id z
  refine h { s with heap:=h' } ⟨I.ok,I.os,I.bare,⟨fun b o e n hb hx=>?_,fun b o e n hb hx=>?_,I.base.free,fun b o e hx=>?_,I.base.tups,I.base.frzs,I.base.tbls⟩,⟨m,hn.sameBut hs (Ne.symm (cne x c hc)),fun j y v' e1 e2 e3=>?_⟩,fun y c' e=>?_,I.free,I.freeC,fun p hp=>?_,tracked ⟨oc,hoc,I.freeC x c hc⟩ hs,by simpa using I.len⟩ ⟨c,hs,.inr hc⟩
  ·exact(hs.2 b (EV (EK (E7 e) (I.ok.cab x c hfn hc)))).trans (I.base.keep b o e n hb hx)
  ·obtain⟨sl,e1⟩:=I.base.slot b o e n hb hx
   exact⟨sl,(hs.2 b (EV (EK (E7 e) (I.ok.cab x c hfn hc)))).trans e1⟩
  ·obtain⟨o',e1⟩:=I.base.there b o e hx
   exact⟨o',(hs.2 b (EV (EK (E7 e) (I.ok.cab x c hfn hc)))).trans e1⟩
  ·by_cases hj:j=i
   ·subst hj
    rw[hi]at e1;cases e1
    rw[List.getElem?_set_self hiσ]at e2
    cases e2
    exact⟨u,r,.inr ⟨.inl hk,c,hc,hc'⟩⟩
   ·rw[List.getElem?_set_ne (Ne.symm hj)]at e2
    obtain⟨u',r',q⟩:=hl j y v' e1 e2 e3
    refine⟨u',r',?_⟩
    rcases q with q|⟨k,c',e,z'⟩
    ·exact .inl q
    ·refine .inr ⟨k,c',e,z'.sameBut hs ?_⟩
     rintro rfl
     exact hj (jj hN e1 (I.ok.inj _ _ _ e hc▸hi))
  ·by_cases hcc:c'=c
   ·subst hcc;exact⟨_,hc'⟩
   ·obtain⟨w2,z2⟩:=I.cell y c' e
    exact⟨w2,z2.sameBut hs hcc⟩
  ·obtain⟨e,n,ne,nf,d⟩:=I.pin p hp
   refine⟨(hs.2 p.1 ?_).trans e,n,ne,nf,d⟩
   intro q
   rw[q,hoc]at e
   have q':oc=p.2:=Option.some.inj e
   exact d w' (by rw[<-q'];exact hocd)
theorem ft{M:Model}{A:EX}{E:E2->E3->Prop}{i:Nat}{x:Str}{v:V}{u:E2}{Q:Unit->E3->Prop}(I:Inv X pins σ H s)(hN:X.N.Nodup)(hi:X.N[i]?=some x)(hx:Loc X.env.scope x)(r:RelV v u) (h:∀s',Inv X pins (σ.set i (some v)) H s'->Q () s') (hf:X.fn x=true\/X.env.scope.names.lookup x=some .local:=by first|exact .inl rfl|exact .inr rfl|assumption):E8 M A (storeName X.env x u) Q E s:=lD I hN hi hx r (fun s' I' _=>h s' I') hf
theorem Inv.qF{s':E3}{ch:List Addr}(I:Inv X pins σ H s)(ho:s'.os=s.os)(u:Un (frs X.stack) ch H H' s.heap s'.heap)(hok:HOk X.prog X.w H' s'.heap)(hg:AllBare s'.gens)
 (hch:∀b∈ch,(b∈X.ex\/X.s₀.heap.objs.size<=b)/\b≠X.env.locals/\(∀x c,X.env.cells.lookup x=some c->c≠b)/\∀p∈X.pn++pins,p.1≠b):Inv X pins σ H' s':=by
 obtain⟨h',g',d',t',o'⟩:=s'
 have e:o'=s.os:=ho
 subst e
 exact I.call (g':=g') (t':=t') (d':=d') u hok hg hch
end
abbrev XK:=E2->Option Addr->Hp->Prop
abbrev St:=List (Option V)
abbrev VK:=V->Hp->Prop
abbrev TE:=St->Hp->VK->Prop
abbrev TT:=St->Hp->(Bool->Hp->Prop)->Prop
abbrev TA:=St->Hp->(List V->Hp->Prop)->Prop
structure Ends where
 nx:St->Hp->Prop
 rt:VK
 bk:St->Hp->Prop:=fun _ _=>False
 ct:St->Hp->Prop:=fun _ _=>False
abbrev TS:=Ends->St->Hp->Prop
def EP(X:Cx)(pins:List (Addr×Obj))(σ:St)(Q:VK)(u:E2)(s':E3):Prop:=∃v H',Inv X pins σ H' s'/\RelV v u/\Q v H'
def TP(X:Cx)(pins:List (Addr×Obj))(σ:St)(Q:Bool->Hp->Prop)(b:Bool)(s':E3):Prop:=∃H',Inv X pins σ H' s'/\Q b H'
def AP(X:Cx)(pins:List (Addr×Obj))(σ:St)(Q:List V->Hp->Prop)(us:List E2)(s':E3):Prop:=∃vs H',Inv X pins σ H' s'/\Vals vs us/\Q vs H'
def SP(X:Cx)(pins:List (Addr×Obj))(D:Ends)(f:Flow)(s':E3):Prop:=
 match f with
 |.next=>∃σ' H',Inv X pins σ' H' s'/\D.nx σ' H'
 |.brk=>∃σ' H',Inv X pins σ' H' s'/\D.bk σ' H'
 |.cont=>∃σ' H',Inv X pins σ' H' s'/\D.ct σ' H'
 |.ret u=>∃v σ' H',Inv X pins σ' H' s'/\RelV v u/\D.rt v H'
def PE(X:Cx)(e:Expr)(t:TE):Prop:=
 ∀(pins:List (Addr×Obj)) (s:E3) (σ:St) (H:Hp) (Q:VK),Inv X pins σ H s->t σ H Q->E8 (ED X.prog X.w) X.A (eval e X.env) (EP X pins σ Q) X.xe s
def PT(X:Cx)(e:Expr)(t:TT):Prop:=
 ∀(pins:List (Addr×Obj)) (s:E3) (σ:St) (H:Hp) (Q:Bool->Hp->Prop),Inv X pins σ H s->t σ H Q->E8 (ED X.prog X.w) X.A (isTrue e X.env (eval e X.env)) (TP X pins σ Q) X.xe s
def PW(X:Cx)(e:Expr)(t:TT):Prop:=
 ∀(whole:Sem E2) (pins:List (Addr×Obj)) (s:E3) (σ:St) (H:Hp) (Q:Bool->Hp->Prop),Inv X pins σ H s->t σ H Q->E8 (ED X.prog X.w) X.A (isTrue e X.env whole) (TP X pins σ Q) X.xe s
theorem PW.pt{X:Cx}{e:Expr}{t:TT}(h:PW X e t):PT X e t:=h _
def PA(X:Cx)(es:List Expr)(t:TA):Prop:=
 ∀(pos:Pos) (pins:List (Addr×Obj)) (s:E3) (σ:St) (H:Hp) (Q:List V->Hp->Prop),Inv X pins σ H s->t σ H Q->E8 (ED X.prog X.w) X.A (spliced (G6 pos (EH es X.env))) (AP X pins σ Q) X.xe s
def PS(X:Cx)(st:Stmt)(t:TS):Prop:=
 ∀(pins:List (Addr×Obj)) (s:E3) (σ:St) (H:Hp) (D:Ends),Inv X pins σ H s->t D σ H->E8 (ED X.prog X.w) X.A (exec st X.env) (SP X pins D) X.xe s
def PSs(X:Cx)(st:List Stmt)(t:TS):Prop:=
 ∀(pins:List (Addr×Obj)) (s:E3) (σ:St) (H:Hp) (D:Ends),Inv X pins σ H s->t D σ H->E8 (ED X.prog X.w) X.A (execs st X.env) (SP X pins D) X.xe s
theorem thn{α:Type}{t:Sem α}{Q Q':α->E3->Prop}{M:Model}{A:EX}{E:E2->E3->Prop}{s:E3}(h:E8 M A t Q E s)(hQ:∀a s,Q a s->Q' a s):E8 M A t Q' E s:=ES h hQ fun _ _ x=>x
section
variable{X:Cx}
def wY(i:Nat):TE:=fun σ H Q=>∃v,σ[i]?=some (some v)/\Q v H
def tC(v:V):TE:=fun _ H Q=>Q v H
theorem vT{i:Nat}{x:Str}{pos:Pos}(hN:X.N[i]?=some x)(hv:Vis X.env.scope x)(hd:(x==("__debug__":Str))=false:=by decide)(hcd:(x==("__classdict__":Str))=false:=by decide):PE X (.Name x pos) (wY i):=by
 intro pins s σ H Q I h;obtain⟨v,e,h⟩:=h;obtain⟨m,hn,hl⟩:=I.loc;obtain⟨u,r,l⟩:=hl i x v hN e hv;have fin:EP X pins σ Q u s:=⟨v,H,I,r,h⟩;rcases l with⟨hk,hm⟩|⟨hk,c,hc,hcell⟩
 ·exact wpAny_Name (wpAny_loadName_local I.ok.kind hk hn hm fin) hd
 ·rcases hk with hk|hk
  ·exact wpAny_Name (wpAny_loadName_cell I.ok.kind hk hc hcell fin) hd
  ·exact wpAny_Name (wpAny_loadName_free I.ok.kind hk hc hcell fin hcd) hd
theorem AZ{i j pos}:PE X (.Constant (.int i) j pos) (tC (.int i)):=fun _ _ _ H _ I h=>wpAny_Constant_int ⟨.int i,H,I.tok _,⟨_,rfl⟩,h⟩
theorem Dk{b j pos}:PE X (.Constant (.bool b) j pos) (tC (.bl b)):=fun _ _ _ H _ I h=>Constant_bool ⟨.bl b,H,I,rfl,h⟩
theorem BF{j pos}:PE X (.Constant .none j pos) (tC .non):=fun _ _ _ H _ I h=>Constant_none ⟨.non,H,I,rfl,h⟩
theorem z7{x j pos}:PE X (.Constant (.str x) j pos) (tC (.str x)):=fun _ _ _ H _ I h=>Calls.Constant_str ⟨.str x,H,I.tok _,⟨_,rfl⟩,h⟩
def Gl(X:Cx)(x:Str):Prop:=X.env.kindOf x=some .globalImplicit
theorem fD{E:E2->E3->Prop}{pins:List (Addr×Obj)}{s:E3}{σ:St}{H:Hp}{x:Str}{u:E2}{pos:Pos}{Q:E2->E3->Prop}(I:Inv X pins σ H s)(hg:Gl X x)(hm:X.mg x=some u)(h:Q u s) (hd:(x==("__debug__":Str))=false:=by decide):E8 (ED X.prog X.w) X.A (eval (.Name x pos) X.env) Q E s:=Calls.Name_function_global I.ok.kind hg (Calls.loadGlobal_global (by rw[I.ok.glob];exact I.mod.glob.keeps I.bk) hm h) hd
theorem fx{E:E2->E3->Prop}{pins:List (Addr×Obj)}{s:E3}{σ:St}{H:Hp}{x:Str}{u:E2}{pos:Pos}{Q:E2->E3->Prop}(I:Inv X pins σ H s)(hg:Gl X x)(hm:X.mg x=none)(hv:Fp x=some u)(h:Q u s) (hn:x≠"__name__":=by decide) (hd:(x==("__debug__":Str))=false:=by decide):E8 (ED X.prog X.w) X.A (eval (.Name x pos) X.env) Q E s:=by obtain⟨mb,h1,h2⟩:=I.mod.blt;exact Calls.Name_function_global I.ok.kind hg (Calls.loadGlobal_builtin (by rw[I.ok.glob];exact I.mod.glob.keeps I.bk) hm (by rw[I.ok.blt];exact h1.keeps I.bk) ((h2 x hn).trans hv) h) hd
theorem qH{x:Str}{v:V}{u:E2}{pos:Pos}(hg:Gl X x)(hm:X.mg x=some u)(r:RelV v u)(hd:(x==("__debug__":Str))=false:=by decide):PE X (.Name x pos) (tC v):=fun _ _ _ H _ I h=>fD I hg hm ⟨v,H,I,r,h⟩ hd
theorem yC{x:Str}{v:V}{u:E2}{pos:Pos}(hg:Gl X x)(hm:X.mg x=none)(hv:Fp x=some u)(r:RelV v u)(hn:x≠"__name__":=by decide)(hd:(x==("__debug__":Str))=false:=by decide):PE X (.Name x pos) (tC v):=fun _ _ _ H _ I h=>fx I hg hm hv ⟨v,H,I,r,h⟩ hn hd
variable{a b:Expr}{ta tb:TE}{pos:Pos}
def tB(t:TE):TT:=fun σ H Q=>t σ H fun x H1=>∃c,x=.bl c/\Q c H1
theorem AM{e:Expr}{t:TE}(h:PE X e t)(he:∀whole,isTrue e X.env whole=(do let v <-whole;standAt e.pos;holding [v] (truthy v)):=by intro _;rfl):PT X e (tB t):=by intro pins s σ H Q I hw;refine isTrue_plain (thn (h pins s σ H _ I hw) fun v s1 zz7_0=>?_) (he _);obtain⟨x,H1,I1,r1,q1⟩:=zz7_0;obtain⟨d,rfl,q⟩:=q1;cases r1;exact Hj ⟨H1,I1,q⟩
variable{tA tB':TT}{rest:List Expr}
def Eh(t u:TT):TT:=fun σ H Q=>t σ H fun c H1=>if c=true then u σ H1 Q else Q false H1
def tOr(t u:TT):TT:=fun σ H Q=>t σ H fun c H1=>if c=true then Q true H1 else u σ H1 Q
def Ef(t:TT):TT:=fun σ H Q=>t σ H fun c H1=>Q (!c) H1
theorem yx(ha:PT X a tA):PW X (.BoolOp .And [a] pos) tA:=by
 intro wh pins s σ H Q I h;refine isTrue_and (thn (ha pins s σ H Q I h) fun c s1 e=>?_);cases c with
 |true=>exact isTrue_and_nil e
 |false=>exact e
theorem Bl(ha:PT X a tA):PW X (.BoolOp .Or [a] pos) tA:=by
 intro wh pins s σ H Q I h;refine isTrue_or (thn (ha pins s σ H Q I h) fun c s1 e=>?_);cases c with
 |false=>exact isTrue_or_nil e
 |true=>exact e
theorem Bg(ha:PT X a tA)(hb:PW X (.BoolOp .And (b::rest) pos) tB'):PW X (.BoolOp .And (a::b::rest) pos) (Eh tA tB'):=by
 intro wh pins s σ H Q I h;refine isTrue_and (thn (ha pins s σ H _ I h) fun c s1 zz8_0=>?_);obtain⟨H1,I1,q1⟩:=zz8_0;cases c with
 |true=>exact hb wh pins s1 σ H1 Q I1 q1
 |false=>exact⟨H1,I1,q1⟩
theorem Dv(ha:PT X a tA)(hb:PW X (.BoolOp .Or (b::rest) pos) tB'):PW X (.BoolOp .Or (a::b::rest) pos) (tOr tA tB'):=by
 intro wh pins s σ H Q I h;refine isTrue_or (thn (ha pins s σ H _ I h) fun c s1 zz9_0=>?_);obtain⟨H1,I1,q1⟩:=zz9_0;cases c with
 |true=>exact⟨H1,I1,q1⟩
 |false=>exact hb wh pins s1 σ H1 Q I1 q1
theorem Ak(ha:PT X a tA):PT X (.UnaryOp .Not a pos) (Ef tA):=by intro pins s σ H Q I h;exact isTrue_not (ha pins s σ H (fun c H1=>Q (!c) H1) I h)
def Cd(ta tb:TE):TE:=fun σ H Q=>ta σ H fun x H1=>∃c,x=.bl c/\if c=true then tb σ H1 Q else Q (.bl false) H1
def B8(ta:TE):TE:=fun σ H Q=>ta σ H fun x H1=>∃c,x=.bl c/\Q (.bl (!c)) H1
theorem Bs{op}{t:TE}(h:PE X a t):PE X (.BoolOp op [a] pos) t:=fun pins s σ H Q I hw=>BoolOp_one (h pins s σ H Q I hw)
theorem AD(ha:PE X a ta)(hb:PE X (.BoolOp .And (b::rest) pos) tb):PE X (.BoolOp .And (a::b::rest) pos) (Cd ta tb):=by
 intro pins s σ H Q I h;refine BoolOp_and (thn (ha pins s σ H _ I h) fun v s1 zz10_0=>?_);obtain⟨x,H1,I1,r1,q1⟩:=zz10_0;obtain⟨c,rfl,q1⟩:=q1;cases r1;refine Hj ?_;cases c with
 |true=>exact hb pins s1 σ H1 Q I1 q1
 |false=>exact⟨.bl false,H1,I1,rfl,q1⟩
theorem BC(ha:PE X a ta):PE X (.UnaryOp .Not a pos) (B8 ta):=by intro pins s σ H Q I h;refine UnaryOp_ (thn (ha pins s σ H _ I h) fun v s1 zz12_0=>?_);obtain⟨x,H1,I1,r1,q1⟩:=zz12_0;obtain⟨c,rfl,q1⟩:=q1;cases r1;exact not_of (Hj ⟨.bl (!c),H1,I1,rfl,q1⟩)
def tIf(t:TT)(ta tb:TE):TE:=fun σ H Q=>t σ H fun c H1=>if c=true then ta σ H1 Q else tb σ H1 Q
theorem xj{c:Expr}(hc:PT X c tA)(ha:PE X a ta)(hb:PE X b tb):PE X (.IfExp c a b pos) (tIf tA ta tb):=by
 intro pins s σ H Q I h;refine wpAny_IfExp (thn (hc pins s σ H _ I h) fun d s1 zz13_0=>?_);obtain⟨H1,I1,q1⟩:=zz13_0;cases d with
 |true=>exact ha pins s1 σ H1 Q I1 q1
 |false=>exact hb pins s1 σ H1 Q I1 q1
end
def SqL(K:E1)(H:Hp)(a:Addr)(xs:List V):Prop:=
 Rd H a (.lst xs)\/
  ∃(o:Obj) (its:Array E2) (n:Nat),K.lookup a=some o/\o.cls=.type "list"/\o.dict=none/\o.data=.seq its n/\its.size<=ER/\Vals xs its.toList
def SqT(K:E1)(H:Hp)(a:Addr)(xs:List V):Prop:=
 Rd H a (.tup xs)\/
  ∃(o:Obj) (its:Array E2) (n:Nat),K.lookup a=some o/\o.cls=.type "tuple"/\o.data=.seq its n/\its.size<=ER/\Vals xs its.toList
def Eo:E2->Option V
 |.none=>some .non
 |.bool b=>some (.bl b)
 |.int i _=>some (.int i)
 |.str x _=>some (.str x)
 |.bytes b _=>some (.byt b)
 |.float b _=>some (.flt b)
 |.ref a=>some (.ref a)
 |.type n=>some (.ty n)
 |_=>none
theorem RelV.abs{x:V}{u:E2}(r:RelV x u):Eo u=some x:=by
 cases x with
 |non=>cases r;rfl
 |bl _=>cases r;rfl
 |int _=>obtain⟨t,rfl⟩:=r;rfl
 |str _=>obtain⟨t,rfl⟩:=r;rfl
 |byt _=>obtain⟨t,rfl⟩:=r;rfl
 |flt _=>obtain⟨t,rfl⟩:=r;rfl
 |ref _=>cases r;rfl
 |ty _=>cases r;rfl
theorem RelV.inj{x y:V}{u:E2}(r:RelV x u)(q:RelV y u):x=y:=Option.some.inj (r.abs.symm.trans q.abs)
theorem Vals.inj:∀{xs ys:List V} {us:List E2},Vals xs us->Vals ys us->xs=ys
 |_,_,_,.nil,.nil=>rfl
 |_,_,_,.cons r t,.cons r' t'=>by rw[r.inj r',Vals.inj t t']
section
variable{X:Cx}{pins:List (Addr×Obj)}{σ:St}{H:Hp}{s:E3}{a:Addr}{xs ys:List V}
theorem SqL.of{K:E1}(h:H a=some (.lst xs)):SqL K H a xs:=.inl (.inl h)
theorem SqT.of{K:E1}(h:H a=some (.tup xs)):SqT K H a xs:=.inl (.inl h)
theorem Inv.list(I:Inv X pins σ H s)(h:SqL X.K H a xs):∃its:List E2,Vals xs its/\PlainL s.heap a its.toArray/\xs.length<=ER:=by
 rcases h with h|⟨o,its,n,hk,hc,hd,hs,hz,r⟩
 ·obtain⟨z,its,n,r,e⟩:=h.ok I.hok;exact⟨its,r,⟨_,n,e,rfl,rfl,rfl⟩,z⟩
 ·refine⟨its.toList,r,⟨o,n,I.kIn a o hk,hc,hd,by simpa using hs⟩,?_⟩;have e:=r.length;simp only[Fu]at e;omega
theorem Inv.tuple(I:Inv X pins σ H s)(h:SqT X.K H a xs):∃its:List E2,Vals xs its/\IsTup s.heap a its.toArray/\xs.length<=ER:=by
 rcases h with h|⟨o,its,n,hk,hc,hs,hz,r⟩
 ·obtain⟨z,its,r,p⟩:=h.ok I.hok;exact⟨its,r,p,z⟩
 ·refine⟨its.toList,r,⟨o,I.kIn a o hk,hc,n,by simpa using hs⟩,?_⟩;have e:=r.length;simp only[Fu]at e;omega
theorem Inv.d0(I:Inv X pins σ H s)(h:SqL X.K H a xs)(h':SqL X.K H a ys):xs=ys:=by
 obtain⟨its,r,⟨o,n,e,_,_,d⟩,_⟩:=I.list h;obtain⟨its',r',⟨o',n',e',_,_,d'⟩,_⟩:=I.list h';rw[e]at e';cases e';rw[d]at d';injection d' with d1 _;have:its=its':=by simpa using congrArg Array.toList d1
 subst this;exact r.inj r'
theorem Inv.sC(I:Inv X pins σ H s)(h:SqT X.K H a xs)(h':SqT X.K H a ys):xs=ys:=by
 obtain⟨its,r,⟨o,e,_,n,d⟩,_⟩:=I.tuple h;obtain⟨its',r',⟨o',e',_,n',d'⟩,_⟩:=I.tuple h';rw[e]at e';cases e';rw[d]at d';injection d' with d1 _;have:its=its':=by simpa using congrArg Array.toList d1
 subst this;exact r.inj r'
end
abbrev Cx.jm(X:Cx)(E:E2->E3->Prop):Cx:={ X with xe:=E }
abbrev Cx.nox(X:Cx):Cx:=X.jm fun _ _=>False
theorem Cx.Ok.jm{X:Cx}(ok:X.Ok)(E:E2->E3->Prop):(X.jm E).Ok:=⟨ok.mod,ok.kind,ok.glob,ok.blt,ok.above,ok.inj,ok.has,ok.cab,ok.hd,ok.frames,ok.stk,ok.exf,ok.bs,ok.bsz,ok.noex,ok.exfs,ok.eL,ok.frf⟩
theorem Cx.Ok.fq{X:Cx}{E:E2->E3->Prop}(ok:(X.jm E).Ok):X.Ok:=⟨ok.mod,ok.kind,ok.glob,ok.blt,ok.above,ok.inj,ok.has,ok.cab,ok.hd,ok.frames,ok.stk,ok.exf,ok.bs,ok.bsz,ok.noex,ok.exfs,ok.eL,ok.frf⟩
section
variable{X:Cx}{pins:List (Addr×Obj)}{σ:St}{H:Hp}{s:E3}{E:E2->E3->Prop}
theorem Inv.jm(I:Inv X pins σ H s)(E:E2->E3->Prop):Inv (X.jm E) pins σ H s:=⟨I.ok.jm E,I.os,I.bare,I.base,I.loc,I.cell,I.free,I.freeC,I.pin,I.hok,I.len⟩
theorem Inv.fq(I:Inv (X.jm E) pins σ H s):Inv X pins σ H s:=⟨I.ok.fq,I.os,I.bare,I.base,I.loc,I.cell,I.free,I.freeC,I.pin,I.hok,I.len⟩
theorem SP.fq{D:Ends}{f:Flow}{s':E3}(h:SP (X.jm E) pins D f s'):SP X pins D f s':=by
 cases f with
 |next=>obtain⟨σ',H',I,q⟩:=h;exact⟨σ',H',I.fq,q⟩
 |brk=>obtain⟨σ',H',I,q⟩:=h;exact⟨σ',H',I.fq,q⟩
 |cont=>obtain⟨σ',H',I,q⟩:=h;exact⟨σ',H',I.fq,q⟩
 |ret u=>obtain⟨v,σ',H',I,r,q⟩:=h;exact⟨v,σ',H',I.fq,r,q⟩
theorem PSs.nox{st:List Stmt}{t:TS}(h:PSs X.nox st t):PSs X st t:=fun pins s σ H D I hw=>ES (h pins s σ H D (I.jm _) hw) (fun _ _ q=>q.fq) fun _ _ z=>FC z
end
section
variable{X:Cx}{st:Stmt}{rest:List Stmt}{t u:TS}{e:Expr}{te:TE}{pos:Pos}
def Cn:TS:=fun D σ H=>D.nx σ H
def Cg(t u:TS):TS:=fun D σ H=>t { D with nx:=u D } σ H
theorem zj:PSs X [] Cn:=fun _ _ σ H _ I h=>wpAny_execs_nil ⟨σ,H,I,h⟩
theorem nD(h1:PS X st t)(h2:PSs X rest u):PSs X (st::rest) (Cg t u):=by
 intro pins s σ H D I h;refine wpAny_execs_cons (thn (h1 pins s σ H { D with nx:=u D } I h) fun f s1 q=>?_);cases f with
 |next=>
  obtain⟨σ',H',I',q⟩:=q
  exact h2 pins s1 σ' H' D I' q
 |ret v=>exact q
 |brk=>exact q
 |cont=>exact q
theorem sg(h1:PS X st t):PSs X [st] t:=by
 intro pins s σ H D I h;refine wpAny_execs_cons (thn (h1 pins s σ H D I h) fun f s1 q=>?_);cases f with
 |next=>exact wpAny_execs_nil q
 |ret v=>exact q
 |brk=>exact q
 |cont=>exact q
theorem Inv.quiet{pins:List (Addr×Obj)}{σ:St}{H:Hp}{s:E3}(I:Inv X pins σ H s):interactive X.env=false:=by simp[interactive,I.ok.kind]
def zY(te:TE):TS:=fun D σ H=>te σ H fun _ H1=>D.nx σ H1
theorem rH(he:PE X e te)(hs:Ht e none pos.line X.env=pure false:=by rfl):PS X (.Expr e pos) (zY te):=by intro pins s σ H D I h;exact wpAny_Expr_any (thn (he pins s σ H _ I h) fun v s1 zz16_0=>by obtain⟨x,H1,I1,r1,q1⟩:=zz16_0;exact(⟨σ,H1,I1,q1⟩)) I.quiet hs
def Ek(te:TE):TS:=fun D σ H=>te σ H D.rt
theorem An(he:PE X e te):PS X (.Return (some e) pos) (Ek te):=by intro pins s σ H D I h;exact wpAny_Return_some (thn (he pins s σ H _ I h) fun v s1 zz17_0=>by obtain⟨x,H1,I1,r1,q1⟩:=zz17_0;exact(⟨x,σ,H1,I1,r1,q1⟩))
def DL(c:TT)(t u:TS):TS:=fun D σ H=>c σ H fun b H1=>if b=true then t D σ H1 else u D σ H1
theorem CU{c:Expr}{a b:List Stmt}{tc:TT}(hc:PT X c tc)(ha:PSs X a t)(hb:PSs X b u):PS X (.If c a b pos) (DL tc t u):=by
 intro pins s σ H D I h;refine wpAny_If (thn (hc pins s σ H _ I h) fun d s1 zz18_0=>?_);obtain⟨H1,I1,q1⟩:=zz18_0;cases d with
 |true=>exact ha pins s1 σ H1 D I1 q1
 |false=>exact hb pins s1 σ H1 D I1 q1
def wJ:TS:=fun _ _ _=>False
theorem wA:PS X st wJ:=fun _ _ _ _ _ _ h=>h.elim
theorem sN{sts:List Stmt}:PSs X sts wJ:=fun _ _ _ _ _ _ h=>h.elim
end
abbrev TG:=V->St->Hp->(St->Hp->Prop)->Prop
abbrev TGs:=List V->St->Hp->(St->Hp->Prop)->Prop
def PG(X:Cx)(target:Expr)(t:TG):Prop:=
 ∀(pins:List (Addr×Obj)) (s:E3) (σ:St) (H:Hp) (v:V) (u:E2) (Q:St->Hp->Prop),Inv X pins σ H s->RelV v u->t v σ H Q->
  E8 (ED X.prog X.w) X.A (assign target X.env u) (fun _ s'=>∃σ' H',Inv X pins σ' H' s'/\Q σ' H') X.xe s
def PGs(X:Cx)(ts:List Expr)(t:TGs):Prop:=
 ∀(pins:List (Addr×Obj)) (s:E3) (σ:St) (H:Hp) (vs:List V) (us:List E2) (Q:St->Hp->Prop),Inv X pins σ H s->Vals vs us->t vs σ H Q->
  E8 (ED X.prog X.w) X.A (assignInOrder ((Ho ts X.env).map (·.2)) us) (fun _ s'=>∃σ' H',Inv X pins σ' H' s'/\Q σ' H') X.xe s
abbrev AX:=V->V->V->Hp->(Hp->Prop)->Prop
def Cu(X:Cx)(t:AX):Prop:=
 ∀(pins:List (Addr×Obj)) (s:E3) (σ:St) (H:Hp) (o i v:V) (ov iv u:E2) (Q:Hp->Prop),Inv X pins σ H s->RelV o ov->RelV i iv->RelV v u->t o i v H Q->
  E8 (ED X.prog X.w) X.A (setItem ov iv u) (fun _ s'=>∃H',Inv X pins σ H' s'/\Q H') X.xe s
section
variable{X:Cx}{pos:Pos}
def gN(i:Nat):TG:=fun v σ H Q=>Q (σ.set i (some v)) H
theorem rN{i:Nat}{x:Str}(hN:X.N.Nodup)(hi:X.N[i]?=some x)(hx:Loc X.env.scope x)(hf:X.fn x=true\/X.env.scope.names.lookup x=some .local:=by first|exact .inl rfl|exact .inr rfl|assumption):PG X (.Name x pos) (gN i):=by intro pins s σ H v u Q I r h;exact wpAny_assign_Name (ft I hN hi hx r (fun s' I'=>⟨_,H,I',h⟩) hf)
def Bp:TGs:=fun vs σ H Q=>vs=[]/\Q σ H
def oX(t:TG)(u:TGs):TGs:=fun vs σ H Q=>∃v r,vs=v::r/\t v σ H fun σ' H'=>u r σ' H' Q
theorem qC:PGs X [] Bp:=by intro pins s σ H vs us Q I r h;obtain⟨e,h⟩:=h;subst e;cases r;exact assignInOrder_nil ⟨σ,H,I,h⟩
theorem jd{e:Expr}{es:List Expr}{t:TG}{u:TGs}(h1:PG X e t)(h2:PGs X es u) (hs:(Ho (e::es) X.env).map (·.2)=assign e X.env::(Ho es X.env).map (·.2):=by rfl):PGs X (e::es) (oX t u):=by
 intro pins s σ H vs us Q I r h;obtain⟨v,vr,e1,h⟩:=h;subst e1;cases r with
 |cons r rr=>
  rw[hs]
  refine assignInOrder_cons (thn (h1 pins s σ H _ _ _ I r h) fun _ s1 zz19_0=>?_)
  obtain⟨σ1,H1,I1,q1⟩:=zz19_0
  exact h2 pins s1 σ1 H1 _ _ Q I1 rr q1
def BE(K:E1)(n:Nat)(t:TGs):TG:=fun v σ H Q=>∃a xs,v=.ref a/\SqT K H a xs/\xs.length=n/\t xs σ H Q
theorem uz{es:List Expr}{k:Nat}{t:TGs}{n:Nat}(hc:X.calm=true)(h:PGs X es t)
 (hn:(Ho es X.env).length=n:=by rfl) (hst:(Ho es X.env).findIdx? (·.1)=none:=by rfl):PG X (.Tuple es k pos) (BE X.K n t):=by
 intro pins s σ H v u Q I r hw
 obtain⟨a,xs,e1,hq,hl,hw⟩:=hw
 subst e1
 cases r
 obtain⟨its,rv,ht,hz⟩:=I.tuple hq
 refine assign_Tuple_tuple (I.ok.hd hc) ht (by simp[hn,<-hl,rv.length]) hst fun h' hx=>?_
 have I1:Inv X pins σ H { s with heap:=h' }:=I.kept (t':=s.toks) fun b o e=>hx b o (EV (E7 e)) e
 exact h pins _ σ H xs _ Q I1 (by simpa using rv) hw
def D3(to ti:TE)(t:AX):TG:=fun v σ H Q=>to σ H fun o H1=>ti σ H1 fun i H2=>t o i v H2 fun H3=>Q σ H3
theorem A4{o i:Expr}{to ti:TE}{t:AX}(ho:PE X o to)(hi:PE X i ti)(hs:Cu X t)
 (ha:∀v,assign (.Subscript o i pos) X.env v=(do
  let ov <-holding [v] (eval o X.env)
  let iv <-holding [v,ov] (eval i X.env)
  standAt pos
  holding [v,ov,iv] (setItem ov iv v)
  release [v,ov,iv] []):=by intro _;rfl):PG X (.Subscript o i pos) (D3 to ti t):=by
 intro pins s σ H v u Q I r h
 rw[ha]
 refine cc (Fs (thn (ho pins s σ H _ I h) fun ov s1 zz20_0=>?_))
 obtain⟨x,H1,I1,r1,q1⟩:=zz20_0
 refine cc (Fs (thn (hi pins s1 σ H1 _ I1 q1) fun iv s2 zz21_0=>?_))
 obtain⟨y,H2,I2,r2,q2⟩:=zz21_0
 refine cc (Hq (cc (Fs (thn (hs pins s2 σ H2 x y v ov iv u _ I2 r1 r2 r q2) fun _ s3 zz22_0=>?_))))
 obtain⟨H3,I3,q3⟩:=zz22_0
 exact wpAny_release ⟨σ,H3,I3,q3⟩
def AV(te:TE)(g:TG):TS:=fun D σ H=>te σ H fun x H1=>g x σ H1 D.nx
theorem Ac{tg e:Expr}{te:TE}{g:TG}(he:PE X e te)(hg:PG X tg g)(hs:swapsWithSole [tg] e pos.line X.env=pure false:=by rfl)(hw:swappedStores [tg] e X.env=pure none:=by rfl) (h1:(Ho [tg] X.env).map (·.2)=[assign tg X.env]:=by rfl):PS X (.Assign [tg] e pos) (AV te g):=by intro pins s σ H D I h;refine wpAny_Assign_stores (thn (he pins s σ H _ I h) fun v s1 zz23_0=>?_) hs hw;obtain⟨x,H1,I1,r1,q1⟩:=zz23_0;rw[h1];exact thn (hg pins s1 σ H1 x v _ I1 r1 q1) fun _ s2 q=>q
theorem A1{i:Nat}{x:Str}{e:Expr}{te:TE}{pos':Pos}(hN:X.N.Nodup)(hi:X.N[i]?=some x)(hx:Loc X.env.scope x)(he:PE X e te)(hs:Ht e (some (.Name x pos')) pos.line X.env=pure false:=by rfl)(hf:X.fn x=true\/X.env.scope.names.lookup x=some .local:=by first|exact .inl rfl|exact .inr rfl|assumption) : PS X (.Assign [.Name x pos'] e pos) (AV te (gN i)):=by intro pins s σ H D I h;refine wpAny_Assign_Name (thn (he pins s σ H _ I h) fun v s1 zz24_0=>?_) hs;obtain⟨y,H1,I1,r1,q1⟩:=zz24_0;exact ft I1 hN hi hx r1 (fun s2 I2=>⟨_,H1,I2,q1⟩) hf
def D5(i j:Nat)(ta:TA):TS:=fun D σ H=>ta σ H fun vs H1=>∃v w,vs=[v,w]/\D.nx ((σ.set i (some v)).set j (some w)) H1
theorem Ar{i j:Nat}{x y:Str}{a b:Expr}{ta:TA}{px py pt:Pos}{kt k2 pt2}(hc:X.calm=true)(hN:X.N.Nodup)(hi:X.N[i]?=some x)(hj:X.N[j]?=some y)(hij:i≠j)
 (hx:X.env.scope.names.lookup x=some .local) (hy:X.env.scope.names.lookup y=some .local) (ha:PA X [a,b] ta)
 (hw:swappedStores [.Tuple [.Name x px,.Name y py] kt pt] (.Tuple [a,b] k2 pt2) X.env=pure (some [x,y]))
 (hs:swapsWithSole [.Tuple [.Name x px,.Name y py] kt pt] (.Tuple [a,b] k2 pt2) pos.line X.env=pure false:=by rfl) :
 PS X (.Assign [.Tuple [.Name x px,.Name y py] kt pt] (.Tuple [a,b] k2 pt2) pos) (D5 i j ta):=by
 intro pins s σ H D I h
 rw[exec_Assign_arm]
 refine cc (Hq ?_)
 rw[hs]
 refine cc (E5 ?_)
 rw[if_neg (by decide)]
 refine cc (Tuple_ (thn (ha _ pins s σ H _ I h) fun us s1 zz25_0=>?_))
 obtain⟨vs,H1,I1,r1,q1⟩:=zz25_0
 obtain⟨v,w,e1,q1⟩:=q1
 subst e1
 obtain⟨u1,u2,rfl,rv,rw'⟩:∃u1 u2,us=[u1,u2]/\RelV v u1/\RelV w u2:=by
  cases r1 with
  |cons p q=>
   cases q with
   |cons p' q'=>
    cases q'
    exact⟨_,_,rfl,p,p'⟩
 refine Fq ?_ (by show 2<=ER;decide)
 have I2:Inv X pins σ H1 { s1 with heap:=s1.heap.push { cls:=.type "tuple",data:=.seq [u1,u2].toArray } }:=I1.kept (t':=s1.toks) fun b o e=>E4 _ e
 rw[hw]
 refine cc (E5 ?_)
 show E8 (ED X.prog X.w) X.A (do rule "assign.swapped-stores";let items <-unpackItems (.ref s1.heap.objs.size) 2 none;assignInOrder [fun v=>bindName X.env y v,fun v=>bindName X.env x v] items.reverse;pure Flow.next) _ _ _
 refine cc (wpAny_rule (cc (unpackItems_tuple (items:=#[u1,u2]) (I.ok.hd hc) (IsTup.new s1.heap _) fun h' hx'=>?_)))
 have I3:=I2.kept (h':=h') (t':=s1.toks) fun b o e=>hx' b o (EV (E7 e)) e
 show E8 _ _ (assignInOrder [fun v=>bindName X.env y v,fun v=>bindName X.env x v] [u2,u1] >>= fun _=>pure Flow.next) _ _ _
 refine cc (assignInOrder_cons (wpAny_bindName (ft I3 hN hj (.inl hy) rw' (fun s2 I4=>?_) (.inr hy))))
 refine assignInOrder_cons (wpAny_bindName (ft I4 hN hi (.inl hx) rv (fun s3 I5=>assignInOrder_nil (E5 ?_)) (.inr hx)))
 rw[List.set_comm _ _ (Ne.symm hij)]at I5
 exact⟨_,H1,I5,q1⟩
end
section
variable{X:Cx}{pos:Pos}
def By(c:TT)(tb:TS):TS:=fun D σ H=>∃W:Nat->St->Hp->Prop,(∃m,W m σ H)/\∀m σ H,W m σ H->
 c σ H fun b H1=>if b=true then ∃N:St->Hp->Prop,(∀σ' H',N σ' H'->∃m',m'<m/\W m' σ' H')/\tb { D with nx:=N,ct:=N,bk:=D.nx } σ H1 else D.nx σ H1
theorem wF{c:Expr}{body:List Stmt}{tc:TT}{tb:TS}(hp:PassesOwn (ED X.prog X.w) X.A X.env X.xe)(hc:PT X c tc)(hb:PSs X body tb):PS X (.While c body [] pos) (By tc tb):=by
 intro pins s σ H D I h;obtain⟨W,⟨m0,w0⟩,turn⟩:=h;refine wpAny_While (codeAny_whileLoop (fun n s'=>∃σ' H',Inv X pins σ' H' s'/\W n σ' H') ?_ m0 ⟨σ,H,I,w0⟩);rintro n s1 ⟨σ1,H1,I1,w1⟩;refine Hd hp (thn (hc pins s1 σ1 H1 _ I1 (turn n σ1 H1 w1)) fun b s2 zz34_0=>?_);obtain⟨H2,I2,q2⟩:=zz34_0;cases b with
 |true=>
  obtain⟨N,hN,q2⟩:=q2
  rw[if_pos rfl]
  refine Hd hp (thn (hb pins s2 σ1 H2 _ I2 q2) fun f s3 q3=>?_)
  cases f with
  |next=>
   obtain⟨σ3,H3,I3,n3⟩:=q3
   obtain⟨m',hm,w3⟩:=hN σ3 H3 n3
   exact⟨m',hm,σ3,H3,I3,w3⟩
  |cont=>
   obtain⟨σ3,H3,I3,n3⟩:=q3
   obtain⟨m',hm,w3⟩:=hN σ3 H3 n3
   exact⟨m',hm,σ3,H3,I3,w3⟩
  |brk=>exact q3
  |ret v=>exact q3
 |false=>
  rw[if_neg ET]
  exact wpAny_execs_nil ⟨σ1,H2,I2,q2⟩
end
structure It where
 go:Nat->Hp->Prop
 yld:Nat->Hp->V->Hp->Prop
 stop:Nat->Hp->Prop
def cI(X:Cx)(pins:List (Addr×Obj))(H:Hp)(b:Addr):Prop:=
 H b=none/\b≠X.env.locals/\b∉X.fs/\(b∈X.ex\/X.s₀.heap.objs.size<=b)/\(∀x c,X.env.cells.lookup x=some c->c≠b)/\∀p∈X.pn++pins,p.1≠b
theorem Inv.p5{X:Cx}{pins:List (Addr×Obj)}{σ:St}{H H':Hp}{s:E3}{b:Addr}(I:Inv X pins σ H s)(hb:s.heap.objs.size<=b)(hn:H' b=none):cI X pins H' b:=by
 refine⟨hn,Nat.ne_of_gt (EK I.lt hb),I.D8 hb,.inr (Fh I.sz hb),fun x c e z=>?_,fun p hp z=>?_⟩
 ·obtain⟨v,q⟩:=I.cell x c e;exact absurd (EK q.lt (by rw[z];exact hb)) (G0 _)
 ·exact absurd (EK (E7 (I.pin p hp).1) (by rw[z];exact hb)) (G0 _)
structure Turn(P:EF)(w:EZ)(K:E1)(tg:Expr)(J:It)(fp:List Addr)(it:Addr)(tn:Nat->Heap->Prop):Prop where
 mem:it∈fp
 obj:∀i h,tn i h->∀b∈fp,∃o,h.get? b=some o/\∀v,o.data≠.cell v
 keep:∀i h h',tn i h->(∀b∈fp,∀o,h.get? b=some o->h'.get? b=some o)->tn i h'
 item:∀(X:Cx),X.prog=P->X.w=w->X.K=K->X.calm=true->∀(i:Nat) (pins:List (Addr×Obj)) (s:E3) (σ:St) (H:Hp) (E:E2->E3->Prop),Inv X pins σ H s->(∀b∈fp,cI X pins H b)->tn i s.heap->J.go i H->
  E8 (ED P w) X.A (pyNext (.ref it)) (fun r s1=>∃u,r=some u/\
   E8 (ED P w) X.A (letOwnedTupleGo tg (.ref it) u) (fun _ s2=>∃x H',Inv X pins σ H' s2/\RelV x u/\J.yld i H x H'/\tn (i+1) s2.heap/\∀b∈fp,H' b=none) E s1) E s
 done:∀(X:Cx),X.prog=P->X.w=w->X.K=K->X.calm=true->∀(i:Nat) (pins:List (Addr×Obj)) (s:E3) (σ:St) (H:Hp) (E:E2->E3->Prop),Inv X pins σ H s->(∀b∈fp,cI X pins H b)->tn i s.heap->J.stop i H->
  E8 (ED P w) X.A (pyNext (.ref it)) (fun r s1=>r=none/\Inv X pins σ H s1) E s
 self:∀(A:EX) (i:Nat) (s:E3) (Q:E2->E3->Prop) (E:E2->E3->Prop),tn i s.heap->Q (.ref it) s->E8 (ED P w) A (pyIter (.ref it)) Q E s
abbrev TI:=St->Hp->(It->Hp->Prop)->Prop
def PIE(X:Cx)(pins:List (Addr×Obj))(σ:St)(tg:Expr)(R:It->Hp->Prop)(itv:E2)(s2:E3):Prop:=
 ∃(it:Addr) (fp:List Addr) (tn:Nat->Heap->Prop) (J:It) (H':Hp),itv=.ref it/\Inv X pins σ H' s2/\Turn X.prog X.w X.K tg J fp it tn/\tn 0 s2.heap/\(∀b∈fp,cI X pins H' b)/\R J H'
def PI(X:Cx)(tg iter:Expr)(wi:TI):Prop:=
 ∀(pins:List (Addr×Obj)) (s:E3) (σ:St) (H:Hp) (R:It->Hp->Prop),Inv X pins σ H s->wi σ H R->
  E8 (ED X.prog X.w) X.A (eval iter X.env) (fun v s1=>E8 (ED X.prog X.w) X.A (pyIter v) (PIE X pins σ tg R) X.xe s1) X.xe s
theorem vU{M:Model}{A:EX}{E:E2->E3->Prop}{s:E3}{tg:Expr}{it:Addr}{u:E2}{o:Obj}{n:String}{vs:Array E2}{Q:Unit->E3->Prop}(ho:s.heap.get? it=some o)(hc:o.cls=.type n)(hd:o.data=.fields vs) (hn:["enumerate","zip","dict_itemiterator","dict_reverseitemiterator","odict_iterator","itertools.zip_longest","itertools.pairwise"].contains n=false) (hQ:Q () s):E8 M A (letOwnedTupleGo tg (.ref it) u) Q E s:=by
 unfold letOwnedTupleGo
 cases tg<;>first
  |exact E5 hQ
  |(cases u<;>first
   |exact E5 hQ
   |(refine cc (wpAny_load ho ?_)
     rw[hc,hd]
     show E8 M A (if(["enumerate","zip","dict_itemiterator","dict_reverseitemiterator","odict_iterator","itertools.zip_longest","itertools.pairwise"].contains n&&vs[0]?==some (Gg _))=true then _ else _) Q E s
     rw[if_neg (by intro h;rw[hn,Bool.false_and]at h;cases h)]
     exact E5 hQ))
def Itl(K:E1)(a:Addr):It:=
 ⟨fun i H=>∃xs x,SqL K H a xs/\xs[i]?=some x,fun i H x H'=>H'=H/\∀xs,SqL K H a xs->xs[i]?=some x,fun i H=>∃xs,SqL K H a xs/\xs.length<=i⟩
def Itt(K:E1)(a:Addr):It:=
 ⟨fun i H=>∃xs x,SqT K H a xs/\xs[i]?=some x,fun i H x H'=>H'=H/\∀xs,SqT K H a xs->xs[i]?=some x,fun i H=>∃xs,SqT K H a xs/\xs.length<=i⟩
def Itr(lo:Int)(n:Nat):It:=⟨fun i _=>i<n,fun i H x H'=>H'=H/\x=.int (lo+i),fun i _=>n<=i⟩
theorem tW{P:EF}{w:EZ}{K:E1}{tg:Expr}(a it:Addr):Turn P w K tg (Itl K a) [it] it (fun i h=>h.IsListIter it a i) where
 mem:=by simp
 obj:=fun i h st b hb=>by
  have e:b=it:=by simpa using hb
  subst e
  obtain⟨o,e,c,d⟩:=st
  exact⟨o,e,fun v z=>by rw[d]at z;cases z⟩
 keep:=fun i h h' st k=>st.at fun o e=>k it (by simp) o e
 item:=by
  intro X hP hw hK hc i pins s σ H E I hf st hg
  subst hP hw hK
  obtain⟨xs,x,hq,hx⟩:=hg
  obtain⟨its,rv,p,hz⟩:=I.list hq
  obtain⟨u,hu,ru⟩:=rv.get hx
  obtain⟨f0,f1,f2,f3,f4,f5⟩:=hf it (by simp)
  refine wpAny_pyNext_list_item st p.isList (x:=u) (by simpa using hu) fun h' st' sb=>?_
  have I1:Inv X pins σ H { s with heap:=h' }:=I.turned (t':=s.toks) (fun b o hb e=>(sb.2 b hb).trans e) f0 f1 f3 f4 f5
  obtain⟨o,e,c,d⟩:=id st'
  exact⟨u,rfl,vU (s:={ s with heap:=h' }) e c d (by decide) ⟨x,H,I1,ru,⟨rfl,fun ys hy=>by rw[I.d0 hy hq];exact hx⟩,st',fun b hb=>(hf b hb).1⟩⟩
 done:=by
  intro X hP hw hK hc i pins s σ H E I hf st hg
  subst hP hw hK
  obtain⟨xs,hq,hx⟩:=hg
  obtain⟨its,rv,p,hz⟩:=I.list hq
  obtain⟨f0,f1,f2,f3,f4,f5⟩:=hf it (by simp)
  have hl:=rv.length
  exact wpAny_pyNext_list_end (I.ok.hd hc) st p.isList (by simp;omega) fun h' eb=>⟨rfl,I.turned (t':=s.toks) (fun b o hb e=>eb b o hb e) f0 f1 f3 f4 f5⟩
 self:=fun _ _ _ _ _ st h=>wpAny_pyIter_listiter st h
theorem qv{P:EF}{w:EZ}{K:E1}{tg:Expr}(a it:Addr):Turn P w K tg (Itt K a) [it] it (fun i h=>h.IsTupleIter it a i) where
 mem:=by simp
 obj:=fun i h st b hb=>by
  have e:b=it:=by simpa using hb
  subst e
  obtain⟨o,e,c,d⟩:=st
  exact⟨o,e,fun v z=>by rw[d]at z;cases z⟩
 keep:=fun i h h' st k=>st.at fun o e=>k it (by simp) o e
 item:=by
  intro X hP hw hK hc i pins s σ H E I hf st hg
  subst hP hw hK
  obtain⟨xs,x,hq,hx⟩:=hg
  obtain⟨its,rv,p,hz⟩:=I.tuple hq
  obtain⟨u,hu,ru⟩:=rv.get hx
  obtain⟨f0,f1,f2,f3,f4,f5⟩:=hf it (by simp)
  refine GK st (show s.heap.IsTuple a its.toArray from p) (x:=u) (by simpa using hu) fun h' st' sb=>?_
  have I1:Inv X pins σ H { s with heap:=h' }:=I.turned (t':=s.toks) (fun b o hb e=>(sb.2 b hb).trans e) f0 f1 f3 f4 f5
  obtain⟨o,e,c,d⟩:=id st'
  exact⟨u,rfl,vU (s:={ s with heap:=h' }) e c d (by decide) ⟨x,H,I1,ru,⟨rfl,fun ys hy=>by rw[I.sC hy hq];exact hx⟩,st',fun b hb=>(hf b hb).1⟩⟩
 done:=by
  intro X hP hw hK hc i pins s σ H E I hf st hg
  subst hP hw hK
  obtain⟨xs,hq,hx⟩:=hg
  obtain⟨its,rv,p,hz⟩:=I.tuple hq
  obtain⟨f0,f1,f2,f3,f4,f5⟩:=hf it (by simp)
  have hl:=rv.length
  exact wpAny_pyNext_tuple_end (I.ok.hd hc) st (show s.heap.IsTuple a its.toArray from p) (by simp;omega) fun h' eb=>⟨rfl,I.turned (t':=s.toks) (fun b o hb e=>eb b o hb e) f0 f1 f3 f4 f5⟩
 self:=fun _ _ _ _ _ st h=>wpAny_pyIter_tupleiter st h
theorem pI{P:EF}{w:EZ}{K:E1}{tg:Expr}(it:Addr)(lo:Int)(n:Nat):Turn P w K tg (Itr lo n) [it] it (fun i h=>IsRangeIter h it (lo+(i:Nat)*1) ((n:Int)-(i:Nat)) 1) where
 mem:=by simp
 obj:=fun i h st b hb=>by
  have e:b=it:=by simpa using hb
  subst e
  exact⟨_,st,fun v z=>by
   have z':Data.fields _=Data.cell v:=z
   cases z'⟩
 keep:=fun i h h' st k=>k it (by simp) _ st
 item:=by
  intro X hP hw hK hc i pins s σ H E I hf st hg
  subst hP hw hK
  obtain⟨f0,f1,f2,f3,f4,f5⟩:=hf it (by simp)
  have W:=Walks.range (prog:=X.prog) (w:=X.w) (I.ok.hd hc) it lo 1 n
  refine W.item i s _ _ hg st fun v h' tk hv st' kk=>?_
  obtain⟨t,rfl⟩:=hv
  have I1:Inv X pins σ H { s with heap:=h',toks:=tk }:=I.turned (fun b o hb e=>kk b o (by simpa using hb) e) f0 f1 f3 f4 f5
  refine⟨_,rfl,vU (s:={ s with heap:=h',toks:=tk }) (n:="range_iterator") st' rfl rfl (by decide) ⟨.int (lo+i),H,I1,⟨t,?_⟩,⟨rfl,rfl⟩,st',fun b hb=>(hf b hb).1⟩⟩
  rw[Int.mul_one]
 done:=by
  intro X hP hw hK hc i pins s σ H E I hf st hg
  subst hP hw hK
  obtain⟨f0,f1,f2,f3,f4,f5⟩:=hf it (by simp)
  exact wpAny_pyNext_range_end (I.ok.hd hc) st (by have:n<=i:=hg;omega) fun h' eb=>⟨rfl,I.turned (t':=s.toks) (fun b o hb e=>eb b o hb e) f0 f1 f3 f4 f5⟩
 self:=fun _ _ _ _ _ st h=>wpAny_pyIter_rangeiter st h
section
variable{X:Cx}{tg:Expr}
theorem vD{pins:List (Addr×Obj)}{σ:St}{H:Hp}{s:E3}{R:It->Hp->Prop}{E:E2->E3->Prop}{lo hi:Int}{t u v:Tok}{tk:Nat}(I:Inv X pins σ H s)(h1:-(2^62)<=lo)(h2:lo<2^62)(h3:-(2^62)<=hi)(h4:hi<2^62)
 (q:R (Itr lo (hi-lo).toNat) H):E8 (ED X.prog X.w) X.A (pyIter (.ref s.heap.objs.size)) (PIE X pins σ tg R) E { s with heap:=s.heap.push { cls:=.type "range",data:=.fields #[.int lo t,.int hi u,.int 1 v] },toks:=tk }:=by
 refine wpAny_pyIter_range (IsRange.new ..) (small_one h1 h2 h3 h4) ?_
 have I1:Inv X pins σ H { s with heap:=s.heap.push { cls:=.type "range",data:=.fields #[.int lo t,.int hi u,.int 1 v] },toks:=tk }:=I.kept fun b o e=>E4 _ e
 refine⟨(s.heap.push { cls:=.type "range",data:=.fields #[.int lo t,.int hi u,.int 1 v] }).objs.size,[(s.heap.push { cls:=.type "range",data:=.fields #[.int lo t,.int hi u,.int 1 v] }).objs.size],_,_,H,rfl,
  I1.kept (t':=tk) fun b o e=>E4 _ e,pI _ lo (hi-lo).toNat,?_,fun b hb=>?_,q⟩
 ·have e1:lo+((0:Nat):Int)*1=lo:=by simp
  have e2:(((hi-lo).toNat:Nat):Int)-((0:Nat):Int)=Builtin.Range.rangeSize lo hi 1:=by rw[rangeSize_one];split<;>omega
  show IsRangeIter _ _ (lo+((0:Nat):Int)*1) ((((hi-lo).toNat:Nat):Int)-((0:Nat):Int)) 1
  rw[e1,e2]
  exact EC _ rfl
 ·have e:b=(s.heap.push { cls:=.type "range",data:=.fields #[.int lo t,.int hi u,.int 1 v] }).objs.size:=by simpa using hb
  subst e
  exact I1.p5 (E9 _) (I1.hok.fresh (E9 _))
def Cm(ta:TA):TI:=fun σ H R=>ta σ H fun vs H1=>∃j:Int,vs=[.int j]/\-(2^62)<=j/\j<2^62/\R (Itr 0 j.toNat) H1
theorem lB{a:Expr}{ta:TA}{p pos:Pos}(hg:Gl X "range")(hm:X.mg "range"=none)(ha:PA X [a] ta)(hs:EH [a] X.env=[(false,eval a X.env)]:=by rfl):PI X tg (.Call (.Name "range" p) [a] [] pos) (Cm ta):=by
 intro pins s σ H R I h;refine Call_ (fx I hg hm boot_range (Gn (thn (ha pos pins s σ H _ I h) fun us s1 zz37_0=>?_) hs rfl));obtain⟨vs,H1,I1,r1,q1⟩:=zz37_0;obtain⟨j,e,q1,q2,q⟩:=q1;subst e;cases r1 with
 |cons r rr=>
  cases rr
  obtain⟨t,rfl⟩:=r
  exact call_range_1 (vD I1 (by omega) (by omega) q1 q2 (by simpa using q))
def El(wi:TI)(g:TG)(tb:TS):TS:=fun D σ H=>wi σ H fun J H1=>∃W:Nat->Nat->St->Hp->Prop,(∃m,W 0 m σ H1)/\∀i m σ H,W i m σ H->
 (J.stop i H/\D.nx σ H)\/(J.go i H/\∃N:St->Hp->Prop,(∀σ' H',N σ' H'->∃m',m'<m/\W (i+1) m' σ' H')/\∀x H',J.yld i H x H'->g x σ H' fun σ2 H2=>tb { D with nx:=N,ct:=N,bk:=D.nx } σ2 H2)
def ib(fp:List Addr)(h:Heap):List (Addr×Obj):=fp.filterMap fun b=>(h.get? b).map fun o=>(b,o)
theorem cB{fp:List Addr}{h:Heap}{b:Addr}{o:Obj}(hb:b∈fp)(e:h.get? b=some o):(b,o)∈ib fp h:=List.mem_filterMap.mpr ⟨b,hb,by rw[e];rfl⟩
theorem tU{fp:List Addr}{h:Heap}{p:Addr×Obj}(hp:p∈ib fp h):p.1∈fp/\h.get? p.1=some p.2:=by
 obtain⟨b,hb,e⟩:=List.mem_filterMap.mp hp;cases q:h.get? b with
 |none=>rw[q]at e;cases e
 |some o=>
  rw[q]at e
  have e':(b,o)=p:=Option.some.inj e
  subst e'
  exact⟨hb,q⟩
theorem Inv.pinned{pins:List (Addr×Obj)}{σ:St}{H:Hp}{s:E3}{fp:List Addr}(I:Inv X pins σ H s)(hf:∀b∈fp,cI X pins H b)(ho:∀b∈fp,∃o,s.heap.get? b=some o/\∀v,o.data≠.cell v):Inv X (pins++ib fp s.heap) σ H s:=
 I.rM fun p hp=>(EM.mp hp).elim (fun z=>I.pin p (F7 _ z)) fun z=>by
  obtain⟨hb,e⟩:=tU z
  obtain⟨f0,f1,f2,_⟩:=hf p.1 hb
  obtain⟨o,e',d⟩:=ho p.1 hb
  rw[e]at e';cases e'
  exact⟨e,f0,f1,f2,d⟩
theorem Inv.fu{pins pl:List (Addr×Obj)}{σ:St}{H:Hp}{s:E3}(I:Inv X (pins++pl) σ H s):Inv X pins σ H s:=I.rM fun p hp=>I.pin p (F7 _ (List.mem_append_left _ hp))
theorem wU{iter:Expr}{body:List Stmt}{wi:TI}{g:TG}{tb:TS}{pos:Pos}(hp:PassesOwn (ED X.prog X.w) X.A X.env X.xe)(hc:X.calm=true)(hi:PI X tg iter wi)(hg:PG X tg g)(hb:PSs X body tb)
 (hs:∀x,FG iter X.env x=pure x:=by intro _;rfl):PS X (.For tg iter body [] pos) (El wi g tb):=by
 intro pins s σ H D I h
 refine wpAny_For (thn (hi pins s σ H _ I h) fun v s1 h1=>thn h1 fun itv s2 h2=>?_) hs
 obtain⟨it,fp,tn,J,H2,e,I2,T,st2,f2,W,⟨m0,w0⟩,turn⟩:=h2
 subst e
 have stat:∀{H':Hp},(∀b∈fp,H' b=none)->∀b∈fp,cI X pins H' b:=fun hn b hb=>⟨hn b hb,(f2 b hb).2⟩
 refine codeAny_forLoop_any (fun n s'=>∃i σ' H',Inv X pins σ' H' s'/\tn i s'.heap/\(∀b∈fp,H' b=none)/\W i n σ' H') ?_ m0 ⟨0,σ,H2,I2,st2,fun b hb=>(f2 b hb).1,w0⟩
 rintro n s3 ⟨i,σ3,H3,I3,st3,fr3,w3⟩
 rcases turn i n σ3 H3 w3 with⟨stop,qn⟩|⟨go,N,hN,step⟩
 ·refine Hd hp (thn (T.done X rfl rfl rfl hc i pins s3 σ3 H3 X.xe I3 (stat fr3) st3 stop) fun r s4 zz38_0=>?_)
  obtain⟨hr,I4⟩:=zz38_0
  subst hr
  exact wpAny_execs_nil ⟨σ3,H3,I4,qn⟩
 ·refine Hd hp (thn (T.item X rfl rfl rfl hc i pins s3 σ3 H3 X.xe I3 (stat fr3) st3 go) fun r s4 zz39_0=>?_)
  obtain⟨u,hr,h4⟩:=zz39_0
  subst hr
  refine Hd hp (thn h4 fun _ s5 zz40_0=>?_)
  obtain⟨x,H5,I5,r5,y5,st5,fr5⟩:=zz40_0
  have I5':=I5.pinned (stat fr5) (T.obj _ _ st5)
  refine Hd hp (thn (hg _ s5 σ3 H5 x u _ I5' r5 (step x H5 y5)) fun _ s6 zz41_0=>?_)
  obtain⟨σ6,H6,I6,q6⟩:=zz41_0
  refine Hd hp (thn (hb _ s6 σ6 H6 _ I6 q6) fun f s7 q7=>?_)
  have again:∀{σ7:St} {H7:Hp},Inv X (pins++ib fp s5.heap) σ7 H7 s7->N σ7 H7->∃m,m<n/\∃i σ' H',Inv X pins σ' H' s7/\tn i s7.heap/\(∀b∈fp,H' b=none)/\W i m σ' H':=fun{σ7 H7} I7 n7=>by
   obtain⟨m',hm,w7⟩:=hN σ7 H7 n7
   refine⟨m',hm,i+1,σ7,H7,I7.fu,T.keep _ _ _ st5 fun b hb o e=>(I7.pin (b,o) (F7 _ (F7 _ (cB hb e)))).1,fun b hb=>?_,w7⟩
   obtain⟨o,e,d⟩:=T.obj _ _ st5 b hb
   exact(I7.pin (b,o) (F7 _ (F7 _ (cB hb e)))).2.1
  cases f with
  |next=>obtain⟨σ7,H7,I7,n7⟩:=q7;exact again I7 n7
  |cont=>obtain⟨σ7,H7,I7,n7⟩:=q7;exact again I7 n7
  |brk=>obtain⟨σ7,H7,I7,q7⟩:=q7;exact⟨σ7,H7,I7.fu,q7⟩
  |ret v=>obtain⟨x7,σ7,H7,I7,r7,q7⟩:=q7;exact⟨x7,σ7,H7,I7.fu,r7,q7⟩
end
theorem tO{lo:Int}{n:Nat}{g:TG}{tb:TS}{D:Ends}{σ:St}{H:Hp}(Pv:Nat->St->Hp->Prop)(h0:Pv 0 σ H)
 (hs:∀i σ H,i<n->Pv i σ H->g (.int (lo+i)) σ H fun σ2 H2=>tb { D with nx:=Pv (i+1),ct:=Pv (i+1),bk:=D.nx } σ2 H2) (hd:∀σ H,Pv n σ H->D.nx σ H) :
 ∃W:Nat->Nat->St->Hp->Prop,(∃m,W 0 m σ H)/\∀i m σ H,W i m σ H->
  ((Itr lo n).stop i H/\D.nx σ H)\/((Itr lo n).go i H/\∃N:St->Hp->Prop,(∀σ' H',N σ' H'->∃m',m'<m/\W (i+1) m' σ' H')/\∀x H',(Itr lo n).yld i H x H'->g x σ H' fun σ2 H2=>tb { D with nx:=N,ct:=N,bk:=D.nx } σ2 H2):=by
 refine⟨fun i m σ H=>m=n-i/\i<=n/\Pv i σ H,⟨n,by simp,Fz _,h0⟩,?_⟩
 rintro i m σ H ⟨rfl,hi,p⟩
 by_cases hlt:i<n
 ·refine .inr ⟨hlt,Pv (i+1),fun σ' H' p'=>⟨n-(i+1),by omega,rfl,hlt,p'⟩,fun x H' y=>?_⟩
  obtain⟨e,y⟩:=y
  subst e y
  exact hs i σ _ hlt p
 ·have e:i=n:=by omega
  subst e
  exact .inl ⟨E9 _,hd σ H p⟩
abbrev R2:=V->V->Hp->VK->Prop
def OpR(X:Cx)(f:E2->E2->Sem E2)(r:R2):Prop:=
 ∀(pins:List (Addr×Obj)) (s:E3) (σ:St) (H:Hp) (x y:V) (v u:E2) (Q:VK),Inv X pins σ H s->RelV x v->RelV y u->r x y H Q->
  E8 (ED X.prog X.w) X.A (f v u) (EP X pins σ Q) X.xe s
def UnR(X:Cx)(f:E2->Sem E2)(r:V->Hp->VK->Prop):Prop:=
 ∀(pins:List (Addr×Obj)) (s:E3) (σ:St) (H:Hp) (x:V) (v:E2) (Q:VK),Inv X pins σ H s->RelV x v->r x H Q->
  E8 (ED X.prog X.w) X.A (f v) (EP X pins σ Q) X.xe s
def bE(X:Cx)(f:E2)(r:List V->Hp->VK->Prop):Prop:=
 ∀(pins:List (Addr×Obj)) (s:E3) (σ:St) (H:Hp) (xs:List V) (us:List E2) (Q:VK),Inv X pins σ H s->Vals xs us->r xs H Q->
  E8 (ED X.prog X.w) X.A (call f us) (EP X pins σ Q) X.xe s
def tOp(r:R2)(ta tb:TE):TE:=fun σ H Q=>ta σ H fun x H1=>tb σ H1 fun y H2=>r x y H2 Q
def tUn(r:V->Hp->VK->Prop)(ta:TE):TE:=fun σ H Q=>ta σ H fun x H1=>r x H1 Q
def rI(C:Int->Int->Prop)(g:Int->Int->V):R2:=fun x y H Q=>∃i j,x=.int i/\y=.int j/\C i j/\Q (g i j) H
def rI0(g:Int->Int->V):R2:=fun x y H Q=>∃i j,x=.int i/\y=.int j/\Q (g i j) H
def rU(g:Int->V):V->Hp->VK->Prop:=fun x H Q=>∃i,x=.int i/\Q (g i) H
section
variable{X:Cx}{a b c:Expr}{ta tb tc:TE}{pos:Pos}
theorem z8(ha:PE X a ta)(hb:PE X b tb){pins:List (Addr×Obj)}{s:E3}{σ:St}{H:Hp}{R:V->V->Hp->Prop}(I:Inv X pins σ H s) (h:ta σ H fun x H1=>tb σ H1 fun y H2=>R x y H2) {Q:E2->E3->Prop} {f:E2->E2->Sem E2} (hf:∀v u s2 x y H2,Inv X pins σ H2 s2->RelV x v->RelV y u->R x y H2->E8 (ED X.prog X.w) X.A (f v u) Q X.xe s2) : E8 (ED X.prog X.w) X.A (eval a X.env) (fun v s₁=>E8 (ED X.prog X.w) X.A (eval b X.env) (fun u s₂=>E8 (ED X.prog X.w) X.A (f v u) Q X.xe s₂) X.xe s₁) X.xe s:=by refine thn (ha pins s σ H _ I h) fun v s1 zz43_0=>?_;obtain⟨x,H1,I1,r1,q1⟩:=zz43_0;refine thn (hb pins s1 σ H1 _ I1 q1) fun u s2 zz44_0=>?_;obtain⟨y,H2,I2,r2,q2⟩:=zz44_0;exact hf v u s2 x y H2 I2 r1 r2 q2
theorem Ct{op:Operator}{r:R2}(ho:OpR X (Hk op) r)(ha:PE X a ta)(hb:PE X b tb):PE X (.BinOp a op b pos) (tOp r ta tb):=by intro pins s σ H Q I h;exact wpAny_BinOp (z8 ha hb I h fun v u s2 x y H2 I2 rx ry q=>ho pins s2 σ H2 x y v u Q I2 rx ry q)
theorem CZ{op:UnaryOp}{r:V->Hp->VK->Prop}(ho:UnR X (unaryOp op) r)(ha:PE X a ta):PE X (.UnaryOp op a pos) (tUn r ta):=by intro pins s σ H Q I h;exact UnaryOp_ (thn (ha pins s σ H _ I h) fun v s1 zz45_0=>by obtain⟨x,H1,I1,r1,q1⟩:=zz45_0;exact(ho pins s1 σ H1 x v Q I1 r1 q1))
theorem opI{f:E2->E2->Sem E2}{C:Int->Int->Prop}{g:Int->Int->Int} (rule:∀(i j:Int) (t u:Tok) (s:E3) (Q:E2->E3->Prop) (E:E2->E3->Prop),C i j->Q (.int (g i j) s.toks) { s with toks:=s.toks+1 }->E8 (ED X.prog X.w) X.A (f (.int i t) (.int j u)) Q E s) : OpR X f (rI C fun i j=>.int (g i j)):=by intro pins s σ H x y v u Q I rx ry h;obtain⟨i,j,rfl,rfl,hc,q⟩:=h;obtain⟨t,rfl⟩:=rx;obtain⟨t',rfl⟩:=ry;exact rule i j t t' s _ _ hc ⟨.int (g i j),H,I.tok _,⟨_,rfl⟩,q⟩
theorem B4{f:E2->E2->Sem E2}{g:Int->Int->Int} (rule:∀(i j:Int) (t u:Tok) (s:E3) (Q:E2->E3->Prop) (E:E2->E3->Prop),Q (.int (g i j) s.toks) { s with toks:=s.toks+1 }->E8 (ED X.prog X.w) X.A (f (.int i t) (.int j u)) Q E s) : OpR X f (rI0 fun i j=>.int (g i j)):=by intro pins s σ H x y v u Q I rx ry h;obtain⟨i,j,rfl,rfl,q⟩:=h;obtain⟨t,rfl⟩:=rx;obtain⟨t',rfl⟩:=ry;exact rule i j t t' s _ _ ⟨.int (g i j),H,I.tok _,⟨_,rfl⟩,q⟩
theorem BQ{f:E2->E2->Sem E2}{g:Int->Int->Bool} (rule:∀(i j:Int) (t u:Tok) (s:E3) (Q:E2->E3->Prop) (E:E2->E3->Prop),Q (.bool (g i j)) s->E8 (ED X.prog X.w) X.A (f (.int i t) (.int j u)) Q E s) : OpR X f (rI0 fun i j=>.bl (g i j)):=by intro pins s σ H x y v u Q I rx ry h;obtain⟨i,j,rfl,rfl,q⟩:=h;obtain⟨t,rfl⟩:=rx;obtain⟨t',rfl⟩:=ry;exact rule i j t t' s _ _ ⟨.bl (g i j),H,I,rfl,q⟩
def Cz(i j:Int):Prop:=0<=j/\j<=1000000/\i.natAbs<2^64
theorem BG:OpR X (Hk .Add) (rI0 fun i j=>.int (i+j)):=B4 fun _ _ _ _ _ _ _ q=>add_int q
theorem Be:OpR X (Hk .Sub) (rI0 fun i j=>.int (i-j)):=B4 fun _ _ _ _ _ _ _ q=>sub_int q
theorem yo:OpR X (Hk .Mod) (rI (fun _ j=>j≠0) fun i j=>.int (i.fmod j)):=opI fun _ _ _ _ _ _ _ hc q=>mod_int' hc q
theorem AQ:OpR X (Hk .Pow) (rI Cz fun i j=>.int (i^j.toNat)):=opI fun _ _ _ _ _ _ _ hc q=>pow_int_small hc.1 hc.2.1 hc.2.2 q
theorem unI{f:E2->Sem E2}{g:Int->Int} (rule:∀(i:Int) (t:Tok) (s:E3) (Q:E2->E3->Prop) (E:E2->E3->Prop),Q (.int (g i) s.toks) { s with toks:=s.toks+1 }->E8 (ED X.prog X.w) X.A (f (.int i t)) Q E s) : UnR X f (rU fun i=>.int (g i)):=by intro pins s σ H x v Q I rx h;obtain⟨i,rfl,q⟩:=h;obtain⟨t,rfl⟩:=rx;exact rule i t s _ _ ⟨.int (g i),H,I.tok _,⟨_,rfl⟩,q⟩
theorem Bf:UnR X (unaryOp .USub) (rU fun i=>.int (-i)):=unI fun _ _ _ _ _ q=>neg_int q
end
section
variable{X:Cx}{a b c:Expr}{ta tb tc:TE}{pos:Pos}
theorem CK:OpR X (Fm .Lt) (rI0 fun i j=>.bl (decide (i<j))):=BQ fun _ _ _ _ _ _ _ q=>lt_int q
theorem CF:OpR X (Fm .Gt) (rI0 fun i j=>.bl (decide (j<i))):=BQ fun _ _ _ _ _ _ _ q=>gt_int q
theorem B2:OpR X (Fm .GtE) (rI0 fun i j=>.bl (decide (j<=i))):=BQ fun _ _ _ _ _ _ _ q=>ge_int q
theorem OpR.or{f:E2->E2->Sem E2}{r r':R2}(h:OpR X f r)(h':OpR X f r'):OpR X f (fun x y H Q=>r x y H Q\/r' x y H Q):=by
 intro pins s σ H x y v u Q I rx ry q;rcases q with q|q
 ·exact h pins s σ H x y v u Q I rx ry q
 ·exact h' pins s σ H x y v u Q I rx ry q
theorem uk(b:Expr){op:CmpOp}(h:op≠.In:=by decide)(h2:op≠.NotIn:=by decide):behindInMarks op b=false:=by
 have e1:(op==CmpOp.In)=false:=by cases op<;>first|rfl|exact absurd rfl h
 have e2:(op==CmpOp.NotIn)=false:=by cases op<;>first|rfl|exact absurd rfl h2
 cases b<;>simp[behindInMarks,e1,e2]
theorem yV{op:CmpOp}{r:R2}(ho:OpR X (Fm op) r)(ha:PE X a ta)(hb:PE X b tb)(hm:behindInMarks op b=false):PE X (.Compare a [op] [b] pos) (tOp r ta tb):=by intro pins s σ H Q I h;exact wpAny_Compare1 (z8 ha hb I h fun v u s2 x y H2 I2 rx ry q=>ho pins s2 σ H2 x y v u Q I2 rx ry q) hm
def zG(t:TE):TT:=fun σ H Q=>t σ H fun x H'=>∃k,x=.bl k/\Q k H'
theorem xn{op:CmpOp}{r:R2}(ho:OpR X (Fm op) r)(ha:PE X a ta)(hb:PE X b tb)(hm:behindInMarks op b=false):PT X (.Compare a [op] [b] pos) (zG (tOp r ta tb)):=by intro pins s σ H Q I h;refine wpAny_isTrue_Compare1 (thn (ha pins s σ H _ I h) fun v s1 ⟨x,H1,I1,r1,q1⟩=>thn (hb pins s1 σ H1 _ I1 q1) fun u s2 ⟨y,H2,I2,r2,q2⟩=>thn (ho pins s2 σ H2 x y v u _ I2 r1 r2 q2) fun c s3 ⟨z,H3,I3,r3,k,e,q3⟩=>?_) hm;subst e;cases r3;exact Hj ⟨H3,I3,q3⟩
theorem ji:(ER:Nat)<2^63:=by rw[Gi];decide
theorem vals1{x:V}{us:List E2}(r:Vals [x] us):∃u,us=[u]/\RelV x u:=by
 cases r with
 |cons r1 r2=>cases r2;exact⟨_,rfl,r1⟩
theorem vals2{x y:V}{us:List E2}(r:Vals [x,y] us):∃u w',us=[u,w']/\RelV x u/\RelV y w':=by
 cases r with
 |cons r1 r2=>
  cases r2 with
  |cons r3 r4=>cases r4;exact⟨_,_,rfl,r1,r3⟩
theorem wt:bE X (.builtin "abs") (fun xs H Q=>∃i,xs=[.int i]/\Q (.int (if i<0 then -i else i)) H):=by intro pins s σ H xs us Q I r h;obtain⟨i,rfl,q⟩:=h;obtain⟨u,rfl,t,rfl⟩:=vals1 r;exact call_abs_int fun u tk=>⟨.int (if i<0 then -i else i),H,I.tok _,⟨_,rfl⟩,q⟩
theorem ua(hc:X.calm=true):bE X (.builtin "max") (fun xs H Q=>∃i j,xs=[.int i,.int j]/\Q (.int (if j>i then j else i)) H):=by
 intro pins s σ H xs us Q I r h;obtain⟨i,j,rfl,q⟩:=h;obtain⟨u,w',rfl,⟨t,rfl⟩,⟨t',rfl⟩⟩:=vals2 r;refine max_two_ints (I.ok.hd hc) fun h' tk k=>⟨_,H,I.kept k,?_,q⟩;by_cases hj:j>i
 ·rw[if_pos hj,if_pos hj];exact⟨_,rfl⟩
 ·rw[if_neg hj,if_neg hj];exact⟨_,rfl⟩
theorem tf(hc:X.calm=true):bE X (.builtin "min") (fun xs H Q=>∃i j,xs=[.int i,.int j]/\Q (.int (if j<i then j else i)) H):=by
 intro pins s σ H xs us Q I r h;obtain⟨i,j,rfl,q⟩:=h;obtain⟨u,w',rfl,⟨t,rfl⟩,⟨t',rfl⟩⟩:=vals2 r;refine min_two_ints (I.ok.hd hc) fun h' tk k=>⟨_,H,I.kept k,?_,q⟩;by_cases hj:j<i
 ·rw[if_pos hj,if_pos hj];exact⟨_,rfl⟩
 ·rw[if_neg hj,if_neg hj];exact⟨_,rfl⟩
theorem sX:bE X (.type "int") (fun xs H Q=>(∃i,xs=[.int i]/\Q (.int i) H)\/∃k,xs=[.bl k]/\Q (.int (if k then 1 else 0)) H):=by
 intro pins s σ H xs us Q I r h;rcases h with⟨i,rfl,q⟩|⟨k,rfl,q⟩
 ·obtain⟨u,rfl,t,rfl⟩:=vals1 r;exact call_int_int ⟨.int i,H,I,⟨_,rfl⟩,q⟩
 ·obtain⟨u,rfl,r1⟩:=vals1 r;cases r1;exact call_int_bool ⟨.int (if k then 1 else 0),H,I.tok _,⟨_,rfl⟩,q⟩
end
theorem lE{h:Heap}{dx:Addr}{mA:Str->Option E2}(n:h.Ns1 dx mA):∃od,h.get? dx=some od/\∀name,PySem.W.lookIn name od=some (mA name):=by
 obtain⟨o,es,ep,ho,hd,hk,_,hm⟩:=n;refine⟨o,ho,fun name=>?_⟩;have e:=hm name;unfold nsFind findBy at e;rw[<-Array.find?_toList]at e;unfold PySem.W.lookIn;rw[hd];dsimp only;split
 ·rename_i y q;rw[q]at e;exact congrArg some e
 ·rename_i q;rw[q]at e;have a:es.toList.any (·.refKey)=false:=by rw[List.any_eq_false];intro y hy;obtain⟨z,t,hkey⟩:=hk y (Array.mem_toList_iff.mp hy);simp[DictEntry.refKey,hkey]
  have a':¬es.toList.any (·.refKey)=true:=by rw[a];exact ET
  rw[if_neg a'];exact congrArg some e
def i9(f:Str)(v:V):List (Str×V)->List (Str×V)
 |[]=>[(f,v)]
 |(g,x)::r=>if g=f then(g,v)::r else(g,x)::i9 f v r
theorem iq(f g:Str)(v:V):∀fs:List (Str×V),(i9 f v fs).lookup g=if g=f then some v else fs.lookup g
 |[]=>by
  show GS g [(f,v)]=_
  by_cases h:g=f
  ·have hb:(g==f)=true:=beq_iff_eq.mpr h
   simp only[GS,hb,if_pos h]
  ·have hb:(g==f)=false:=beq_eq_false_iff_ne.mpr h
   simp only[GS,hb,if_neg h]
 |(k,x)::r=>by
  have ih:=iq f g v r
  rw[show i9 f v ((k,x)::r)=(if k=f then(k,v)::r else(k,x)::i9 f v r)from rfl]
  by_cases hk:k=f
  ·rw[if_pos hk]
   by_cases h:g=k
   ·have hb:(g==k)=true:=beq_iff_eq.mpr h
    simp only[GS,hb,if_pos (h.trans hk)]
   ·have hb:(g==k)=false:=beq_eq_false_iff_ne.mpr h
    simp only[GS,hb,if_neg (fun e:g=f=>h (e.trans hk.symm))]
  ·rw[if_neg hk]
   by_cases h:g=k
   ·have hb:(g==k)=true:=beq_iff_eq.mpr h
    simp only[GS,hb,if_neg (fun e:g=f=>hk (h.symm.trans e))]
   ·have hb:(g==k)=false:=beq_eq_false_iff_ne.mpr h
    simp only[GS,hb]
    exact ih
theorem gY(f:Str)(v:V):∀fs:List (Str×V),f∈(i9 f v fs).map (·.1)/\∀g,g∈fs.map (·.1)->g∈(i9 f v fs).map (·.1)
 |[]=>⟨by simp[i9],fun g h=>by simp at h⟩
 |(k,x)::r=>by
  obtain⟨i1,i2⟩:=gY f v r
  rw[show i9 f v ((k,x)::r)=(if k=f then(k,v)::r else(k,x)::i9 f v r)from rfl]
  by_cases hk:k=f
  ·rw[if_pos hk]
   subst hk
   exact⟨by simp,fun g h=>by simpa using h⟩
  ·rw[if_neg hk]
   refine⟨?_,fun g h=>?_⟩
   ·rw[EJ]
    exact EU _ i1
   ·rw[EJ]at h ⊢
    rcases Fc.mp h with e|e
    ·exact Fc.mpr (.inl e)
    ·exact EU _ (i2 g e)
theorem oo.some_of{v:V}{o:Option E2}(r:oo (some v) o):∃u,o=some u/\RelV v u:=by
 cases o with
 |none=>exact(show False from r).elim
 |some u=>exact⟨u,rfl,r⟩
theorem sO{v:V}{u:E2}(r:RelV v u):PySem.W.handedIn u=true:=by
 cases v with
 |non=>cases (show u=Fi from r);rfl
 |bl b=>cases (show u=FY b from r);rfl
 |int i=>obtain⟨t,e⟩:=(show ∃t,u=Value.int i t from r);cases e;rfl
 |str x=>obtain⟨t,e⟩:=(show ∃t,u=Value.str x t from r);cases e;rfl
 |byt b=>obtain⟨t,e⟩:=(show ∃t,u=Value.bytes b t from r);cases e;rfl
 |flt b=>obtain⟨t,e⟩:=(show ∃t,u=Value.float b t from r);cases e;rfl
 |ref a=>cases (show u=F6 a from r);rfl
 |ty n=>cases (show u=Value.type n from r);rfl
section
variable{X:Cx}{pins:List (Addr×Obj)}{σ:St}{H:Hp}{s:E3}{a C dx:Addr}{fs:List (Str×V)}{f:Str}{v:V}{A:EX}{E:E2->E3->Prop}
theorem yg{prog:EF}{w:EZ}{env:Env}{e:Expr}{f:Str}{pos:Pos}{s:E3}{Q:E2->E3->Prop}(hb:attributeBase e f env (eval e env)=eval e env) (h:E8 (ED prog w) A (eval e env) (fun o s₁=>E8 (ED prog w) A (getAttr o f true) Q E s₁) E s):E8 (ED prog w) A (eval (.Attribute e f pos) env) Q E s:=Attribute_any_ h (by rw[arm_eval_Attribute,hb])
end
structure Room(k:Nat)(A:EX):Prop where
 hd:A.handled=none
 dp:A.depth+3*k+5<recursionLimit
 un:A.units+16*k+200<FQ
theorem Room.mono{j k:Nat}{A:EX}(r:Room k A)(h:j<=k):Room j A:=⟨r.hd,by have:=r.dp;omega,by have:=r.un;omega⟩
theorem Room.deeper{k:Nat}{A:EX}(r:Room (k+1) A)(env:Env):Room k (A.deeper env):=⟨r.hd,by have:=r.dp;show A.depth+1+3*k+5<_;omega,by have:=r.un;show A.units+3+16*k+200<_;omega⟩
theorem Room.in1{k:Nat}{A:EX}(r:Room (k+1) A):Room k A.in1:=⟨r.hd,by have:=r.dp;show A.depth+3*k+5<_;omega,by have:=r.un;show A.units+1+16*k+200<_;omega⟩
theorem ql{A:EX}{C:Addr}{us:List E2}{kw:List (Str×E2)}:(A.under (.builtin "type.__call__" ⟨.ref C::us,kw⟩)).depth=A.depth+1:=by first|rfl|simp[Around.under,Code.weight,Code.isCreation,Code.isGuard,Code.isCaller,Code.frames,Code.isFrame,guardIds]
theorem pK{A:EX}{C:Addr}{us:List E2}{kw:List (Str×E2)}:(A.under (.builtin "type.__call__" ⟨.ref C::us,kw⟩)).units=A.units+1:=by first|rfl|simp[Around.under,Code.cUnits,Code.frames,Code.isFrame]
theorem Room.make{k:Nat}{A:EX}(r:Room (k+1) A)(C:Addr)(us:List E2)(kw:List (Str×E2)):Room k (A.under (.builtin "type.__call__" ⟨.ref C::us,kw⟩)):=⟨r.hd,by have:=r.dp;rw[ql];omega,by have:=r.un;rw[pK];omega⟩
theorem Room.depth{k:Nat}{A:EX}(r:Room k A):A.depth<recursionLimit:=by have:=r.dp;omega
theorem Room.units{k:Nat}{A:EX}(r:Room k A):A.units+64<FQ:=by have:=r.un;omega
def DD:TA:=fun _ H Q=>Q [] H
def uq(ta:TE)(tr:TA):TA:=fun σ H Q=>ta σ H fun x H1=>tr σ H1 fun xs H2=>Q (x::xs) H2
section
variable{X:Cx}{e:Expr}{es:List Expr}{te:TE}{t:TA}{pos:Pos}
theorem w8:PA X [] DD:=fun _ _ _ _ H Q I h=>Calls.spliced_nil ⟨[],H,I,.nil,h⟩
theorem mD(ha:PE X e te)(hr:PA X es t)(hs:EH (e::es) X.env=(false,eval e X.env)::EH es X.env:=by rfl):PA X (e::es) (uq te t):=by intro pos pins s σ H Q I h;rw[hs];show E8 _ _ (spliced ((false,eval e X.env)::G6 pos (EH es X.env))) _ _ s;refine Calls.spliced_cons (thn (ha pins s σ H _ I h) fun u s1 zz55_0=>?_);obtain⟨x,H1,I1,r1,q1⟩:=zz55_0;exact thn (hr pos pins s1 σ H1 _ I1 q1) fun us s2 zz56_0=>by obtain⟨xs,H2,I2,r2,q2⟩:=zz56_0;exact(⟨x::xs,H2,I2,.cons r1 r2,q2⟩)
def Ez(t:TA):TE:=fun σ H Q=>t σ H fun xs H1=>xs.length<=ER/\∀p,H1 p=none->Q (.ref p) (upd H1 p (.tup xs))
def Ed(t:TA):TE:=fun σ H Q=>t σ H fun xs H1=>xs.length<=ER/\∀p,H1 p=none->Q (.ref p) (upd H1 p (.lst xs))
theorem Bc{x1}(h:PA X es t):PE X (.Tuple es x1 pos) (Ez t):=by intro pins s σ H Q I hq;refine wpAny_Tuple_spliced (thn (h pos pins s σ H _ I hq) fun us s1 ⟨xs,H1,I1,r,z,q⟩=>⟨by rw[<-r.length];exact z,?_⟩);have hf:H1 s1.heap.objs.size=none:=I1.hok.fresh (E9 _);refine⟨.ref s1.heap.objs.size,upd H1 s1.heap.objs.size (.tup xs),I1.laid (t':=s1.toks) (fun b u e=>E4 _ e) (E9 _) ?_,rfl,q _ hf⟩;exact⟨z,us,r,⟨_,EC _ rfl,rfl,_,rfl⟩⟩
theorem Ao(h:PA X es t):PE X (.List es pos) (Ed t):=by intro pins s σ H Q I hq;refine wpAny_List_spliced (thn (h pos pins s σ H _ I hq) fun us s1 ⟨xs,H1,I1,r,z,q⟩=>⟨by rw[<-r.length];exact z,?_⟩);have hf:H1 s1.heap.objs.size=none:=I1.hok.fresh (E9 _);refine⟨.ref s1.heap.objs.size,upd H1 s1.heap.objs.size (.lst xs),I1.laid (t':=s1.toks) (fun b u e=>E4 _ e) (E9 _) ?_,rfl,q _ hf⟩;exact⟨z,us,0,r,EC _ rfl⟩
end
abbrev Sp:=List V->Hp->VK->XK->Prop
abbrev CXT:=List Env->Hp->E3->XK->E2->E3->Prop
structure Env0(P:EF)(w:EZ)(K:E1)(mg:Str->Option E2)(base:Heap)(A:EX)(outer:List Env)(s:E3)(H:Hp):Prop where
 frames:A.frames=some outer
 mod:Mod K mg base
 bs:∀b o,base.get? b=some o->s.heap.get? b=some o/\H b=none
 bsz:base.objs.size<=s.heap.objs.size
 eL:s.heap.FunFrames base outer
 frf:∀b∈frs outer,H b=none
 hok:HOk P w H s.heap
 bare:AllBare s.gens
def CE(outer:List Env)(P:EF)(w:EZ)(H:Hp)(s:E3)(Q:VK)(u:E2)(s':E3):Prop:=
 ∃v H',s'.os=s.os/\AllBare s'.gens/\Un (frs outer) [] H H' s.heap s'.heap/\HOk P w H' s'.heap/\RelV v u/\Q v H'
def CR(CX:CXT)(outer:List Env)(P:EF)(w:EZ)(H:Hp)(s:E3)(Q:VK)(E:XK)(r:Result)(s':E3):Prop:=
 match r with
 |.ok (.ret u)=>CE outer P w H s Q u s'
 |.ok _=>False
 |.error e=>CX outer H s E e s'
structure FnOk(P:EF)(w:EZ)(K:E1)(mg:Str->Option E2)(base:Heap)(CX:CXT)(k:Nat)(f:Addr)(fd:Hl)(ps:List Str)(sp:Sp):Prop where
 len:∀vs H Q E,sp vs H Q E->vs.length=ps.length
 run:∀(A:EX) (outer:List Env) (s:E3) (H:Hp) (args:Args) (us:List E2) (vs:List V) (Q:VK) (E:XK),Room k A->Env0 P w K mg base A outer s H->BindsTo s fd args (ps.zip us)->Vals vs us->sp vs H Q E->
  Hc (ED P w) A (.call (.ref f) args) (CR CX outer P w H s Q E) s
theorem FnOk.mono{P:EF}{w:EZ}{K:E1}{mg:Str->Option E2}{base:Heap}{CX:CXT}{j k:Nat}{f:Addr}{fd:Hl}{ps:List Str}{sp:Sp}(F:FnOk P w K mg base CX j f fd ps sp)(h:j<=k) : FnOk P w K mg base CX k f fd ps sp:=⟨F.len,fun A outer s H args us vs Q E hr=>F.run A outer s H args us vs Q E (hr.mono h)⟩
theorem Env0.make{P:EF}{w:EZ}{K:E1}{mg:Str->Option E2}{base:Heap}{A:EX}{outer:List Env}{s:E3}{H:Hp}(e:Env0 P w K mg base A outer s H)(C:Addr)(us:List E2)(kw:List (Str×E2)) : Env0 P w K mg base (A.under (.builtin "type.__call__" ⟨.ref C::us,kw⟩)) outer s H:=⟨by first|exact e.frames|(simpa[Around.under,Code.envs,Code.isFrame,pushEnvs]using e.frames),e.mod,e.bs,e.bsz,e.eL,e.frf,e.hok,e.bare⟩
section
variable{X:Cx}{pins:List (Addr×Obj)}{σ:St}{H:Hp}{s s':E3}
theorem Inv.y6(I:Inv X pins σ H s):Env0 X.prog X.w X.K X.mg X.base X.A X.stack s H:=⟨I.ok.frames,I.ok.mod,I.bs,Fh I.ok.bsz I.sz,I.stack,I.fH,I.hok,I.bare⟩
theorem Inv.after{Q:VK}{u:E2}(I:Inv X pins σ H s)(h:CE X.stack X.prog X.w H s Q u s'):EP X pins σ Q u s':=by obtain⟨v,H',os,bare,un,hok,r,q⟩:=h;obtain⟨hh,g,d,t,os'⟩:=s';obtain rfl:os'=s.os:=os;exact⟨v,H',I.call (h':=hh) (g':=g) (d':=d) (t':=t) (ch:=[]) un hok bare (fun b z=>absurd z (by simp)),r,q⟩
end
def Dr(sp:Sp)(dvs:List V)(E:XK)(t:TA):TE:=fun σ H Q=>t σ H fun vs H1=>sp (vs++dvs) H1 Q E
def Binds(K:E1)(fd:Hl)(ps:List Str)(ds:List E2):Prop:=
 ∀(s:E3) (us:List E2),K.In s.heap->(us++ds).length=ps.length->BindsTo s fd ⟨us,[]⟩ (ps.zip (us++ds))
theorem Binds.all{K:E1}{fd:Hl}{ps:List Str}(h:∀us:List E2,us.length=ps.length->bindArgs fd ⟨us,[]⟩=pure (ps.zip us)):Binds K fd ps []:=fun s us _ hl=>by rw[GL]at hl ⊢;exact .of_eq (h us hl)
def Passes(CX:CXT)(X:Cx)(E:XK):Prop:=∀(pins:List (Addr×Obj)) (σ:St) (H:Hp) (s:E3) (e:E2) (s':E3),Inv X pins σ H s->CX X.stack H s E e s'->X.xe e s'
section
variable{X:Cx}{CX:CXT}{k:Nat}{f C:Addr}{fd:Hl}{ps:List Str}{sp:Sp}{dvs:List V}{ds:List E2}{E:XK}{x m:Str}{p pos apos:Pos}{e o:Expr}{es:List Expr}{ta:TE}{t:TA}
theorem Ax{pins:List (Addr×Obj)}{σ:St}{H:Hp}{s:E3}{Q:VK}{us:List E2}{vs:List V}(F:FnOk X.prog X.w X.K X.mg X.base CX k f fd ps sp)(hr:Room k X.A)(hb:Binds X.K fd ps ds)(hd:Vals dvs ds)(hx:Passes CX X E)
 (I:Inv X pins σ H s) (r:Vals vs us) (h:sp (vs++dvs) H Q E):E8 (ED X.prog X.w) X.A (call (.ref f) us) (EP X pins σ Q) X.xe s:=by
 have r2:Vals (vs++dvs) (us++ds):=r.append hd
 have hl:(us++ds).length=ps.length:=by rw[<-r2.length];exact F.len _ _ _ _ h
 refine wpAny_call (codeAny_mono (F.run X.A X.stack s H ⟨us,[]⟩ (us++ds) (vs++dvs) Q E hr I.y6 (hb s us I.kIn hl) r2 h) fun r s' hq=>?_)
 cases r with
 |error e=>exact hx pins σ H s e s' I hq
 |ok fl=>
  cases fl with
  |ret u=>exact I.after hq
  |next=>exact FC hq
  |brk=>exact FC hq
  |cont=>exact FC hq
theorem ya(F:FnOk X.prog X.w X.K X.mg X.base CX k f fd ps sp)(hr:Room k X.A)(hg:Gl X x)(hm:X.mg x=some (.ref f))(hk:G7 X.K (.ref f)=true)(hb:Binds X.K fd ps ds)(hd:Vals dvs ds)(hx:Passes CX X E) (ha:PA X (e::es) t) (hdb:(x==("__debug__":Str))=false:=by decide) (he:EH (e::es) X.env=(false,eval e X.env)::EH es X.env:=by rfl) (hpl:(G6 pos (EH es X.env)).any (·.1)=false:=by rfl) : PE X (.Call (.Name x p) (e::es) [] pos) (Dr sp dvs E t):=by intro pins s σ H Q I h;refine GY (fD I hg hm ?_ hdb);refine PySem.W.callWith_K (h₀:=X.base) I.ok.mod.kin hk (thn (ha pos pins s σ H _ I h) fun us s1 ⟨vs,H1,I1,r,q⟩=>⟨I1.kIn,?_⟩) he hpl;exact Ax F hr hb hd hx I1 r q
end
structure FnScope(N P:List Str)(sc:Gz):Prop where
 kind:sc.kind=.function
 co:sc.isCoroutine=false
 gen:sc.isGenerator=false
 nd:N.Nodup
 pre:N.take P.length=P
 par:∀x∈P,sc.names.lookup x=some .local\/sc.names.lookup x=some .cell
 nofree:∀y∈sc.names,y.2≠.free
theorem lC{kindOf:Str->Option GG}{x:Str}:∀{binds:List (Str×E2)} {m:Str->Option E2},(∀v,(x,v)∉binds)->bindL kindOf binds m x=m x
 |[],_,_=>rfl
 |(n,v)::r,m,h=>by
  unfold bindL
  rw[lC fun w hw=>h w (EU _ hw)]
  split
  ·have:x≠n:=by rintro rfl;exact h v Fb
   simp[this]
  ·rfl
theorem kD{kindOf:Str->Option GG}{x:Str}:∀{binds:List (Str×E2)} {m:Str->Option E2},(∀v,(x,v)∉binds)->bindC kindOf binds m x=m x
 |[],_,_=>rfl
 |(n,v)::r,m,h=>by
  unfold bindC
  rw[kD fun w hw=>h w (EU _ hw)]
  split
  ·rfl
  ·have:x≠n:=by rintro rfl;exact h v Fb
   simp[this]
theorem kP{kindOf:Str->Option GG}{x:Str}{v:E2}:∀{P:List Str} {vs:List E2} {i:Nat} {m:Str->Option E2},P.Nodup->P[i]?=some x->vs[i]?=some v->kindOf x=some .local->
 bindL kindOf (P.zip vs) m x=some v
 |[],_,_,_,_,h,_,_=>by simp at h
 |_::_,[],_,_,_,_,h,_=>by simp at h
 |p::P,w::vs,0,m,nd,h1,h2,hk=>by
  simp at h1 h2;subst h1;subst h2
  show bindL kindOf ((p,w)::P.zip vs) m p=_
  unfold bindL
  rw[lC fun v hv=>(List.nodup_cons.mp nd).1 (List.of_mem_zip hv).1,if_pos hk]
  simp
 |p::P,w::vs,i+1,m,nd,h1,h2,hk=>by
  show bindL kindOf ((p,w)::P.zip vs) m x=_
  unfold bindL
  exact kP (i:=i) (List.nodup_cons.mp nd).2 (by simpa using h1) (by simpa using h2) hk
theorem lA{kindOf:Str->Option GG}{x:Str}{v:E2}:∀{P:List Str} {vs:List E2} {i:Nat} {m:Str->Option E2},P.Nodup->P[i]?=some x->vs[i]?=some v->kindOf x≠some .local->
 bindC kindOf (P.zip vs) m x=some v
 |[],_,_,_,_,h,_,_=>by simp at h
 |_::_,[],_,_,_,_,h,_=>by simp at h
 |p::P,w::vs,0,m,nd,h1,h2,hk=>by
  simp at h1 h2;subst h1;subst h2
  show bindC kindOf ((p,w)::P.zip vs) m p=_
  unfold bindC
  rw[kD fun v hv=>(List.nodup_cons.mp nd).1 (List.of_mem_zip hv).1,if_neg hk]
  simp
 |p::P,w::vs,i+1,m,nd,h1,h2,hk=>by
  show bindC kindOf ((p,w)::P.zip vs) m x=_
  unfold bindC
  exact lA (i:=i) (List.nodup_cons.mp nd).2 (by simpa using h1) (by simpa using h2) hk
def start(N:List Str)(vs:List V):St:=vs.map some++Hu (N.length-vs.length) none
def aW(CX:CXT)(P:EF)(w:EZ)(K:E1)(mg:Str->Option E2)(base:Heap)(N:List Str)(qual:Str)(scope:Gz)(f:Addr)(cd:E2)(A:EX)(outer:List Env)(s:E3)(H:Hp)(E:XK):Cx where
 prog:=P
 w:=w
 K:=K
 mg:=mg
 base:=base
 A:=A.deeper (envOfC qual scope s.heap.objs.size f cd)
 N:=N
 s₀:=s
 H₀:=H
 env:=envOfC qual scope s.heap.objs.size f cd
 outer:=outer
 stack:=envOfC qual scope s.heap.objs.size f cd::outer
 ex:=[]
 calm:=true
 fn:=fun _=>true
 pn:=[]
 xe:=fun e s'=>E8 (ED P w) (A.deeper (envOfC qual scope s.heap.objs.size f cd)) (leaving (envOfC qual scope s.heap.objs.size f cd) e) (fun _ s''=>CX outer H s E e s'') (fun e' s''=>CX outer H s E e' s'') s'
theorem jM{sc:Gz}{n:Nat}{x:Str}(h:sc.names.lookup x=some .cell):∃c,(Gj n sc.names []).lookup x=some c:=by have q:=PySem.W.cellsFrom_some sc.names n [] (.inl h);exact Option.isSome_iff_exists.mp q
theorem sI{CX:CXT}{P:EF}{w:EZ}{K:E1}{mg:Str->Option E2}{base:Heap}{N ps:List Str}{qual:Str}{scope:Gz}{f:Addr}{cd:E2}{A:EX}{outer:List Env}{s s1:E3}{H:Hp}{E:XK}{us:List E2}{vs:List V}
 (S:FnScope N ps scope) (hd:A.handled=none) (e0:Env0 P w K mg base A outer s H) (hl:vs.length=ps.length) (r:Vals vs us)
 (x:InCallC s s.heap.objs.size (bindL (envOfC qual scope s.heap.objs.size f cd).kindOf (ps.zip us) fun _=>none) (Gj (s.heap.objs.size+1) scope.names []) (bindC (envOfC qual scope s.heap.objs.size f cd).kindOf (ps.zip us) fun _=>none) s1) :
 Inv (aW CX P w K mg base N qual scope f cd A outer s H E) [] (start N vs) H s1:=by
 have hpl:ps.length<=N.length:=by have:=congrArg List.length S.pre;rw[FJ]at this;omega
 obtain⟨h1,tk,rfl,hk⟩:=x.done
 have noA:∀b:Addr,b∉(aW CX P w K mg base N qual scope f cd A outer s H E).ex:=fun b z=>absurd (show b∈([]:List Addr)from z) (by simp)
 refine⟨⟨e0.mod,S.kind,rfl,rfl,E9 _,fun y z c h1 h2=>?_,fun y hy=>?_,fun y c _ h=>?_,fun _=>hd,Around.frames_deeper e0.frames,.inr ⟨rfl,rfl⟩,fun b z=>absurd z (noA b),e0.bs,e0.bsz,fun b _ _=>noA b,fun b z=>absurd z (noA b),e0.eL,e0.frf⟩,
  rfl,e0.bare,Un.kept hk,⟨_,x.toInCall.ns,fun i y v h1 h2 h3=>?_⟩,fun y c h=>⟨_,x.cell y c h⟩,e0.hok.fresh (E9 _),fun y c h=>?_,fun p hp=>absurd (show p∈([]:List (Addr×Obj))from hp) (by simp),e0.hok.kept hk,?_⟩
 ·exact name_of_addr x.apart (F2 h1) (F2 h2)
 ·have hy:scope.names.lookup y=some .cell\/scope.names.lookup y=some .free:=hy
  rcases hy with hy|hy
  ·exact jM hy
  ·exact absurd rfl (S.nofree _ (F2 hy))
 ·exact Hh (x.above y c (F2 h))
 ·have hi:i<vs.length:=by
   unfold start at h2
   by_cases hi:i<vs.length
   ·exact hi
   ·rw[FK (by simpa using hi)]at h2
    rw[List.getElem?_replicate]at h2
    split at h2<;>cases h2
  have ha:vs[i]?=some v:=by
   unfold start at h2
   rw[FR (by simpa using hi),EN]at h2
   cases e:vs[i]? with
   |none=>rw[e]at h2;cases h2
   |some a=>rw[e]at h2;cases h2;rfl
  obtain⟨u,hu,rv⟩:=r.get ha
  have hp:ps[i]?=some y:=by
   rw[<-S.pre,List.getElem?_take_of_lt (by omega)];exact h1
  have ndP:ps.Nodup:=by rw[<-S.pre];exact S.nd.sublist (List.take_sublist _ _)
  refine⟨u,rv,?_⟩
  rcases S.par y (F0 hp)with k|k
  ·exact .inl ⟨k,kP ndP hp hu k⟩
  ·obtain⟨c,e⟩:=jM (n:=s.heap.objs.size+1) k
   refine .inr ⟨.inl k,c,e,?_⟩
   have q:=x.cell y c e
   rw[lA ndP hp hu (by show scope.names.lookup y≠_;rw[k];decide)]at q
   exact q
 ·exact e0.hok.fresh (Hh (x.above y c (F2 h)))
 ·unfold start
  show _=N.length
  rw[Gh,E6,List.length_replicate]
  omega
theorem ue{CX:CXT}{P:EF}{w:EZ}{K:E1}{mg:Str->Option E2}{base:Heap}{k:Nat}{f:Addr}{name qual:Str}{params:Arguments}{body:List Stmt}{scope:Gz}{dV kV doc pm cdv ct oc:E2}{an od:Option Addr}
 {osl:Array (Option E2)} {N ps:List Str} {sp:Sp} (lk:K.lookup f=some ⟨oc,od,.func (FI name qual params body scope dV kV doc pm an cdv ct),osl⟩) (hcd:Hv K cdv qual=true) (S:FnScope N ps scope)
 (len:∀vs H Q E,sp vs H Q E->vs.length=ps.length)
 (hbody:∀(A:EX) (outer:List Env) (s:E3) (H:Hp) (vs:List V) (Q:VK) (E:XK),Room k (A.deeper (envOfC qual scope s.heap.objs.size f cdv))->sp vs H Q E->
  ∃t,PSs (aW CX P w K mg base N qual scope f cdv A outer s H E) body t/\t { nx:=fun _ H'=>Q .non H',rt:=Q } (start N vs) H) :
 FnOk P w K mg base CX (k+1) f (FI name qual params body scope dV kV doc pm an cdv ct) ps sp:=by
 refine⟨len,fun A outer s H args us vs Q E hr e0 hb r hsp=>?_⟩
 have hl:=len _ _ _ _ hsp
 have KX:K.In s.heap:=e0.mod.kin.keeps fun b o e=>(e0.bs b o e).1
 have lim:s.heap.NoLimit:=e0.mod.nolimit.keeps fun b o e=>(e0.bs b o e).1
 have hkind:∀y∈ps.zip us,scope.names.lookup y.1=some .local\/(scope.names.lookup y.1=some .cell/\((Gj (s.heap.objs.size+1) scope.names []).lookup y.1).isSome=true):=fun zz62_0 hy=>by
  obtain⟨n,v⟩:=zz62_0
  rcases S.par n (List.of_mem_zip hy).1 with q|q
  ·exact .inl q
  ·exact .inr ⟨q,PySem.W.cellsFrom_some _ _ _ (.inl q)⟩
 refine codeAny_call_function hr.depth (KX _ _ lk) rfl S.co S.gen rfl (PySem.W.codeRec_of KX hcd) (hb _ _ _ _ ?_)
 refine wpAny_newFunctionEnv_cells S.kind hkind fun env he s1 x=>?_
 subst he
 refine⟨lim.keeps x.toInCall.keep,codeAny_func ?_⟩
 obtain⟨t,ht,hq⟩:=hbody A outer s H vs Q E (hr.deeper _) hsp
 have I:Inv (aW CX P w K mg base N qual scope f cdv A outer s H E) [] (start N vs) H s1:=sI S hr.hd e0 hl r x
 refine ES (ht [] s1 (start N vs) H _ I hq) (fun fl s' hs=>?_) fun e s' hs=>hs
 have fin:∀{σ':St} {H':Hp} {v:V} {u:E2},Inv (aW CX P w K mg base N qual scope f cdv A outer s H E) [] σ' H' s'->RelV v u->Q v H'->CE outer P w H s Q u s':=
  fun{σ' H' v u} J rv q=>⟨v,H',J.os,J.bare,J.base,J.hok,rv,q⟩
 cases fl with
 |ret u=>
  obtain⟨v,σ',H',J,rv,q⟩:=hs
  exact fin J rv q
 |next=>
  obtain⟨σ',H',J,q⟩:=hs
  exact fin (v:=V.non) (u:=Fi) J rfl q
 |brk=>
  obtain⟨_,_,_,q⟩:=hs
  exact FC q
 |cont=>
  obtain⟨_,_,_,q⟩:=hs
  exact FC q
section
variable{X:Cx}{x:Str}{p pos:Pos}{e:Expr}{es:List Expr}{t:TA}{id T:String}{r:List V->Hp->VK->Prop}
def tCB(r:List V->Hp->VK->Prop)(t:TA):TE:=fun σ H Q=>t σ H fun vs H1=>r vs H1 Q
theorem wB(hc:bE X (.builtin id) r)(hg:Gl X x)(hm:X.mg x=none)(hv:Fp x=some (.builtin id))(ha:PA X (e::es) t)(hn:x≠"__name__":=by decide)(hdb:(x==("__debug__":Str))=false:=by decide) (he:EH (e::es) X.env=(false,eval e X.env)::EH es X.env:=by rfl) (hpl:(G6 pos (EH es X.env)).any (·.1)=false:=by rfl):PE X (.Call (.Name x p) (e::es) [] pos) (tCB r t):=by intro pins s σ H Q I h;refine GY (fx I hg hm hv ?_ hn hdb);exact PyProof.Rows.callWith_builtin1 (thn (ha pos pins s σ H _ I h) fun us s1 zz63_0=>by obtain⟨vs,H1,I1,r1,q1⟩:=zz63_0;exact(hc pins s1 σ H1 vs us Q I1 r1 q1)) he hpl
theorem sG(hc:bE X (.type T) r)(hg:Gl X x)(hm:X.mg x=none)(hv:Fp x=some (.type T))(ha:PA X (e::es) t)(hn:x≠"__name__":=by decide)(hdb:(x==("__debug__":Str))=false:=by decide) (he:EH (e::es) X.env=(false,eval e X.env)::EH es X.env:=by rfl) (hpl:(G6 pos (EH es X.env)).any (·.1)=false:=by rfl):PE X (.Call (.Name x p) (e::es) [] pos) (tCB r t):=by intro pins s σ H Q I h;refine GY (fx I hg hm hv ?_ hn hdb);exact Gn (thn (ha pos pins s σ H _ I h) fun us s1 zz64_0=>by obtain⟨vs,H1,I1,r1,q1⟩:=zz64_0;exact(hc pins s1 σ H1 vs us Q I1 r1 q1)) he hpl
end
end L2
namespace HT
open PySem PyProof.Rows
def lexLt:List Int->List Int->Bool
 |[],[]=>false
 |[],_::_=>true
 |_::_,[]=>false
 |x::xs,y::ys=>if x=y then lexLt xs ys else decide (x<y)
theorem pE(x y:Int)(xs ys:List Int):lexLt (x::xs) (y::ys)=if x=y then lexLt xs ys else decide (x<y):=rfl
theorem kj:lexLt [] []=false:=rfl
theorem jK(y:Int)(ys:List Int):lexLt [] (y::ys)=true:=rfl
theorem jT(x:Int)(xs:List Int):lexLt (x::xs) []=false:=rfl
theorem i8(A:EX)(s:E3)(a:Int)(t:Tok)(c:Int)(u:Tok):∃e,SeqAt.EqAt A s (.int a t) (.int c u) e/\(e=true↔a=c):=⟨(a==c),SeqAt.EqAt.int_int a t c u,by simp⟩
theorem vj(A:EX)(s:E3)(a:Int)(t:Tok)(c:Int)(u:Tok)(prog:EF)(w:EZ)(E:E2->E3->Prop)(Q:E2->E3->Prop)(h:Q (.bool (decide (a<c))) s) : E8 (ED prog w) A (richCompare .Lt (.int a t) (.int c u)) Q E s:=(PyProof.Rows.lt_int h:E8 (ED prog w) A (Fm .Lt (.int a t) (.int c u)) Q E s)
section
open PySem.SeqAt
open PySem.AutoSeq1 (wpAny_loadPart')
open PySem.MeetsSeq PySem.MeetsSeq2 PySem.MeetsSeq3
theorem ko(l b:Addr)(items items2:Array E2)(n n2:Nat)(dd dd2:Option Addr)(sl sl2:Array (Option E2))(ns ms:List Int)(hi:Gb items.toList ns)(hj:Gb items2.toList ms) :
 Meets (Hm.«tuple.__lt__» ⟨[.ref l,.ref b],[]⟩)
  (fun _ R s=>s.heap.get? l=some { cls:=.type "tuple",dict:=dd,data:=.seq items n,slots:=sl }/\s.heap.get? b=some { cls:=.type "tuple",dict:=dd2,data:=.seq items2 n2,slots:=sl2 }/\
   R (.ok (.ret (.bool (lexLt ns ms)))) s):=
 .of_wp fun prog w A R s h=>by
  obtain⟨hp,g,d,tk,os⟩:=s;obtain⟨hl,hb,h⟩:=h
  have f2:=AutoSeq1.sub_tuple_tuple
  have z1:items.size=ns.length:=by rw[<-hi.length];simp
  have z2:items2.size=ms.length:=by rw[<-hj.length];simp
  wp_walk using Gv hl,Gv hb,wpAny_forIn_list _ (fun rest b s'=>b.1=none/\s'=⟨hp,g,d,tk,os⟩/\∃(vs ws:List E2) (ns' ms':List Int),rest=vs.zip ws/\
   Gb vs ns'/\Gb ws ms'/\ns'.length+items2.size=ms'.length+items.size/\R (.ok (.ret (.bool (lexLt ns' ms')))) ⟨hp,g,d,tk,os⟩) _
  case turn=>
   rintro⟨y,x⟩ rest b s' ⟨hb',rfl,vs,ws,ns',ms',hz,hvi,hwi,hlen,hR⟩
   cases hvi with
   |nil=>rw[List.zip_nil_left]at hz;cases hz
   |cons a t hvi'=>
    cases hwi with
    |nil=>rw[List.zip_nil_right]at hz;cases hz
    |cons c u hwi'=>
     rw[GA]at hz
     injection hz with hyx hrest
     injection hyx with hy hx
     subst hy hx
     rw[pE]at hR
     simp only[F8]at hlen
     obtain⟨e,he,hiff⟩:=i8 A.in1 ⟨hp,g,d,tk,os⟩ a t c u
     refine cc (he prog w _ _ ?_)
     cases e with
     |true=>
      rw[if_pos (hiff.mp rfl)]at hR
      wp_walk
      exact⟨rfl,rfl,_,_,_,_,hrest,hvi',hwi',by omega,hR⟩
     |false=>
      rw[if_neg (fun q=>absurd (hiff.mpr q) ET)]at hR
      have hri:=vj A.in1 ⟨hp,g,d,tk,os⟩ a t c u prog w
      wp_walk using hri
      exact⟨_,rfl,by simpa using hR⟩
  case fin=>
   rintro⟨b1,b2⟩ s' ⟨hb',rfl,vs,ws,ns',ms',hz,hvi,hwi,hlen,hR⟩
   simp only at hb'
   subst hb'
   have hv:lexLt ns' ms'=decide (items.size<items2.size):=by
    cases hvi with
    |nil=>
     cases hwi with
     |nil=>
      simp only[Gd]at hlen
      rw[kj]
      exact(decide_eq_false (by omega)).symm
     |cons c u hw=>
      simp only[Gd,F8]at hlen
      rw[jK]
      exact(decide_eq_true (by omega)).symm
    |cons a t hv=>
     cases hwi with
     |nil=>
      simp only[Gd,F8]at hlen
      rw[jT]
      exact(decide_eq_false (by omega)).symm
     |cons c u hw=>
      rw[GA]at hz
      cases hz
   rw[hv]at hR
   wp_walk
   exact⟨_,rfl,by simpa[Builtin.Tuple.tupleCompareSizes]using hR⟩
  case h=>
   exact⟨rfl,rfl,items.toList,items2.toList,ns,ms,rfl,hi,hj,by omega,h⟩
end
section
variable{prog:EF}{w:EZ}{A:EX}{E:E2->E3->Prop}{s:E3}
theorem iX{l b:Addr}{items items2:Array E2}{ns ms:List Int}{Q:E2->E3->Prop}(hl:IsTup s.heap l items)(hb:IsTup s.heap b items2)(hi:Gb items.toList ns)(hj:Gb items2.toList ms) (hu:A.units<FQ) (h:Q (.bool (lexLt ns ms)) s):E8 (ED prog w) A (Fm .Lt (.ref l) (.ref b)) Q E s:=by obtain⟨⟨cls,dd,data,sl⟩,ho,hc,n,hd⟩:=id hl;obtain⟨⟨cls2,dd2,data2,sl2⟩,ho2,hc2,n2,hd2⟩:=id hb;simp only at hc hd hc2 hd2;subst hc hd hc2 hd2;exact richCompare_meets_room (op:=.Lt) ⟨_,ho,rfl⟩ ⟨_,ho2,rfl⟩ PySem.F.slot_tuple_lt PySem.F.entry_tuple_lt (PySem.F.args_tuple_lt_2 _ _) (ko l b items items2 n n2 dd dd2 sl sl2 ns ms hi hj) ⟨ho,ho2,show FY (lexLt ns ms)≠Value.notImplemented/\Q (.bool (lexLt ns ms)) s from⟨(fun x=>nomatch x),h⟩⟩ hu
theorem zb{t b:Addr}{vs ws:List E2}{Q:E2->E3->Prop}(ht:IsTup s.heap t vs.toArray)(hb:IsTup s.heap b ws.toArray)(hv:vs≠[])
 (h1:ws=[]->Q (.ref t) s) (h2:ws≠[]->Q (.ref s.heap.objs.size) { s with heap:=s.heap.push { cls:=.type "tuple",data:=.seq (vs++ws).toArray } })
 (hsz:vs.length+ws.length<=ER):E8 (ED prog w) A (Hk .Add (.ref t) (.ref b)) Q E s:=by
 obtain⟨⟨cls,dd,data,sl⟩,ho,hc,n,hd⟩:=id ht
 obtain⟨⟨cls2,dd2,data2,sl2⟩,ho2,hc2,n2,hd2⟩:=id hb
 simp only at hc hd hc2 hd2
 subst hc hd hc2 hd2
 have e:vs.toArray++ws.toArray=(vs++ws).toArray:=by simp
 by_cases hw:ws=[]
 ·exact concat_meets ⟨_,ho,rfl⟩ ⟨_,ho2,rfl⟩ noFill_tuple_add seq_tuple_add PySem.F.slot_tuple_add PySem.F.entry_tuple_add (PySem.F.args_tuple_add_2 _ _)
   (tuple_addW1 t b vs.toArray ws.toArray n n2 dd dd2 sl sl2 (by simpa using hv) (by simp[hw])) ⟨ho,ho2,h1 hw⟩
 ·refine concat_meets ⟨_,ho,rfl⟩ ⟨_,ho2,rfl⟩ noFill_tuple_add seq_tuple_add PySem.F.slot_tuple_add PySem.F.entry_tuple_add (PySem.F.args_tuple_add_2 _ _)
   (tuple_addW2 t b vs.toArray ws.toArray n n2 dd dd2 sl sl2 (by simpa using hv) (by simpa using hw) (by rw[EI,EI];exact hsz)) ⟨ho,ho2,?_⟩
  rw[e]
  exact h2 hw
def sIx(n d:Nat):Option Int->Nat
 |none=>d
 |some v=>if v<0 then(v+(n:Int)).toNat else min v.toNat n
theorem nS(n d:Nat):sIx n d none=d:=rfl
theorem iP(n d k:Nat):sIx n d (some (k:Int))=min k n:=by show(if(k:Int)<0 then((k:Int)+(n:Int)).toNat else min (k:Int).toNat n)=min k n;rw[if_neg (by omega),Int.toNat_natCast]
theorem Bx(n d:Nat)(hd:d<=n)(o:Option Int):sIx n d o<=n:=by
 cases o with
 |none=>exact hd
 |some v=>
  show(if v<0 then(v+(n:Int)).toNat else min v.toNat n)<=n
  by_cases hv:v<0
  ·rw[if_pos hv];omega
  ·rw[if_neg hv];exact Nat.min_le_right _ _
theorem rW(v:Int)(n d:Nat):(if v<0 then max (v+(n:Int)) 0 else min v (n:Int))=((sIx n d (some v):Nat):Int):=by
 show(if v<0 then max (v+(n:Int)) 0 else min v (n:Int))=(((if v<0 then(v+(n:Int)).toNat else min v.toNat n):Nat):Int);by_cases hv:v<0
 ·simp only[if_pos hv];omega
 ·simp only[if_neg hv];omega
theorem pC(lo hi:Option Int)(n:Nat):Builtin.Slice.sliceAdjust lo hi 1 (n:Int)=(((sIx n 0 lo:Nat):Int),((sIx n n hi:Nat):Int)):=by
 have h1:¬((1:Int)<0):=by omega
 unfold Builtin.Slice.sliceAdjust;simp only[h1,if_false];refine Prod.ext ?_ ?_
 ·cases lo with
  |none=>rfl
  |some v=>exact rW v n 0
 ·cases hi with
  |none=>rfl
  |some v=>exact rW v n n
theorem pO(i j:Nat):Builtin.Slice.slicePlaces (i:Int) (j:Int) 1=j-i:=by
 unfold Builtin.Slice.slicePlaces;have h1:(1:Int)>0:=by omega
 simp only[h1,if_true,Int.ediv_one];split<;>omega
theorem jJ{v:E2}{o:Option Int}{Q:Option Int->E3->Prop}(p:IsPart v o)(h:Q o s):E8 (ED prog w) A (Builtin.Slice.slicePartIndex v) Q E s:=by
 cases p with
 |none=>exact slicePart_none h
 |int i t=>exact slicePart_int h
theorem hV{sl:Addr}{vl vu:E2}{lo hi:Option Int}{n:Nat}{Q:Int×Int×Nat->E3->Prop}(hs:s.heap.IsSliceOf sl vl vu .none)(pl:IsPart vl lo)(pu:IsPart vu hi)
 (h:Q (((sIx n 0 lo:Nat):Int),1,sIx n n hi-sIx n 0 lo) s):E8 (ED prog w) A (Builtin.Slice.sliceApplied (.ref sl) (pure (n:Int))) Q E s:=by
 obtain⟨os,hos,hcs,hds⟩:=id hs
 unfold Builtin.Slice.sliceApplied Builtin.Slice.sliceFields
 refine cc (cc (GH hos hds (x:=vl) rfl (cc (GH hos hds (x:=vu) rfl (cc (GH hos hds (x:=.none) rfl (E5 ?_)))))))
 refine cc (slicePart_none ?_)
 show E8 _ _ (if((1:Int)==0)=true then _ else _) _ _ s
 rw[if_neg (by decide)]
 refine cc (jJ pl (cc (jJ pu (cc (E5 ?_)))))
 show E8 _ _ (match Builtin.Slice.sliceAdjust lo hi 1 (n:Int)with|(lo,hi)=>pure (lo,(1:Int),Builtin.Slice.slicePlaces lo hi 1)) _ _ s
 rw[pC lo hi n]
 show E8 _ _ (pure (((sIx n 0 lo:Nat):Int),(1:Int),Builtin.Slice.slicePlaces ((sIx n 0 lo:Nat):Int) ((sIx n n hi:Nat):Int) 1)) _ _ s
 rw[pO]
 exact E5 h
theorem vg(xs:Array E2)(i k:Nat):((Fl k).filterMap fun(m:Nat)=>xs[((i:Int)+(m:Int)*1).toNat]?).toArray=((xs.toList.drop i).take k).toArray:=by
 have e:(fun(m:Nat)=>xs[((i:Int)+(m:Int)*1).toNat]?)=fun m=>xs[i+m]?:=by
  funext m
  have:((i:Int)+(m:Int)*1).toNat=i+m:=by omega
  rw[this]
 rw[e];have:=pick_run xs i k;rw[List.filterMap_map]at this;have e2:((fun x=>xs[x]?)∘fun x=>i+x)=fun m=>xs[i+m]?:=rfl;rw[e2]at this;rw[this]
theorem gO{t sl:Addr}{items:Array E2}{vl vu:E2}{lo hi:Option Int}{Q:E2->E3->Prop}(ht:IsTup s.heap t items)(hs:s.heap.IsSliceOf sl vl vu .none)(pl:IsPart vl lo)(pu:IsPart vu hi)
 (hw:¬(sIx items.size 0 lo=0/\sIx items.size items.size hi=items.size))
 (h:Q (.ref s.heap.objs.size) { s with heap:=s.heap.push { cls:=.type "tuple",data:=.seq ((items.toList.drop (sIx items.size 0 lo)).take (sIx items.size items.size hi-sIx items.size 0 lo)).toArray } })
 (hsz:items.size<=ER):E8 (ED prog w) A (getItem (.ref t) (.ref sl)) Q E s:=by
 have htake:sizeOk (.seq ((items.toList.drop (sIx items.size 0 lo)).take (sIx items.size items.size hi-sIx items.size 0 lo)).toArray):=by
  show((items.toList.drop (sIx items.size 0 lo)).take (sIx items.size items.size hi-sIx items.size 0 lo)).toArray.size<=ER
  rw[EI,FJ,List.length_drop,Fu]
  omega
 have hj:sIx items.size items.size hi<=items.size:=Bx _ _ (E9 _) hi
 obtain⟨os,hos,hcs,hds⟩:=id hs
 have hTs:s.TypeIs (.ref sl) "slice":=⟨os,hos,hcs⟩
 unfold getItem
 try with_reducible refine Fs ?_
 first|refine cc (E5 ?_)|skip
 refine cc (wpAny_sequenceKey ht.typeIs (by decide) ?_)
 refine cc (Gk (name:=F9 "__getitem__") ht.typeIs PyProof.Rows.slot_tuple_getitem
  (GV PyProof.Rows.slot_tuple_getitem ht.typeIs entry_tuple_getitem ?_ (args_tuple_getitem _ _)))
 show E8 _ _ (Builtin.Tuple.tupleItemsOf (.ref t) >>= _) _ _ s
 refine cc (tupleItemsOf_ ht ?_)
 refine cc (wpAny_typeOf hTs ?_)
 rw[if_pos (by decide)]
 refine cc (hV hs pl pu ?_)
 have hno:¬((((sIx items.size 0 lo:Nat):Int)==0&&(1:Int)==1&&(sIx items.size items.size hi-sIx items.size 0 lo)==items.size)=true):=by
  intro q
  rw[FF,FF]at q
  have q1:((sIx items.size 0 lo:Nat):Int)=0:=eq_of_beq q.1.1
  have q2:sIx items.size items.size hi-sIx items.size 0 lo=items.size:=eq_of_beq q.2
  exact hw ⟨by omega,by omega⟩
 show E8 _ _ (if(((sIx items.size 0 lo:Nat):Int)==0&&(1:Int)==1&&(sIx items.size items.size hi-sIx items.size 0 lo)==items.size)=true then _ else _) _ _ s
 rw[if_neg hno,vg]
 first
  |exact cc (m:=Builtin.Tuple.tupleExact _) (Fq (E5 ⟨_,rfl,E5 h⟩) htake)
  |exact cc (m:=Builtin.Tuple.tupleExact _) (Fq (cc (E5 (E5 ⟨_,rfl,E5 h⟩))) htake)
  |exact cc (cc (m:=Builtin.Tuple.tupleExact _) (Fq (E5 (E5 ⟨_,rfl,E5 h⟩)) htake))
  |exact cc (cc (m:=Builtin.Tuple.tupleExact _) (Fq (E5 ⟨_,rfl,E5 h⟩) htake))
end
end HT
namespace L2
open PySem PySem.Spec PyProof.Rows
abbrev TO:=St->Hp->(Option Int->Hp->Prop)->Prop
def PO(X:Cx)(e:Option Expr)(t:TO):Prop:=
 ∀(pins:List (Addr×Obj)) (s:E3) (σ:St) (H:Hp) (Q:Option Int->Hp->Prop),Inv X pins σ H s->t σ H Q->
  E8 (ED X.prog X.w) X.A (evalPart e X.env) (fun u s'=>∃o H',Inv X pins σ H' s'/\IsPart u o/\Q o H') X.xe s
def y9:TO:=fun _ H Q=>Q none H
def Dc(t:TE):TO:=fun σ H Q=>t σ H fun x H1=>∃i,x=.int i/\Q (some i) H1
theorem intsAre_of{ns:List Int}:∀{us:List E2},Vals (ns.map V.int) us->Gb us ns:=by
 induction ns with
 |nil=>intro us r;rw[Gq]at r;cases r;exact .nil
 |cons n ns ih=>
  intro us r
  rw[EJ]at r
  cases r with
  |cons r1 r2=>
   obtain⟨t,e⟩:=r1
   subst e
   exact .cons n t (ih r2)
section
variable{X:Cx}{e:Expr}{te:TE}{lo hi:Option Expr}{tl th:TO}{pos p2:Pos}
theorem zc:PO X none y9:=by intro pins s σ H Q I h;rw[evalPart_none];exact E5 ⟨none,H,I,.none,h⟩
theorem yw(h:PE X e te):PO X (some e) (Dc te):=by intro pins s σ H Q I hw;rw[evalPart_some];refine thn (h pins s σ H _ I hw) fun u s1 zz65_0=>?_;obtain⟨x,H1,I1,r1,q1⟩:=zz65_0;obtain⟨i,rfl,q⟩:=q1;obtain⟨t,rfl⟩:=r1;exact⟨some i,H1,I1,.int i t,q⟩
def SlR(X:Cx)(r:V->Option Int->Option Int->Hp->VK->Prop):Prop:=
 ∀(pins:List (Addr×Obj)) (s:E3) (σ:St) (H:Hp) (x:V) (v vl vu:E2) (lo hi:Option Int) (sl:Addr) (Q:VK),Inv X pins σ H s->RelV x v->s.heap.IsSliceOf sl vl vu .none->IsPart vl lo->IsPart vu hi->r x lo hi H Q->
  ∃T id,typeLookup (.type T) "__getitem__"=pure (some (.builtin id))/\s.TypeIs v T/\E8 (ED X.prog X.w) X.A (getItem v (.ref sl)) (EP X pins σ Q) X.xe s
theorem SlR.or{r r':V->Option Int->Option Int->Hp->VK->Prop}(h:SlR X r)(h':SlR X r'):SlR X (fun x lo hi H Q=>r x lo hi H Q\/r' x lo hi H Q):=by
 intro pins s σ H x v vl vu lo hi sl Q I rx hs pl pu q;rcases q with q|q
 ·exact h pins s σ H x v vl vu lo hi sl Q I rx hs pl pu q
 ·exact h' pins s σ H x v vl vu lo hi sl Q I rx hs pl pu q
def tSl(r:V->Option Int->Option Int->Hp->VK->Prop)(te:TE)(tl th:TO):TE:=fun σ H Q=>te σ H fun x H1=>tl σ H1 fun l H2=>th σ H2 fun u H3=>r x l u H3 Q
theorem wg{r:V->Option Int->Option Int->Hp->VK->Prop}(hr:SlR X r)(he:PE X e te)(hl:PO X lo tl)(hu:PO X hi th):PE X (.Subscript e (.Slice lo hi none p2) pos) (tSl r te tl th):=by intro pins s σ H Q I h;refine Subscript_ (thn (he pins s σ H _ I h) fun v s1 zz66_0=>?_);obtain⟨x,H1,I1,r1,q1⟩:=zz66_0;refine wpAny_Slice (thn (hl pins s1 σ H1 _ I1 q1) fun vl s2 ⟨l,H2,I2,pl,q2⟩=>thn (hu pins s2 σ H2 _ I2 q2) fun vu s3 zz67_0=>?_);obtain⟨u,H3,I3,pu,q3⟩:=zz67_0;rw[evalPart_none];refine E5 ?_;have I4:Inv X pins σ H3 { s3 with heap:=s3.heap.push { cls:=.type "slice",data:=.fields #[vl,vu,.none] } }:=I3.kept (t':=s3.toks) fun b ob q=>E4 _ q;obtain⟨T,id,hT,ht,hg⟩:=hr pins { s3 with heap:=s3.heap.push { cls:=.type "slice",data:=.fields #[vl,vu,.none] } } σ H3 x v vl vu l u s3.heap.objs.size Q I4 r1 (Heap.IsSliceOf.new ..) pl pu q3;show E8 (ED X.prog X.w) X.A (subscriptTail e (.Slice lo hi none p2) v (.ref s3.heap.objs.size)) (EP X pins σ Q) X.xe { s3 with heap:=s3.heap.push { cls:=.type "slice",data:=.fields #[vl,vu,.none] } };exact tail_any (ops:=[.ref s3.heap.objs.size,v]) ht hT hg (by with_unfolding_all rfl)
def nj(xs:List V)(lo hi:Option Int):List V:=(xs.drop (HT.sIx xs.length 0 lo)).take (HT.sIx xs.length xs.length hi-HT.sIx xs.length 0 lo)
theorem iF(xs:List V)(lo hi:Option Int):(nj xs lo hi).length<=xs.length:=by unfold nj;rw[FJ,List.length_drop];omega
def Ey(K:E1):V->Option Int->Option Int->Hp->VK->Prop:=fun x lo hi H Q=>∃a xs,x=.ref a/\SqT K H a xs/\
 ¬(HT.sIx xs.length 0 lo=0/\HT.sIx xs.length xs.length hi=xs.length)/\∀p,H p=none->Q (.ref p) (upd H p (.tup (nj xs lo hi)))
theorem BJ:SlR X (Ey X.K):=by
 intro pins s σ H x v vl vu lo hi sl Q I rx hs pl pu h;obtain⟨a,xs,rfl,hx,hw,q⟩:=h;cases rx;obtain⟨its,r,ht,hz⟩:=I.tuple hx;have hlen:its.toArray.size=xs.length:=by rw[EI];exact r.length.symm
 refine⟨"tuple",_,PyProof.Rows.slot_tuple_getitem.lookup,ht.typeIs,?_⟩;refine HT.gO ht hs pl pu (by rw[hlen];exact hw) ?_ (by rw[hlen];exact hz);rw[hlen];refine⟨.ref s.heap.objs.size,_,I.laid (t':=s.toks) (o:=.tup (nj xs lo hi)) (fun b ob q=>E4 _ q) (E9 _) ?_,rfl,q _ (I.hok.fresh (E9 _))⟩;exact⟨Fh (iF xs lo hi) hz,_,(r.drop (HT.sIx xs.length 0 lo)).take (HT.sIx xs.length xs.length hi-HT.sIx xs.length 0 lo),IsTup.new _ _⟩
def DU(K:E1):R2:=fun x y H Q=>∃a b ns ms,x=.ref a/\y=.ref b/\SqT K H a (ns.map V.int)/\SqT K H b (ms.map V.int)/\Q (.bl (HT.lexLt ns ms)) H
theorem AE(hu:X.A.units<FQ):OpR X (Fm .Lt) (DU X.K):=by intro pins s σ H x y v u Q I rx ry h;obtain⟨a,b,ns,ms,rfl,rfl,ha,hb,q⟩:=h;cases rx;cases ry;obtain⟨its,r1,p1,_⟩:=I.tuple ha;obtain⟨its2,r2,p2,_⟩:=I.tuple hb;have i1:Gb its.toArray.toList ns:=intsAre_of r1;have i2:Gb its2.toArray.toList ms:=intsAre_of r2;exact HT.iX p1 p2 i1 i2 hu ⟨.bl (HT.lexLt ns ms),H,I,rfl,q⟩
def DF(K:E1):R2:=fun x y H Q=>∃a b xs ys,x=.ref a/\y=.ref b/\SqT K H a xs/\SqT K H b ys/\xs≠[]/\xs.length+ys.length<=ER/\
 (ys=[]->Q (.ref a) H)/\(ys≠[]->∀p,H p=none->Q (.ref p) (upd H p (.tup (xs++ys))))
theorem Vals.mY{xs:List V}{us:List E2}(r:Vals xs us):us=[]↔xs=[]:=by
 cases r with
 |nil=>simp
 |cons _ _=>simp
theorem yp:OpR X (Hk .Add) (DF X.K):=by intro pins s σ H x y v u Q I rx ry h;obtain⟨a,b,xs,ys,rfl,rfl,ha,hb,hx,hz,q1,q2⟩:=h;cases rx;cases ry;obtain⟨its,r1,p1,_⟩:=I.tuple ha;obtain⟨its2,r2,p2,_⟩:=I.tuple hb;refine HT.zb p1 p2 (fun z=>hx (r1.mY.mp z)) (fun z=>⟨.ref a,H,I,rfl,q1 (r2.mY.mp z)⟩) (fun z=>?_) (by rw[<-r1.length,<-r2.length];exact hz);refine⟨.ref s.heap.objs.size,_,I.laid (t':=s.toks) (o:=.tup (xs++ys)) (fun b ob q=>E4 _ q) (E9 _) ?_,rfl,q2 (fun w=>z (r2.mY.mpr w)) _ (I.hok.fresh (E9 _))⟩;exact⟨by rw[Gh];exact hz,_,r1.append r2,IsTup.new _ _⟩
end
def ixN(n:Nat)(i:Int):Option Nat:=if 0<=i then(if i<n then some i.toNat else none)else if -(n:Int)<=i then some (i+n).toNat else none
def atI{α:Type}(xs:List α)(i:Int):Option α:=(ixN xs.length i).bind fun j=>xs[j]?
theorem qL{n:Nat}{i:Int}{j:Nat}(h:ixN n i=some j):seqIndex? i n=some j/\j<n/\-(n:Int)<=i/\i<n:=by
 unfold ixN at h;by_cases h0:0<=i
 ·rw[if_pos h0]at h;by_cases h1:i<n
  ·rw[if_pos h1]at h;have e:i.toNat=j:=Option.some.inj h;exact⟨by rw[seqIndex_of h0 h1,e],by omega,by omega,h1⟩
  ·rw[if_neg h1]at h;cases h
 ·rw[if_neg h0]at h;by_cases h1:-(n:Int)<=i
  ·rw[if_pos h1]at h;have e:(i+n).toNat=j:=Option.some.inj h;exact⟨by rw[seqIndex_neg (by omega) h1,e],by omega,h1,by omega⟩
  ·rw[if_neg h1]at h;cases h
theorem m9{α:Type}{xs:List α}{i:Int}{v:α}(h:atI xs i=some v):∃j,seqIndex? i xs.length=some j/\xs[j]?=some v/\j<xs.length/\-(xs.length:Int)<=i/\i<xs.length:=by
 unfold atI at h;cases e:ixN xs.length i with
 |none=>rw[e]at h;cases h
 |some j=>
  rw[e]at h
  obtain⟨h1,h2,h3,h4⟩:=qL e
  exact⟨j,h1,h,h2,h3,h4⟩
theorem iQ{α:Type}{xs:List α}{j:Nat}{v:α}(h:xs[j]?=some v):atI xs (j:Int)=some v:=by
 have hj:j<xs.length:=(EB.mp h).1;have e:ixN xs.length (j:Int)=some j:=by unfold ixN;rw[if_pos (by omega),if_pos (by omega)];simp
 unfold atI;rw[e];exact h
def md(b:Expr):Prop:=∀o i,subscripted b false o i=operate [o,i] (getItem o i)
def IxR(X:Cx)(r:R2):Prop:=
 ∀(value slice:Expr) (pins:List (Addr×Obj)) (s:E3) (σ:St) (H:Hp) (x y:V) (v u:E2) (Q:VK),Inv X pins σ H s->RelV x v->RelV y u->r x y H Q->
  subscripted slice false v u=operate [v,u] (getItem v u)->E8 (ED X.prog X.w) X.A (subscriptTail value slice v u) (EP X pins σ Q) X.xe s
def MtR(X:Cx)(id:String)(r:V->List V->Hp->VK->Prop):Prop:=
 ∀(pins:List (Addr×Obj)) (s:E3) (σ:St) (H:Hp) (x:V) (xs:List V) (v:E2) (us:List E2) (Q:VK),Inv X pins σ H s->RelV x v->Vals xs us->r x xs H Q->
  E8 (ED X.prog X.w) X.A (call (.builtin id) (v::us)) (EP X pins σ Q) X.xe s
section
variable{X:Cx}{a b:Expr}{ta tb:TE}{pos:Pos}
theorem IxR.or{r r':R2}(h:IxR X r)(h':IxR X r'):IxR X (fun x y H Q=>r x y H Q\/r' x y H Q):=by
 intro value slice pins s σ H x y v u Q I rx ry q hs;rcases q with q|q
 ·exact h value slice pins s σ H x y v u Q I rx ry q hs
 ·exact h' value slice pins s σ H x y v u Q I rx ry q hs
theorem CN{r:R2}(hr:IxR X r)(ha:PE X a ta)(hb:PE X b tb)(hs:md b):PE X (.Subscript a b pos) (tOp r ta tb):=by intro pins s σ H Q I h;exact Subscript_ (z8 ha hb I h fun v u s2 x y H2 I2 rx ry q=>hr a b pins s2 σ H2 x y v u Q I2 rx ry q (hs _ _))
def Cc(K:E1):R2:=fun x y H Q=>∃p xs i v,x=.ref p/\y=.int i/\SqL K H p xs/\atI xs i=some v/\Q v H
def Dx(K:E1):R2:=fun x y H Q=>∃p xs i v,x=.ref p/\y=.int i/\SqT K H p xs/\atI xs i=some v/\Q v H
def BZ:R2:=fun x y H Q=>∃z i c,x=.str z/\y=.int i/\z.length<=ER/\atI z.cps.toList i=some c/\Q (.str ⟨#[c]⟩) H
theorem za:IxR X (Cc X.K):=by
 intro value slice pins s σ H x y v u Q I rx ry h hs;obtain⟨p,xs,i,z,rfl,rfl,hq,he,q⟩:=h;cases rx;obtain⟨t,rfl⟩:=ry;obtain⟨its,r,pl,hz⟩:=I.list hq;obtain⟨j,h1,h2,h3,h4,h5⟩:=m9 he;obtain⟨w,ew,rw'⟩:=r.get h2;have hl:=r.length;have hn:=ji;have fin:EP X pins σ Q w s:=⟨z,H,I,rw',q⟩;by_cases h0:0<=i
 ·have hj:i.toNat=j:=by rw[seqIndex_of h0 h5]at h1;exact Option.some.inj h1
  exact item_listR pl.isList h0 (by omega) (by rw[hj];simpa using ew) fin hs
 ·have hj:(i+(its.toArray.size:Int)).toNat=j:=by rw[seqIndex_neg (by omega) h4]at h1;rw[EI,<-hl];exact Option.some.inj h1
  exact subscriptTail_builtinR (x:=w) pl.isList.typeIs slot_list_getitem.lookup (wpAny_getItem_list_neg (Q:=fun r s'=>r=w/\EP X pins σ Q r s') pl.isList (by omega) (by rw[EI]<;>omega) (by omega) (by rw[hj];simpa using ew) ⟨rfl,fin⟩) hs
theorem BH:IxR X (Dx X.K):=by intro value slice pins s σ H x y v u Q I rx ry h hs;obtain⟨p,xs,i,z,rfl,rfl,hq,he,q⟩:=h;cases rx;obtain⟨t,rfl⟩:=ry;obtain⟨its,r,pl,hz⟩:=I.tuple hq;obtain⟨j,h1,h2,h3,h4,h5⟩:=m9 he;obtain⟨w,ew,rw'⟩:=r.get h2;have hl:=r.length;have hn:=ji;have fin:EP X pins σ Q w s:=⟨z,H,I,rw',q⟩;exact subscriptTail_builtinR (x:=w) pl.typeIs slot_tuple_getitem.lookup (getItem_tuple (j:=j) (Q:=fun r s'=>r=w/\EP X pins σ Q r s') pl (by omega) (by omega) (by rw[EI,<-hl];exact h1) (by simpa using ew) ⟨rfl,fin⟩) hs
theorem AL:IxR X BZ:=by
 intro value slice pins s σ H x y v u Q I rx ry h hs;obtain⟨z,i,c,rfl,rfl,hz,he,q⟩:=h;obtain⟨t,rfl⟩:=rx;obtain⟨t',rfl⟩:=ry;obtain⟨j,h1,h2,h3,h4,h5⟩:=m9 he;have hl:z.cps.toList.length=z.length:=by simp[Str.length]
 rw[hl]at h1 h4 h5;have hn:=ji
 exact tail_any (typeIs_str s z t) slot_str_getitem.lookup (getItem_str (c:=c) (by
  have e1:decide (i < -(2^63:Int))=false:=decide_eq_false (by omega)
  have e2:decide (i≥2^63)=false:=decide_eq_false (by omega)
  rw[e1,e2,Bool.or_false]) (by rw[h1];simpa using h2) ⟨.str ⟨#[c]⟩,H,I.tok _,⟨_,rfl⟩,q⟩) hs
def rIx(K:E1):R2:=fun x y H Q=>Cc K x y H Q\/Dx K x y H Q\/BZ x y H Q
theorem Bz:IxR X (rIx X.K):=za.or (BH.or AL)
theorem pS(its:List E2)(n j:Nat)(u:E2):FL (·.setIfInBounds j u) { cls:=.type "list",data:=.seq its.toArray n }={ cls:=.type "list",data:=.seq (its.set j u).toArray n }:=by simp[FL]
theorem Inv.lst{pins:List (Addr×Obj)}{σ:St}{H:Hp}{s:E3}{p:Addr}{xs:List V}(I:Inv X pins σ H s)(h:H p=some (.lst xs)) : ∃(its:List E2) (n:Nat),Vals xs its/\s.heap.get? p=some { cls:=.type "list",data:=.seq its.toArray n }/\xs.length<=ER:=by obtain⟨z,its,n,r,e⟩:=I.hok p _ h;exact⟨its,n,r,e,z⟩
theorem Inv.AW{pins:List (Addr×Obj)}{σ:St}{H:Hp}{s:E3}{p:Addr}{xs ys:List V}{its its':List E2}{n n':Nat}{f:Obj->Obj}(I:Inv X pins σ H s)(h:H p=some (.lst xs))
 (ho:s.heap.get? p=some { cls:=.type "list",data:=.seq its.toArray n }) (hf:f { cls:=.type "list",data:=.seq its.toArray n }={ cls:=.type "list",data:=.seq its'.toArray n' }) (r:Vals ys its') (hz:ys.length<=ER) (t:Nat) :
 Inv X pins σ (upd H p (.lst ys)) { s with heap:=s.heap.update p f,toks:=t }:=by
 have e:(s.heap.update p f).get? p=some { cls:=.type "list",data:=.seq its'.toArray n' }:=by
  rw[Fy f ho (by rw[hf]<;>rfl),hf]
 refine I.write (x:=p) (e:=p) (by rw[h];trivial) (.inl rfl) (fun b u hb q=>(EW _ _ (Ne.symm hb)).trans q) ⟨_,e⟩ ?_
 exact⟨hz,its',n',r,e⟩
def CG:V->V->V->Hp->(Hp->Prop)->Prop:=fun o i v H Q=>∃p xs k j,o=.ref p/\i=.int k/\H p=some (.lst xs)/\ixN xs.length k=some j/\Q (upd H p (.lst (xs.set j v)))
theorem set_list:Cu X CG:=by
 intro pins s σ H o i v ov iv u Q I ro ri rv h;obtain⟨p,xs,k,j,rfl,rfl,hp,hj,q⟩:=h;cases ro;obtain⟨t,rfl⟩:=ri;obtain⟨its,n,r,ho,hz⟩:=I.lst hp;obtain⟨h1,h2,h3,h4⟩:=qL hj;have hl:=r.length;have hn:=ji;have I':Inv X pins σ (upd H p (.lst (xs.set j v))) { s with heap:=s.heap.update p (FL (·.setIfInBounds j u)) }:=I.AW hp ho (pS its n j u) (r.set rv j) (by rw[List.length_set];exact hz) s.toks;by_cases h0:0<=k
 ·have hk:k.toNat=j:=by rw[seqIndex_of h0 h4]at h1;exact Option.some.inj h1
  exact PySem.W.ki_setAt ho h0 (by omega) (by rw[EI,<-hl];exact h4) (by rw[hk];exact⟨_,I',q⟩)
 ·have hk:(k+(its.toArray.size:Int)).toNat=j:=by rw[seqIndex_neg (by omega) h3]at h1;rw[EI,<-hl];exact Option.some.inj h1
  exact PySem.W.ki_setBack ho (by omega) (by rw[EI,<-hl];exact h3) (by omega) (by rw[hk];exact⟨_,I',q⟩)
theorem mI(lo hi:Option Int)(n:Nat):(sliceBounds lo hi none n).1=((HT.sIx n 0 lo:Nat):Int)/\(sliceBounds lo hi none n).2.1=((HT.sIx n n hi:Nat):Int)/\(sliceBounds lo hi none n).2.2=1:=by
 refine⟨?_,?_,rfl⟩
 ·cases lo with
  |none=>simp[sliceBounds,HT.sIx]
  |some i=>
   simp only[sliceBounds,HT.sIx,Option.getD_none,show(1:Int)>0 by decide,if_true]
   by_cases h:i<0
   ·simp only[h,if_true]<;>omega
   ·simp only[h,if_false]<;>omega
 ·cases hi with
  |none=>simp[sliceBounds,HT.sIx]
  |some i=>
   simp only[sliceBounds,HT.sIx,Option.getD_none,show(1:Int)>0 by decide,if_true]
   by_cases h:i<0
   ·simp only[h,if_true]<;>omega
   ·simp only[h,if_false]<;>omega
theorem j5(its:List E2)(lo hi:Option Int):slicePick its.toArray lo hi none=((its.drop (HT.sIx its.length 0 lo)).take (HT.sIx its.length its.length hi-HT.sIx its.length 0 lo)).toArray:=by obtain⟨h1,h2,h3⟩:=mI lo hi its.toArray.size;unfold slicePick;rw[h1,h2,h3];simp only[sliceRange_one,pick_run,EI]<;>rfl
def Ea(K:E1):V->Option Int->Option Int->Hp->VK->Prop:=fun x lo hi H Q=>∃a xs,x=.ref a/\SqL K H a xs/\∀p,H p=none->Q (.ref p) (upd H p (.lst (nj xs lo hi)))
theorem yf:SlR X (Ea X.K):=by intro pins s σ H x v vl vu lo hi sl Q I rx hs pl pu h;obtain⟨a,xs,rfl,hx,q⟩:=h;cases rx;obtain⟨its,r,ht,hz⟩:=I.list hx;have hlen:=r.length;refine⟨"list",_,slot_list_getitem.lookup,ht.isList.typeIs,?_⟩;refine wpAny_getItem_list_slice ht.isList hs pl pu .none (by simp) ?_ (by rw[EI]<;>omega);rw[j5,<-hlen];refine⟨.ref s.heap.objs.size,_,I.laid (t':=s.toks) (o:=.lst (nj xs lo hi)) (fun b ob q=>E4 _ q) (E9 _) ?_,rfl,q _ (I.hok.fresh (E9 _))⟩;exact⟨Fh (iF xs lo hi) hz,_,0,(r.drop (HT.sIx xs.length 0 lo)).take (HT.sIx xs.length xs.length hi-HT.sIx xs.length 0 lo),EC _ rfl⟩
theorem ml:bE X (.builtin "len") (fun xs H Q=>∃p ys,xs=[.ref p]/\(SqL X.K H p ys\/SqT X.K H p ys)/\Q (.int ys.length) H):=by
 intro pins s σ H xs us Q I r h;obtain⟨p,ys,rfl,hq,q⟩:=h;obtain⟨u,rfl,rx⟩:=vals1 r;cases rx;have hn:=ji;rcases hq with hq|hq
 ·obtain⟨its,r',pl,hz⟩:=I.list hq;have hlen:=r'.length;exact Calls.call_len_list pl.isList (by simp only[EI]<;>omega) ⟨.int ys.length,H,I.tok _,⟨s.toks+1,by rw[EI,hlen]⟩,q⟩
 ·obtain⟨its,r',pl,hz⟩:=I.tuple hq;have hlen:=r'.length;exact len_tuple pl (by simp only[EI]<;>omega) ⟨.int ys.length,H,I.tok _,⟨s.toks+1,by rw[EI,hlen]⟩,q⟩
theorem bE.or{f:E2}{r r':List V->Hp->VK->Prop}(h:bE X f r)(h':bE X f r'):bE X f (fun xs H Q=>r xs H Q\/r' xs H Q):=by
 intro pins s σ H xs us Q I rs q;rcases q with q|q
 ·exact h pins s σ H xs us Q I rs q
 ·exact h' pins s σ H xs us Q I rs q
theorem mG:bE X (.type "list") (fun xs H Q=>∃p ys,xs=[.ref p]/\(SqL X.K H p ys\/SqT X.K H p ys)/\∀l,H l=none->Q (.ref l) (upd H l (.lst ys))):=by
 intro pins s σ H xs us Q I r h;obtain⟨p,ys,rfl,hq,q⟩:=h;obtain⟨u,rfl,rx⟩:=vals1 r;cases rx;have fin:∀(its:List E2),Vals ys its->ys.length<=ER->∀(h':Heap) (c':Nat),(∀b o',s.heap.get? b=some o'->h'.get? b=some o')->h'.get? s.heap.objs.size=some { cls:=.type "list",dict:=none,data:=.seq its.toArray c',slots:=#[] }->EP X pins σ Q (.ref s.heap.objs.size) { s with heap:=h' }:=fun its r' hz h' c' kp e=>⟨.ref s.heap.objs.size,_,I.laid (t':=s.toks) kp (E9 _) (show bB X.prog X.w _ h' _ (.lst ys)from⟨hz,its,c',r',e⟩),rfl,q _ (I.hok.fresh (E9 _))⟩;rcases hq with hq|hq
 ·obtain⟨its,r',pl,hz⟩:=I.list hq;have hlen:=r'.length;obtain⟨o,ho,hc,n,hd⟩:=pl.isList;exact call_list_seq p (.inl rfl) ho hc hd (fun h' c' kp e=>fin its r' hz h' c' kp e) (by simp only[EI]<;>omega)
 ·obtain⟨its,r',pl,hz⟩:=I.tuple hq;have hlen:=r'.length;obtain⟨o,ho,hc,n,hd⟩:=pl;exact call_list_seq p (.inr rfl) ho hc hd (fun h' c' kp e=>fin its r' hz h' c' kp e) (by simp only[EI]<;>omega)
theorem ka:bE X (.type "tuple") (fun xs H Q=>∃p ys,xs=[.ref p]/\((SqL X.K H p ys/\∀l,H l=none->Q (.ref l) (upd H l (.tup ys)))\/(SqT X.K H p ys/\Q (.ref p) H))):=by
 intro pins s σ H xs us Q I r h;obtain⟨p,ys,rfl,h⟩:=h;obtain⟨u,rfl,rx⟩:=vals1 r;cases rx;rcases h with⟨hq,q⟩|⟨hq,q⟩
 ·obtain⟨its,r',pl,hz⟩:=I.list hq;have hlen:=r'.length;refine call_tuple_list pl.isList (fun h' kp=>?_) (by simp only[EI]<;>omega);have I1:Inv X pins σ H { s with heap:=h' }:=I.kept (t':=s.toks) kp;have I2:Inv X pins σ (upd H h'.objs.size (.tup ys)) { s with heap:=h'.push { cls:=.type "tuple",data:=.seq its.toArray } }:=I1.laid (t':=s.toks) (fun b o e=>E4 _ e) (E9 _) (show bB X.prog X.w _ _ _ (.tup ys)from⟨hz,its,r',IsTup.new _ _⟩);exact⟨.ref h'.objs.size,_,I2,rfl,q _ (I1.hok.fresh (E9 _))⟩
 ·obtain⟨its,r',pl,hz⟩:=I.tuple hq;exact call_tuple_same pl ⟨.ref p,H,I,rfl,q⟩
def tyV(K:E1)(T:String)(x:V)(H:Hp):Prop:=match x with
 |.str _=>T="str"
 |.int _=>T="int"
 |.ref p=>(T="list"/\∃xs,SqL K H p xs)\/(T="tuple"/\∃o,K.lookup p=some o/\o.cls=.type "tuple"/\o.dict=none)\/
  (T="dict"/\((∃kvs,H p=some (.dK kvs))\/∃kvs,H p=some (.dT kvs)))\/(T="set"/\∃S n,H p=some (.set S n))
 |_=>False
theorem AA{pins:List (Addr×Obj)}{σ:St}{H:Hp}{s:E3}{T:String}{x:V}{v:E2}(I:Inv X pins σ H s)(r:RelV x v)(ty:tyV X.K T x H) : s.TypeIs v T/\∀a,v=.ref a->∃ob,s.heap.get? a=some ob/\ob.dict=none:=by
 cases x with
 |str z=>
  obtain⟨t,rfl⟩:=r
  cases (show T="str" from ty)
  exact⟨typeIs_str s z t,fun _ e=>nomatch e⟩
 |int i=>
  obtain⟨t,rfl⟩:=r
  cases (show T="int" from ty)
  exact⟨typeIs_int s i t,fun _ e=>nomatch e⟩
 |ref p=>
  cases r
  rcases ty with⟨rfl,xs,hq⟩|⟨rfl,o,hk,hc,hd⟩|⟨rfl,hk⟩|⟨rfl,S,n,hk⟩
  ·obtain⟨its,_,pl,_⟩:=I.list hq;refine⟨pl.isList.typeIs,fun a e=>?_⟩;cases e;obtain⟨o,n,e,c,hd,_⟩:=pl;exact⟨o,e,hd⟩
  ·refine⟨⟨o,I.kIn p o hk,hc⟩,fun a e=>?_⟩;cases e;exact⟨o,I.kIn _ o hk,hd⟩
  ·have z:∃o,s.heap.get? p=some o/\o.ExactDict:=by
    rcases hk with⟨kvs,hk⟩|⟨kvs,hk⟩
    ·obtain⟨_,_,_,_,o,_,_,e,ex,_⟩:=I.hok p _ hk;exact⟨o,e,ex⟩
    ·obtain⟨_,_,_,_,o,_,_,e,ex,_⟩:=I.hok p _ hk;exact⟨o,e,ex⟩
   obtain⟨o,e,ex⟩:=z;refine⟨⟨o,e,ex.1⟩,fun a e2=>?_⟩;cases e2;exact⟨o,e,ex.2.1⟩
  ·obtain⟨o,_,_,_,e,ex,_⟩:=I.hok p _ hk;refine⟨⟨o,e,ex.1⟩,fun a e2=>?_⟩;cases e2;exact⟨o,e,ex.2.1⟩
 |_=>exact FC ty
def tBM(K:E1)(T:String)(r:V->List V->Hp->VK->Prop)(to:TE)(t:TA):TE:=fun σ H Q=>to σ H fun x H1=>tyV K T x H1/\t σ H1 fun xs H2=>r x xs H2 Q
variable{o e:Expr}{es:List Expr}{to:TE}{t:TA}{name:Str}{apos cpos:Pos}{T id:String}{r:V->List V->Hp->VK->Prop}
theorem xb(pa:PlainAttrs T)(slot:Slot T name id)(hty:typeOf (.builtin id)=pure (.type "method_descriptor"))(hm:MtR X id r)(ho:PE X o to)(ha:PA X (e::es) t)
 (hbase:attributeBase o name X.env (eval o X.env)=eval o X.env:=by rfl)
 (hfew:((G6 cpos (EH (e::es) X.env)).all (fun x=>!x.1)&&(backToKw cpos (keywordEach [] X.env)).all (fun x=>x.1.isSome)
  && decide ((e::es).length+([]:List Keyword).length+(if([]:List Keyword).isEmpty then 0 else 1)<30))=true:=by rfl)
 (hline:(apos.endLine==cpos.line)=true:=by rfl) (hs:EH (e::es) X.env=(false,eval e X.env)::EH es X.env:=by rfl) (hplain:(G6 cpos (EH es X.env)).any (·.1)=false:=by rfl) :
 PE X (.Call (.Attribute o name apos) (e::es) [] cpos) (tBM X.K T r to t):=by
 intro pins s σ H Q I h
 refine wpAny_Call_method_late hbase hfew hline rfl (thn (ho pins s σ H _ I h) fun v s1 zz69_0=>?_)
 obtain⟨x,H1,I1,r1,ty,q1⟩:=zz69_0
 obtain⟨h1,h2⟩:=AA I1 r1 ty
 refine⟨T,id,pa,slot,hty,h1,h2,?_⟩
 have hA:=ha cpos pins s1 σ H1 _ I1 q1
 rw[hs]at hA ⊢
 refine Calls.callWith_builtin (by show(false||(G6 cpos (EH es X.env)).any (·.1))=false;rw[hplain]<;>rfl) (Calls.evalArgs_plain ?_)
 exact thn hA fun us s2 zz70_0=>by obtain⟨vs,H2,I2,r2,q2⟩:=zz70_0;exact(hm pins s2 σ H2 x vs v us Q I2 r1 r2 q2)
/- xs.append(e),list.index on a module's tuple .. are MtR facts of 06m -/
end
def MtM(X:Cx)(id:String)(r:V->List V->Hp->VK->Prop):Prop:=
 ∀(pins:List (Addr×Obj)) (s:E3) (σ:St) (H:Hp) (x:V) (xs:List V) (v:E2) (us:List E2) (Q:VK),Inv X pins σ H s->RelV x v->Vals xs us->r x xs H Q->
  E8 (ED X.prog X.w) X.A (call (.builtin id) (v::us)) (EP X pins σ Q) X.xe s
theorem Vals.one:∀{x:V} {us:List E2},Vals [x] us->∃u,us=[u]/\RelV x u
 |_,_,.cons r .nil=>⟨_,rfl,r⟩
theorem Vals.two:∀{x y:V} {us:List E2},Vals [x,y] us->∃u v,us=[u,v]/\RelV x u/\RelV y v
 |_,_,_,.cons r (.cons q .nil)=>⟨_,_,rfl,r,q⟩
section
variable{X:Cx}{pins:List (Addr×Obj)}{σ:St}{H:Hp}{s:E3}{l b:Addr}{xs ys zs:List V}
theorem Inv.CC{its its':List E2}{n:Nat}{f:Array E2->Array E2}{t':Nat}(I:Inv X pins σ H s)(hH:H l=some (.lst xs))
 (e:s.heap.get? l=some { cls:=.type "list",data:=.seq its.toArray n }) (hf:f its.toArray=its'.toArray) (hv:Vals ys its') (hz:ys.length<=ER) :
 Inv X pins σ (upd H l (.lst ys)) { s with heap:=s.heap.update l (FL f),toks:=t' }:=by
 have q:=PySem.IsL.update e f
 rw[hf]at q
 refine I.write (x:=l) (e:=l) (by rw[hH];exact trivial) (.inl rfl) (fun b' u hb hu=>(EW s.heap (FL f) (Ne.symm hb)).trans hu) ⟨_,q⟩ ?_
 exact⟨hz,its',_,hv,q⟩
theorem Inv.Eg{its:List E2}{t':Nat}(I:Inv X pins σ H s)(hv:Vals ys its)(hz:ys.length<=ER) : Inv X pins σ (upd H s.heap.objs.size (.lst ys)) { s with heap:=s.heap.push { cls:=.type "list",data:=.seq its.toArray },toks:=t' }:=I.laid (fun _ _ q=>E4 _ q) (E9 _) ⟨hz,its,0,hv,EC _ rfl⟩
theorem Inv.fresh(I:Inv X pins σ H s):H s.heap.objs.size=none:=I.hok.fresh (E9 _)
theorem Inv.kh(I:Inv X pins σ H s)(hH:H l=some (.lst xs)):xs.length<=ER/\∃(its:List E2) (n:Nat),Vals xs its/\xs.length=its.length/\s.heap.get? l=some { cls:=.type "list",data:=.seq its.toArray n }:=by obtain⟨z,its,n,r,e⟩:=I.hok l _ hH;exact⟨z,its,n,r,r.length,e⟩
end
section
variable{X:Cx}
def zd:V->List V->Hp->VK->Prop:=fun x vs H Q=>∃l xs y,x=.ref l/\vs=[y]/\H l=some (.lst xs)/\xs.length<ER/\Q .non (upd H l (.lst (xs++[y])))
theorem kL:MtM X "list.append" zd:=by intro pins s σ H x vs v us Q I rx rv h;obtain⟨l,xs,y,rfl,rfl,hH,hz,q⟩:=h;cases rx;obtain⟨u,rfl,ru⟩:=rv.one;obtain⟨z,its,n,r,hl,e⟩:=I.kh hH;refine call_meets F.slot_list_append ⟨_,e,rfl⟩ F.entry_list_append (F.args_list_append_2 _ _) (PySem.list_append l its.toArray n u (by rw[EI];omega)) ⟨e,?_⟩;refine⟨.non,_,I.CC (its':=its++[u]) hH e (by simp) (r.append (.cons ru .nil)) ?_,rfl,q⟩;rw[Gh,List.length_singleton];omega
def DP:R2:=fun x y H Q=>∃l b xs zs,x=.ref l/\y=.ref b/\H l=some (.lst xs)/\H b=some (.lst zs)/\xs.length+zs.length<=ER/\∀p,H p=none->Q (.ref p) (upd H p (.lst (xs++zs)))
theorem AY:OpR X (Hk .Add) DP:=by
 intro pins s σ H x y v u Q I rx ry h;obtain⟨l,b,xs,zs,rfl,rfl,hH,hB,hz,q⟩:=h;cases rx;cases ry;obtain⟨z,its,n,r,hl,e⟩:=I.kh hH;obtain⟨z2,its2,n2,r2,hl2,e2⟩:=I.kh hB;refine PySem.P.add_list e e2 ?_ (by rw[EI,EI];omega);have ea:its.toArray++its2.toArray=(its++its2).toArray:=by simp
 rw[ea];exact⟨.ref _,_,I.Eg (t':=s.toks) (r.append r2) (by rw[Gh];omega),rfl,q _ I.fresh⟩
end
end L2
namespace Att
open PySem PySem.W PySem.Calls PyProof.Rows
theorem iJ{P:EG}{h:Heap}:∀(ns:List Int) (vs:List E2),WellAll P h vs (ns.map WData.int)->Gb vs ns:=by
 intro ns
 induction ns with
 |nil=>
  intro vs w
  rw[Gq]at w
  cases w
  exact .nil
 |cons n ns ih=>
  intro vs w
  rw[EJ]at w
  cases w with
  |cons a b=>
   cases a
   exact .cons _ _ (ih _ b)
theorem sM{l:OpenLaw}{n:Nat}(hn:l.most=some n){P:EG}{h:Heap}{args:List WData}{vals:List E2}
 (hpre:l.row.toRowW.claim.pre args=true) (hwl:WellAll P h vals args) :
 ∃a vs ns,vals=[F6 a]/\args=[WData.list (ns.map WData.int)]/\h.get? a=some { cls:=.type "list",data:=.seq vs.toArray }/\Gb vs ns/\ns.length<=n:=by
 have hsh:WShape.hasAll [] args [.list .int]=true:=(pre_splitW hpre).1
 have hc:l.pre.holds [] { args:=args }=true:=(pre_splitW hpre).2
 obtain⟨d,r,rfl,h1,h2⟩:=hasAllW_cons hsh
 obtain rfl:=hasAllW_nil h2
 obtain⟨xs,rfl,h3⟩:=hasW_list h1
 obtain⟨ns,rfl⟩:=items_int h3
 have hlen:ns.length<=n:=by
  unfold OpenLaw.pre at hc
  have h4:(WTm.not (.lt (.lit (.int (n:Int))) (.len (.arg 0)))).holds [] { args:=[.list (ns.map .int)] }=true:=by
   have h4:=(holds_andW hc).1
   rw[hn]at h4
   exact h4
  have h5:=condW_of h4 (w_not (w_lt w_lit (w_len_list (w_arg rfl))))
  rw[E6]at h5
  refine Nat.le_of_not_lt fun q=>?_
  have q':(n:Int)<((ns.length:Nat):Int):=by omega
  first
   |(rw[decide_eq_true q']at h5;exact absurd h5 (by decide))
   |(simp at h5;omega)
 cases hwl with
 |cons w1 w2=>
  cases w2
  cases w1 with
  |list ho hall=>exact⟨_,_,ns,rfl,rfl,ho,iJ ns _ hall,hlen⟩
theorem sE(l:OpenLaw)(args:List WData):l.row.toRowW.claim.post args (.bool true) args=true:=
 postW_of (r:=l.row.toRowW) (X:=(true==true))
  (show WShape.has [] (.bool true) .bool=true by first|rfl|decide|simp[WShape.has,WShape.arms,WShape.armsAll])
  (show(WTm.eq .res (.lit (.bool true))).value [] { args:=args,res:=some (.bool true),after:=args }=some (.bool (true==true))from w_eq_bool (w_res rfl) w_lit) rfl
theorem nR{l:OpenLaw}{n:Nat}{q:EF}{loose:List Str}{XP:(Str->Option E2)->Heap->Prop}{YP:EZ->Heap->Prop}{d:DefRec}
 (hn:l.most=some n) (hdf:d.params.defaults=[])
 (call:∀(w:EZ) (s₀ s₁:E3) (mg mb:Str->Option E2) (fa:Addr) (o:Obj) (pm cd doc:E2) (a:Addr) (vs:List E2) (ns:List Int),
  Ground q loose [] XP w s₀ mg mb s₁.heap->YP w s₁.heap->
  s₁.heap.get? fa=some o->o.data=.func (docDef d.name d.params d.body d.scope pm cd doc)->s₁.heap.CodeRec cd d.name->mg d.name=some (.ref fa)->
  s₁.heap.get? a=some { cls:=.type "list",data:=.seq vs.toArray }->Gb vs ns->ns.length<=n->s₁.gens=#[]->
  Hc (ED l.prog w) callerA (.call (.ref fa) ⟨[.ref a],[]⟩) (fun r s'=>r=.ok (.ret (.bool true))/\OldK s₁.heap s'.heap/\s'.os=s₁.os/\AllBare s'.gens) s₁) :
 WalkO q loose XP YP l.row.toRowW d [] (fun f vs=>PySem.call f vs):=by
 intro w s₀ s₁ mg mb G Y fa o pm cd doc dV kV ho hd hcd hD hmg hg args vals as hpre hlay hrd hwl hlo
 obtain rfl:dV=.none:=Dflts.none hD hdf
 obtain rfl:kV=.none:=Dflts.noKw hD
 obtain⟨a,vs,ns,rfl,rfl,hobj,hints,hlen⟩:=sM hn hpre hwl
 refine enter_call (codeAny_mono (call w s₀ s₁ mg mb fa o pm cd doc a vs ns G Y ho (fd_plain hd) hcd hmg hobj hints hlen hg) fun r s' hq=>?_)
 obtain⟨rfl,h2,h3,h4⟩:=hq
 exact⟨.inl ⟨.bool true,.bool true,[],rfl,fun _=>rfl,.bool true,sE l _,fun _=>⟨List.Pairwise.nil,fun _ hm=>(nomatch hm)⟩⟩,h2,h3,h4⟩
section
variable{prog:EF}{w:EZ}{A:EX}{E:E2->E3->Prop}{s:E3}{K:Frag}
end
end Att
namespace L2
open PySem PySem.Spec PyProof.Rows
theorem kQ:∀{vs:List E2} {ns:List Int},Gb vs ns->Vals (ns.map V.int) vs
 |_,_,.nil=>.nil
 |_,_,.cons n t h=>.cons ⟨t,rfl⟩ (kQ h)
abbrev KOf{K:E1}{h:Heap}(_:K.In h):E1:=K
def aX(s:Stmt):Arguments:=match s with
 |.FunctionDef _ a _ _ _ _ _ _ _ _=>a
 |_=>{ posonlyargs:=[],args:=[],vararg:=none,kwonlyargs:=[],kw_defaults:=[],kwarg:=none,defaults:=[] }
def aL(s:Stmt):List Stmt:=match s with
 |.FunctionDef _ _ b _ _ _ _ _ _ _=>b
 |_=>[]
def aq(s:Stmt):Gz:=match s with
 |.FunctionDef _ _ _ _ _ _ sc _ _ _=>sc
 |_=>{ kind:=.function,names:=[],isGenerator:=false,isCoroutine:=false }
abbrev CX0:CXT:=fun _ _ _ _ _ _=>False
abbrev E0:XK:=fun _ _ _=>False
theorem B1{X:Cx}:Passes CX0 X E0:=fun _ _ _ _ _ _ _ h=>h.elim
structure Fun(K:E1)(x qual:Str)(st:Stmt)(f:Addr)(fd:Hl):Prop where
 ex:∃(oc:E2) (od:Option Addr) (kV doc pm:E2) (an:Option Addr) (cdv ct:E2) (osl:Array (Option E2)),
  fd=FI x qual (aX st) (aL st) (aq st) .none kV doc pm an cdv ct/\K.lookup f=some ⟨oc,od,.func fd,osl⟩/\Hv K cdv qual=true
 kp:G7 K (.ref f)=true
section
variable{P:EF}{w:EZ}{K:E1}{mg:Str->Option E2}{base:Heap}
theorem Fun.ok{x qual:Str}{st:Stmt}{f:Addr}{fd:Hl}{N ps:List Str}{k:Nat}{sp:Sp}(F:Fun K x qual st f fd)(S:FnScope N ps (aq st))(len:∀vs H Q E,sp vs H Q E->vs.length=ps.length)
 (hbody:∀(cdv:E2) (A:EX) (outer:List Env) (s:E3) (H:Hp) (vs:List V) (Q:VK) (E:XK),Room k (A.deeper (envOfC qual (aq st) s.heap.objs.size f cdv))->sp vs H Q E->
  ∃t,PSs (aW CX0 P w K mg base N qual (aq st) f cdv A outer s H E).nox (aL st) t/\t { nx:=fun _ H'=>Q .non H',rt:=Q } (start N vs) H):FnOk P w K mg base CX0 (k+1) f fd ps sp:=by
 obtain⟨oc,od,kV,doc,pm,an,cdv,ct,osl,rfl,lk,hcd⟩:=F.ex
 refine ue lk hcd S len fun A outer s H vs Q E hr hsp=>?_
 obtain⟨t,h,q⟩:=hbody cdv A outer s H vs Q E hr hsp
 exact⟨t,h.nox,q⟩
theorem Fun.binds{x qual:Str}{st:Stmt}{f:Addr}{fd:Hl}{ps:List Str}(F:Fun K x qual st f fd) (h:∀(kV doc pm:E2) (an:Option Addr) (cdv ct:E2) (us:List E2),us.length=ps.length->bindArgs (FI x qual (aX st) (aL st) (aq st) .none kV doc pm an cdv ct) ⟨us,[]⟩=pure (ps.zip us)):Binds K fd ps []:=by obtain⟨oc,od,kV,doc,pm,an,cdv,ct,osl,rfl,lk,hcd⟩:=F.ex;exact .all (h kV doc pm an cdv ct)
theorem uQ{x qual:Str}{st:Stmt}{f:Addr}{oc:E2}{od an:Option Addr}{osl:Array (Option E2)}{kV doc pm cdv ct:E2}(l:K.lookup f=some ⟨oc,od,.func (FI x qual (aX st) (aL st) (aq st) .none kV doc pm an cdv ct),osl⟩) (c:Hv K cdv qual=true) (k:G7 K (.ref f)=true):Fun K x qual st f (FI x qual (aX st) (aL st) (aq st) .none kV doc pm an cdv ct):=⟨⟨oc,od,kV,doc,pm,an,cdv,ct,osl,rfl,l,c⟩,k⟩
end
section
variable{X:Cx}
theorem pv(i:Nat){x:Str}{pos:Pos}(hN:X.N[i]?=some x:=by rfl)(hv:Vis X.env.scope x:=by first|exact Or.inl rfl|exact Or.inr (Or.inl rfl)|exact Or.inr (Or.inr rfl))(hd:(x==("__debug__":Str))=false:=by decide) (hcd:(x==("__classdict__":Str))=false:=by decide):PE X (.Name x pos) (wY i):=vT hN hv hd hcd
end
theorem En{A B:Prop}(h:A):if true=true then A else B:=by rw[if_pos rfl];exact h
theorem bL{c A B:Prop}[Decidable c](h1:c->A)(h2:¬c->B):if c then A else B:=by
 by_cases h:c
 ·rw[if_pos h];exact h1 h
 ·rw[if_neg h];exact h2 h
section
variable{X:Cx}{pins:List (Addr×Obj)}{σ:St}{H:Hp}{s:E3}{a:Addr}{y v:V}{u r:E2}{o:Option V}{A:EX}{E:E2->E3->Prop}
theorem Inv.big(I:Inv X pins σ H s):Hy<s.heap.objs.size:=by have h:EY<s.heap.objs.size:=(I.mod.glob.keeps I.bk).lt;exact Nat.lt_trans (by decide) h
theorem lL{h':Heap}{t':Nat}{ob:HO}(I:Inv X pins σ H s)(mu:Mut (H a))(hs:Hi a s.heap h')(he:∃q,h'.get? a=some q)(new:bB X.prog X.w (upd H a ob) h' a ob) : Inv X pins σ (upd H a ob) { s with heap:=h',toks:=t' }:=I.write (x:=a) (e:=a) mu (.inl rfl) (fun b q hb z=>(hs.2 b hb).trans z) he new
end
def CI(i:Expr):Prop:=∀ov iv,subscripted i false ov iv=operate [ov,iv] (getItem ov iv)
end L2
namespace SD
theorem xi{α:Type}{l:List α}(h:l.length=1):∃a,l=[a]:=by
 cases l with
 |nil=>cases h
 |cons a l=>
  cases l with
  |nil=>exact⟨a,rfl⟩
  |cons b l=>cases h
theorem Et{α:Type}{n:Nat}{l:List α}(h:l.length=n+1):∃a r,l=a::r/\r.length=n:=by
 cases l with
 |nil=>cases h
 |cons a l=>exact⟨a,l,rfl,Nat.succ.inj h⟩
theorem AG{α:Type}{l:List α}(h:l.length=2):∃a b,l=[a,b]:=by obtain⟨a,r,rfl,h2⟩:=Et h;obtain⟨b,rfl⟩:=xi h2;exact⟨a,b,rfl⟩
open PySem PySem.Spec PyProof.Rows L2
inductive D where
 |non|bl (b:Bool)|int (i:Int)|str (x:Str)|ty (n:String)|ref (a:Addr)|rol (ds:List D)|tup (ds:List D)
def SqF(K:E1)(H:Hp)(a:Addr)(xs:List V):Prop:=
 (∃o,H a=some (.frz o (.lst xs)))\/
  ∃(o:Obj) (its:Array E2) (n:Nat),K.lookup a=some o/\o.cls=.type "list"/\o.dict=none/\o.data=.seq its n/\its.size<=ER/\Vals xs its.toList
theorem SqF.sql{K:E1}{H:Hp}{a:Addr}{xs:List V}(h:SqF K H a xs):SqL K H a xs:=by
 rcases h with h|h
 ·exact .inl (.inr h)
 ·exact .inr h
mutual
def Rep(K:E1)(H:Hp):D->V->Prop
 |.non,v=>v=.non
 |.bl b,v=>v=.bl b
 |.int i,v=>v=.int i
 |.str x,v=>v=.str x
 |.ty n,v=>v=.ty n
 |.ref a,v=>v=.ref a
 |.rol ds,v=>∃a xs,v=.ref a/\SqF K H a xs/\aB K H ds xs
 |.tup ds,v=>∃a xs,v=.ref a/\SqT K H a xs/\aB K H ds xs
def aB(K:E1)(H:Hp):List D->List V->Prop
 |[],xs=>xs=[]
 |d::ds,xs=>∃x r,xs=x::r/\Rep K H d x/\aB K H ds r
end
structure Grow(K:E1)(H H':Hp):Prop where
 t:∀a xs,SqT K H a xs->SqT K H' a xs
 f:∀a xs,SqF K H a xs->SqF K H' a xs
theorem Grow.refl{K:E1}{H:Hp}:Grow K H H:=⟨fun _ _ h=>h,fun _ _ h=>h⟩
theorem Grow.trans{K:E1}{H H1 H2:Hp}(a:Grow K H H1)(b:Grow K H1 H2):Grow K H H2:=⟨fun x y h=>b.t x y (a.t x y h),fun x y h=>b.f x y (a.f x y h)⟩
theorem Grow.put{K:E1}{H:Hp}{p:Addr}{o:HO}(h1:∀xs,H p≠some (.tup xs))(h2:∀u xs,H p≠some (.frz u xs)):Grow K H (upd H p o):=by
 refine⟨fun a xs h=>?_,fun a xs h=>?_⟩
 ·rcases h with(h|⟨u,h⟩)|h
  ·exact .inl (.inl (by rw[az (by intro e;subst e;exact h1 _ h)];exact h))
  ·exact .inl (.inr ⟨u,by rw[az (by intro e;subst e;exact h2 _ _ h)];exact h⟩)
  ·exact .inr h
 ·rcases h with⟨u,h⟩|h
  ·exact .inl ⟨u,by rw[az (by intro e;subst e;exact h2 _ _ h)];exact h⟩
  ·exact .inr h
theorem Grow.new{K:E1}{H:Hp}{p:Addr}{o:HO}(h:H p=none):Grow K H (upd H p o):=.put (fun xs e=>by rw[h]at e;cases e) (fun u xs e=>by rw[h]at e;cases e)
theorem Grow.lst{K:E1}{H:Hp}{p:Addr}{o:HO}{xs:List V}(h:H p=some (.lst xs)):Grow K H (upd H p o):=.put (fun ys e=>by rw[h]at e;cases e) (fun u ys e=>by rw[h]at e;cases e)
mutual
theorem Rep.mono{K:E1}{H H':Hp}(g:Grow K H H'):∀{d:D} {v:V},Rep K H d v->Rep K H' d v
 |.non,_,h=>h
 |.bl _,_,h=>h
 |.int _,_,h=>h
 |.str _,_,h=>h
 |.ty _,_,h=>h
 |.ref _,_,h=>h
 |.rol ds,_,h=>by
  rw[Rep]at h ⊢
  obtain⟨a,xs,e,h1,h2⟩:=h
  exact⟨a,xs,e,g.f _ _ h1,aB.mono g h2⟩
 |.tup ds,_,h=>by
  rw[Rep]at h ⊢
  obtain⟨a,xs,e,h1,h2⟩:=h
  exact⟨a,xs,e,g.t _ _ h1,aB.mono g h2⟩
theorem aB.mono{K:E1}{H H':Hp}(g:Grow K H H'):∀{ds:List D} {xs:List V},aB K H ds xs->aB K H' ds xs
 |[],_,h=>h
 |d::ds,_,h=>by
  rw[aB]at h ⊢
  obtain⟨x,r,e,h1,h2⟩:=h
  exact⟨x,r,e,Rep.mono g h1,aB.mono g h2⟩
end
section
variable{K:E1}{H H':Hp}
theorem aB.nil:aB K H [] []:=by rw[aB]
theorem aB.cons{d:D}{ds:List D}{x:V}{r:List V}(a:Rep K H d x)(b:aB K H ds r):aB K H (d::ds) (x::r):=by rw[aB];exact⟨x,r,rfl,a,b⟩
theorem aB.length:∀{ds:List D} {xs:List V},aB K H ds xs->ds.length=xs.length
 |[],xs,h=>by rw[aB]at h;subst h;rfl
 |d::ds,xs,h=>by
  rw[aB]at h
  obtain⟨x,r,rfl,_,h2⟩:=h
  simp[aB.length h2]
theorem aB.get:∀{ds:List D} {xs:List V} {i:Nat} {d:D},aB K H ds xs->ds[i]?=some d->∃x,xs[i]?=some x/\Rep K H d x
 |[],_,_,_,_,e=>by simp at e
 |_::_,xs,0,_,h,e=>by
  rw[aB]at h
  obtain⟨x,r,rfl,h1,_⟩:=h
  simp at e;subst e
  exact⟨x,rfl,h1⟩
 |_::ds,xs,i+1,d,h,e=>by
  rw[aB]at h
  obtain⟨x,r,rfl,_,h2⟩:=h
  simpa using aB.get (i:=i) (d:=d) h2 (by simpa using e)
theorem aB.set{d:D}{x:V}(a:Rep K H d x):∀{ds:List D} {xs:List V} (i:Nat),aB K H ds xs->aB K H (ds.set i d) (xs.set i x)
 |[],_,_,h=>by rw[aB]at h;subst h;simp[aB.nil]
 |_::_,_,0,h=>by
  rw[aB]at h
  obtain⟨y,r,rfl,_,h2⟩:=h
  exact .cons a h2
 |_::ds,_,i+1,h=>by
  rw[aB]at h
  obtain⟨y,r,rfl,h1,h2⟩:=h
  exact .cons h1 (aB.set a i h2)
theorem aB.append:∀{ds es:List D} {xs ys:List V},aB K H ds xs->aB K H es ys->aB K H (ds++es) (xs++ys)
 |[],_,_,_,h,k=>by rw[aB]at h;subst h;exact k
 |_::ds,_,_,_,h,k=>by
  rw[aB]at h
  obtain⟨y,r,rfl,h1,h2⟩:=h
  exact .cons h1 (aB.append h2 k)
theorem aB.of_get:∀{ds:List D} {xs:List V},ds.length=xs.length->(∀(i:Nat) d x,ds[i]?=some d->xs[i]?=some x->Rep K H d x)->aB K H ds xs
 |[],[],_,_=>.nil
 |[],_::_,h,_=>by simp at h
 |_::_,[],h,_=>by simp at h
 |d::ds,x::xs,h,k=>.cons (k 0 d x rfl rfl) (aB.of_get (by simpa using h) fun i d x a b=>k (i+1) d x (by simpa using a) (by simpa using b))
theorem aB.take{ds:List D}{xs:List V}(n:Nat)(h:aB K H ds xs):aB K H (ds.take n) (xs.take n):=by
 refine .of_get (by simp[h.length]) fun i d x a b=>?_
 have hi:i<n:=by
  rw[List.getElem?_take]at a;split at a
  ·assumption
  ·cases a
 rw[List.getElem?_take_of_lt hi]at a b;obtain⟨y,e,r⟩:=h.get a;rw[e]at b;cases b;exact r
theorem aB.drop{ds:List D}{xs:List V}(n:Nat)(h:aB K H ds xs):aB K H (ds.drop n) (xs.drop n):=by refine .of_get (by simp[h.length]) fun i d x a b=>?_;rw[List.getElem?_drop]at a b;obtain⟨y,e,r⟩:=h.get a;rw[e]at b;cases b;exact r
theorem gQ:∀(ns:List Int),aB K H (ns.map D.int) (ns.map V.int)
 |[]=>.nil
 |n::ns=>.cons (by rw[Rep]) (gQ ns)
end
def Ee(a C:Addr):Heap->Prop:=fun h=>∃o,h.get? a=some o/\o.cls=.ref C
inductive MO where
 |lst (ds:List D)|err (C:Addr)
 |dct (n:Nat) (P:List Int->Bool)
 |gen (A:E1->Hp->Addr->Prop)
abbrev MH:=Addr->Option MO
def kg(K:E1)(H:Hp)(a:Addr):MO->Prop
 |.lst ds=>∃xs,H a=some (.lst xs)/\aB K H ds xs
 |.err C=>H a=some (.ext (Ee a C))
 |.dct n P=>∃kvs:List (List Key×V),H a=some (.dT kvs)/\kvs.length<=n/\∀k:List Int,(kvs.any fun kv=>decide (kv.1=k.map Sum.inl))=P k
 |.gen A=>A K H a/\H a≠none/\∀H',Grow K H H'->H' a=H a->A K H' a
def Abs(K:E1)(H:Hp)(M:MH):Prop:=∀a o,M a=some o->kg K H a o
def ax(M:MH)(a:Addr)(o:MO):MH:=fun b=>if b=a then some o else M b
theorem ai{M:MH}{a:Addr}{o:MO}:ax M a o a=some o:=by unfold ax;rw[if_pos rfl]
theorem ak{M:MH}{a b:Addr}{o:MO}(h:b≠a):ax M a o b=M b:=by unfold ax;rw[if_neg h]
theorem b5{M:MH}{a:Addr}{o u:MO}:ax (ax M a o) a u=ax M a u:=by funext b;unfold ax;split<;>rfl
section
variable{K:E1}{H H':Hp}{M:MH}
theorem kg.some{a:Addr}{o:MO}(h:kg K H a o):H a≠none:=by
 cases o with
 |lst ds=>
  obtain⟨xs,h1,_⟩:=h
  rw[h1];simp
 |err C=>rw[show H a=_ from h];simp
 |dct n P=>
  obtain⟨kvs,h1,_⟩:=h
  rw[h1];simp
 |gen A=>exact h.2.1
theorem Abs.fresh(h:Abs K H M){p:Addr}(hp:H p=none):M p=none:=by
 cases e:M p with
 |none=>rfl
 |some o=>exact absurd hp (h p o e).some
theorem kg.dq{a:Addr}{o:MO}(g:Grow K H H')(e:H' a=H a)(h:kg K H a o):kg K H' a o:=by
 cases o with
 |lst ds=>
  obtain⟨xs,h1,h2⟩:=h
  exact⟨xs,e.trans h1,h2.mono g⟩
 |err C=>exact e.trans h
 |dct n P=>
  obtain⟨kvs,h1,h2⟩:=h
  exact⟨kvs,e.trans h1,h2⟩
 |gen A=>exact⟨h.2.2 H' g e,fun z=>h.2.1 (by rw[<-e];exact z),fun H2 g2 e2=>h.2.2 H2 (g.trans g2) (e2.trans e)⟩
theorem Abs.new{p:Addr}{o:HO}(h:Abs K H M)(hp:H p=none):Abs K (upd H p o) M:=fun a u e=>by
 have ne:a≠p:=fun z=>by subst z;rw[h.fresh hp]at e;cases e
 exact(h a u e).dq (.new hp) (az ne)
theorem Abs.km{p:Addr}{xs:List V}{ds:List D}(h:Abs K H M)(hp:H p=none)(r:aB K H ds xs):Abs K (upd H p (.lst xs)) (ax M p (.lst ds)):=fun a u e=>by
 by_cases ne:a=p
 ·subst ne;rw[ai]at e;cases e;exact⟨xs,ay,r.mono (.new hp)⟩
 ·rw[ak ne]at e;exact(h a u e).dq (.new hp) (az ne)
theorem Abs.xZ{p:Addr}{xs ys:List V}{ds:List D}(h:Abs K H M)(hp:H p=some (.lst xs))(r:aB K H ds ys):Abs K (upd H p (.lst ys)) (ax M p (.lst ds)):=fun a u e=>by
 by_cases ne:a=p
 ·subst ne;rw[ai]at e;cases e;exact⟨ys,ay,r.mono (.lst hp)⟩
 ·rw[ak ne]at e;exact(h a u e).dq (.lst hp) (az ne)
theorem Abs.sub{M':MH}(h:Abs K H M)(s:∀a o,M' a=some o->M a=some o):Abs K H M':=fun a o e=>h a o (s a o e)
end
abbrev DS:=List (Option D)
structure Slots(K:E1)(H:Hp)(δ:DS)(σ:L2.St):Prop where
 len:δ.length=σ.length
 at':∀(i:Nat) d,δ[i]?=some (some d)->∃v,σ[i]?=some (some v)/\Rep K H d v
section
variable{K:E1}{H H':Hp}{δ:DS}{σ:L2.St}
theorem Slots.mono(g:Grow K H H')(h:Slots K H δ σ):Slots K H' δ σ:=⟨h.len,fun i d e=>let⟨v,a,b⟩:=h.at' i d e;⟨v,a,b.mono g⟩⟩
theorem Slots.set{d:D}{v:V}(r:Rep K H d v)(i:Nat)(h:Slots K H δ σ):Slots K H (δ.set i (some d)) (σ.set i (some v)):=by
 refine⟨by simp[h.len],fun j e q=>?_⟩;rw[List.getElem?_set]at q;by_cases hij:i=j
 ·subst hij;rw[if_pos rfl]at q;by_cases hl:i<δ.length
  ·rw[if_pos hl]at q;cases q;exact⟨v,by rw[List.getElem?_set,if_pos rfl,if_pos (by rw[<-h.len];exact hl)],r⟩
  ·rw[if_neg hl]at q;cases q
 ·rw[if_neg hij]at q;obtain⟨v',e1,e2⟩:=h.at' j e q;exact⟨v',by rw[List.getElem?_set,if_neg hij];exact e1,e2⟩
theorem fg{N:List Str}{ds:List D}{vs:List V}(r:aB K H ds vs):Slots K H (ds.map some++Hu (N.length-ds.length) none) (L2.start N vs):=by
 have hl:=r.length;refine⟨by unfold L2.start;simp[hl],fun i d e=>?_⟩;unfold L2.start;by_cases hi:i<ds.length
 ·rw[FR (by simpa using hi),EN]at e;cases q:ds[i]? with
  |none=>rw[q]at e;cases e
  |some d'=>
   rw[q]at e;cases e
   obtain⟨x,e1,e2⟩:=r.get q
   refine⟨x,?_,e2⟩
   rw[FR (by simp;omega),EN,e1];rfl
 ·rw[FK (by simpa using hi),List.getElem?_replicate]at e;split at e<;>cases e
end
abbrev DK:=D->MH->Prop
abbrev TD:=DS->MH->DK->Prop
abbrev TTD:=DS->MH->(Bool->MH->Prop)->Prop
abbrev TAD:=DS->MH->(List D->MH->Prop)->Prop
structure EndsD where
 nx:DS->MH->Prop
 rt:DK
 bk:DS->MH->Prop:=fun _ _=>False
 ct:DS->MH->Prop:=fun _ _=>False
abbrev TSD:=EndsD->DS->MH->Prop
section
variable(K:E1)
def Fin(H:Hp)(R:DK)(Q:VK):Prop:=∀d M' v H',Grow K H H'->Rep K H' d v->Abs K H' M'->R d M'->Q v H'
def xM(H:Hp)(R:Bool->MH->Prop)(Q:Bool->Hp->Prop):Prop:=∀b M' H',Grow K H H'->Abs K H' M'->R b M'->Q b H'
def FinA(H:Hp)(R:List D->MH->Prop)(Q:List V->Hp->Prop):Prop:=∀ds M' vs H',Grow K H H'->aB K H' ds vs->Abs K H' M'->R ds M'->Q vs H'
def lift(t:TD):TE:=fun σ H Q=>∃δ M R,Slots K H δ σ/\Abs K H M/\t δ M R/\Fin K H R Q
def liftT(t:TTD):TT:=fun σ H Q=>∃δ M R,Slots K H δ σ/\Abs K H M/\t δ M R/\xM K H R Q
def uF(t:TAD):TA:=fun σ H Q=>∃δ M R,Slots K H δ σ/\Abs K H M/\t δ M R/\FinA K H R Q
structure EndsOk(H:Hp)(B:EndsD)(E:Ends):Prop where
 nx:∀δ M σ H',Grow K H H'->Slots K H' δ σ->Abs K H' M->B.nx δ M->E.nx σ H'
 rt:∀d M v H',Grow K H H'->Rep K H' d v->Abs K H' M->B.rt d M->E.rt v H'
 bk:∀δ M σ H',Grow K H H'->Slots K H' δ σ->Abs K H' M->B.bk δ M->E.bk σ H'
 ct:∀δ M σ H',Grow K H H'->Slots K H' δ σ->Abs K H' M->B.ct δ M->E.ct σ H'
def qR(t:TSD):TS:=fun E σ H=>∃δ M,Slots K H δ σ/\Abs K H M/\∃B,EndsOk K H B E/\t B δ M
end
def DE(X:Cx)(e:Expr)(t:TD):Prop:=PE X e (lift X.K t)
def DT(X:Cx)(e:Expr)(t:TTD):Prop:=PT X e (liftT X.K t)
def DW(X:Cx)(e:Expr)(t:TTD):Prop:=PW X e (liftT X.K t)
def DA(X:Cx)(es:List Expr)(t:TAD):Prop:=PA X es (uF X.K t)
def DSt(X:Cx)(st:Stmt)(t:TSD):Prop:=PS X st (qR X.K t)
def DSs(X:Cx)(st:List Stmt)(t:TSD):Prop:=PSs X st (qR X.K t)
theorem aV{X:Cx}{e:Expr}{t t':TE}(h:PE X e t)(k:∀σ H Q,t' σ H Q->t σ H Q):PE X e t':=fun pins s σ H Q I q=>h pins s σ H Q I (k σ H Q q)
theorem pN{X:Cx}{e:Expr}{t t':TT}(h:PT X e t)(k:∀σ H Q,t' σ H Q->t σ H Q):PT X e t':=fun pins s σ H Q I q=>h pins s σ H Q I (k σ H Q q)
theorem wL{X:Cx}{e:Expr}{t t':TT}(h:PW X e t)(k:∀σ H Q,t' σ H Q->t σ H Q):PW X e t':=fun wh pins s σ H Q I q=>h wh pins s σ H Q I (k σ H Q q)
theorem wZ{X:Cx}{e:List Expr}{t t':TA}(h:PA X e t)(k:∀σ H Q,t' σ H Q->t σ H Q):PA X e t':=fun pos pins s σ H Q I q=>h pos pins s σ H Q I (k σ H Q q)
theorem cm{X:Cx}{e:Stmt}{t t':TS}(h:PS X e t)(k:∀D σ H,t' D σ H->t D σ H):PS X e t':=fun pins s σ H D I q=>h pins s σ H D I (k D σ H q)
theorem l6{X:Cx}{e:List Stmt}{t t':TS}(h:PSs X e t)(k:∀D σ H,t' D σ H->t D σ H):PSs X e t':=fun pins s σ H D I q=>h pins s σ H D I (k D σ H q)
section
variable{K:E1}{H H1 H':Hp}
theorem Fin.go{R:DK}{Q:VK}(g:Grow K H H1)(h:Fin K H R Q):Fin K H1 R Q:=fun d M v H' g'=>h d M v H' (g.trans g')
theorem xM.go{R:Bool->MH->Prop}{Q:Bool->Hp->Prop}(g:Grow K H H1)(h:xM K H R Q):xM K H1 R Q:=fun b M H' g'=>h b M H' (g.trans g')
theorem EndsOk.go{B:EndsD}{E:Ends}(g:Grow K H H1)(h:EndsOk K H B E):EndsOk K H1 B E:=⟨fun d M v H' g'=>h.nx d M v H' (g.trans g'),fun d M v H' g'=>h.rt d M v H' (g.trans g'),fun d M v H' g'=>h.bk d M v H' (g.trans g'),fun d M v H' g'=>h.ct d M v H' (g.trans g')⟩
end
section
variable{X:Cx}
inductive tVarD(i:Nat)(δ:DS)(M:MH)(Q:DK):Prop
 |mk (d:D) (h:δ[i]?=some (some d)) (q:Q d M):tVarD i δ M Q
def tCD(d:D):TD:=fun _ M Q=>Q d M
theorem dv(i:Nat){x:Str}{pos:Pos}(hN:X.N[i]?=some x:=by rfl)(hv:Vis X.env.scope x:=by first|exact Or.inl rfl|exact Or.inr (Or.inl rfl)|exact Or.inr (Or.inr rfl))(hd:(x==("__debug__":Str))=false:=by decide)
 (hcd:(x==("__classdict__":Str))=false:=by decide):DE X (.Name x pos) (tVarD i):=
 aV (vT hN hv hd hcd) fun σ H Q z9=>by
  obtain⟨δ,M,R,hs,hM,⟨d,e,r⟩,fin⟩:=z9
  obtain⟨v,e1,e2⟩:=hs.at' i d e
  exact⟨v,e1,fin d M v H .refl e2 hM r⟩
theorem dc{e:Expr}{v:V}{d:D}(h:PE X e (tC v))(r:∀H,Rep X.K H d v):DE X e (tCD d):=aV h fun σ H Q zz1_0=>by obtain⟨δ,M,R,hs,hM,q,fin⟩:=zz1_0;exact(fin d M v H .refl (r H) hM q)
theorem af{i j pos}:DE X (.Constant (.int i) j pos) (tCD (.int i)):=dc AZ fun _=>by rw[Rep]
theorem iA{i j pos}:DE X (.Constant (.bool i) j pos) (tCD (.bl i)):=dc Dk fun _=>by rw[Rep]
theorem dP{j pos}:DE X (.Constant .none j pos) (tCD .non):=dc BF fun _=>by rw[Rep]
theorem gc{x j pos}:DE X (.Constant (.str x) j pos) (tCD (.str x)):=dc z7 fun _=>by rw[Rep]
theorem zU{x:Str}{n:String}{pos:Pos}(hg:Gl X x)(hm:X.mg x=none)(hv:Fp x=some (.type n))(hn:x≠"__name__":=by decide)(hd:(x==("__debug__":Str))=false:=by decide):DE X (.Name x pos) (tCD (.ty n)):=dc (yC (v:=.ty n) hg hm hv rfl hn hd) fun _=>by rw[Rep]
theorem eW{x:Str}{a:Addr}{pos:Pos}(hg:Gl X x)(hm:X.mg x=some (.ref a))(hd:(x==("__debug__":Str))=false:=by decide):DE X (.Name x pos) (tCD (.ref a)):=dc (qH (v:=.ref a) hg hm rfl hd) fun _=>by rw[Rep]
end
abbrev R2D:=D->D->MH->DK->Prop
def mK(K:E1)(r:R2D):R2:=fun v u H Q=>∃x y M R,Rep K H x v/\Rep K H y u/\Abs K H M/\r x y M R/\Fin K H R Q
def OpD(X:Cx)(f:E2->E2->Sem E2)(r:R2D):Prop:=OpR X f (mK X.K r)
def sD(r:R2D)(ta tb:TD):TD:=fun δ M Q=>ta δ M fun x M1=>tb δ M1 fun y M2=>r x y M2 Q
theorem gV{X:Cx}{f:E2->E2->Sem E2}{r r':R2}(h:OpR X f r)(k:∀x y H Q,r' x y H Q->r x y H Q):OpR X f r':=fun pins s σ H x y v u Q I a b q=>h pins s σ H x y v u Q I a b (k _ _ _ _ q)
theorem iO{K:E1}{r:R2D}{ta tb:TD}{σ:L2.St}{H:Hp}{Q:VK}(h:lift K (sD r ta tb) σ H Q):tOp (mK K r) (lift K ta) (lift K tb) σ H Q:=by obtain⟨δ,M,R,hs,hM,q,fin⟩:=h;refine⟨δ,M,_,hs,hM,q,fun x M1 v H1 g1 r1 a1 q1=>?_⟩;exact⟨δ,M1,_,hs.mono g1,a1,q1,fun y M2 u H2 g2 r2 a2 q2=>⟨x,y,M2,R,r1.mono g2,r2,a2,q2,fin.go (g1.trans g2)⟩⟩
section
variable{X:Cx}{a b:Expr}{ta tb:TD}{pos:Pos}
theorem aw{op:Operator}{r:R2D}(ho:OpD X (Hk op) r)(ha:DE X a ta)(hb:DE X b tb):DE X (.BinOp a op b pos) (sD r ta tb):=aV (Ct ho ha hb) fun _ _ _ h=>iO h
theorem gZ{op:CmpOp}{r:R2D}(ho:OpD X (Fm op) r)(ha:DE X a ta)(hb:DE X b tb)(hm:behindInMarks op b=false:=by exact uk _):DE X (.Compare a [op] [b] pos) (sD r ta tb):=aV (yV ho ha hb hm) fun _ _ _ h=>iO h
inductive IsBl(x:D)(M:MH)(Q:Bool->MH->Prop):Prop
 |mk (c:Bool) (h:x=.bl c) (q:Q c M):IsBl x M Q
def tBD(t:TD):TTD:=fun δ M Q=>t δ M fun x M1=>IsBl x M1 Q
theorem kT{K:E1}{t:TD}{t':TE}(ht:∀σ H Q,lift K t σ H Q->t' σ H Q){σ:L2.St}{H:Hp}{Q:Bool->Hp->Prop}(h:liftT K (tBD t) σ H Q):zG t' σ H Q:=by obtain⟨δ,M,R,hs,hM,q,fin⟩:=h;refine ht _ _ _ ⟨δ,M,_,hs,hM,q,fun x M1 v H1 g1 r1 a1 zz2_0=>?_⟩;obtain⟨c,e,q1⟩:=zz2_0;subst e;rw[Rep]at r1;exact⟨c,r1,fin c M1 H1 g1 a1 q1⟩
theorem aG{op:CmpOp}{r:R2D}(ho:OpD X (Fm op) r)(ha:DE X a ta)(hb:DE X b tb)(hm:behindInMarks op b=false:=by exact uk _):DT X (.Compare a [op] [b] pos) (tBD (sD r ta tb)):=pN (xn ho ha hb hm) fun _ _ _ h=>kT (fun _ _ _ h=>iO h) h
theorem dX{e:Expr}{t:TD}(h:DE X e t)(he:∀whole,isTrue e X.env whole=(do let v <-whole;standAt e.pos;holding [v] (truthy v)):=by intro _;rfl):DT X e (tBD t):=
 pN (AM h he) fun _ _ _ h=>kT (t':=lift X.K t) (fun _ _ _ h=>h) h
end
section
variable{X:Cx}{a b c:Expr}{ta tb:TD}{tA tB':TTD}{rest:List Expr}{pos:Pos}
def zz(t u:TTD):TTD:=fun δ M Q=>t δ M fun c M1=>if c=true then u δ M1 Q else Q false M1
def C3(t u:TTD):TTD:=fun δ M Q=>t δ M fun c M1=>if c=true then Q true M1 else u δ M1 Q
def jl(t:TTD):TTD:=fun δ M Q=>t δ M fun c M1=>Q (!c) M1
theorem dH(ha:DT X a tA):DW X (.BoolOp .And [a] pos) tA:=yx ha
theorem lP(ha:DT X a tA):DW X (.BoolOp .Or [a] pos) tA:=Bl ha
theorem fz(ha:DT X a tA)(hb:DW X (.BoolOp .And (b::rest) pos) tB'):DW X (.BoolOp .And (a::b::rest) pos) (zz tA tB'):=
 wL (Bg ha hb) fun σ H Q zz3_0=>by obtain⟨δ,M,R,hs,hM,q,fin⟩:=zz3_0;exact(⟨δ,M,_,hs,hM,q,fun c M1 H1 g1 a1 q1=>by
  cases c with
  |true=>rw[if_pos rfl]at q1 ⊢;exact⟨δ,M1,R,hs.mono g1,a1,q1,fin.go g1⟩
  |false=>rw[if_neg ET]at q1 ⊢;exact fin _ _ _ g1 a1 q1⟩)
theorem og(ha:DT X a tA)(hb:DW X (.BoolOp .Or (b::rest) pos) tB'):DW X (.BoolOp .Or (a::b::rest) pos) (C3 tA tB'):=
 wL (Dv ha hb) fun σ H Q zz4_0=>by obtain⟨δ,M,R,hs,hM,q,fin⟩:=zz4_0;exact(⟨δ,M,_,hs,hM,q,fun c M1 H1 g1 a1 q1=>by
  cases c with
  |true=>rw[if_pos rfl]at q1 ⊢;exact fin _ _ _ g1 a1 q1
  |false=>rw[if_neg ET]at q1 ⊢;exact⟨δ,M1,R,hs.mono g1,a1,q1,fin.go g1⟩⟩)
theorem iH{e:Expr}{t:TTD}(h:DW X e t):DT X e t:=PW.pt h
theorem Af(ha:DT X a tA):DT X (.UnaryOp .Not a pos) (jl tA):=pN (Ak ha) fun σ H Q zz5_0=>by obtain⟨δ,M,R,hs,hM,q,fin⟩:=zz5_0;exact(⟨δ,M,_,hs,hM,q,fun c M1 H1 g1 a1 q1=>fin _ _ _ g1 a1 q1⟩)
def vJ(ta tb:TD):TD:=fun δ M Q=>ta δ M fun x M1=>IsBl x M1 fun c M1=>if c=true then tb δ M1 Q else Q (.bl false) M1
def Aq(ta:TD):TD:=fun δ M Q=>ta δ M fun x M1=>IsBl x M1 fun c M1=>Q (.bl (!c)) M1
theorem wK{op}{t:TD}(h:DE X a t):DE X (.BoolOp op [a] pos) t:=Bs h
theorem mz(ha:DE X a ta)(hb:DE X (.BoolOp .And (b::rest) pos) tb):DE X (.BoolOp .And (a::b::rest) pos) (vJ ta tb):=
 aV (AD ha hb) fun σ H Q ⟨δ,M,R,hs,hM,q,fin⟩=>⟨δ,M,_,hs,hM,q,fun x M1 v H1 g1 r1 a1 z9=>by
  obtain⟨c,e,q1⟩:=z9
  subst e
  rw[Rep]at r1
  refine⟨c,r1,?_⟩
  cases c with
  |true=>rw[if_pos rfl]at q1 ⊢;exact⟨δ,M1,R,hs.mono g1,a1,q1,fin.go g1⟩
  |false=>rw[if_neg ET]at q1 ⊢;exact fin _ _ _ _ g1 (by rw[Rep]) a1 q1⟩
theorem uS(ha:DE X a ta):DE X (.UnaryOp .Not a pos) (Aq ta):=
 aV (BC ha) fun σ H Q zz6_0=>by obtain⟨δ,M,R,hs,hM,q,fin⟩:=zz6_0;exact(⟨δ,M,_,hs,hM,q,fun x M1 v H1 g1 r1 a1 z9=>by
  obtain⟨c,e,q1⟩:=z9
  subst e
  rw[Rep]at r1
  exact⟨c,r1,fin _ _ _ _ g1 (by rw[Rep]) a1 q1⟩⟩)
def DY(t:TTD)(ta tb:TD):TD:=fun δ M Q=>t δ M fun c M1=>if c=true then ta δ M1 Q else tb δ M1 Q
theorem we(hc:DT X c tA)(ha:DE X a ta)(hb:DE X b tb):DE X (.IfExp c a b pos) (DY tA ta tb):=
 aV (xj hc ha hb) fun σ H Q zz7_0=>by obtain⟨δ,M,R,hs,hM,q,fin⟩:=zz7_0;exact(⟨δ,M,_,hs,hM,q,fun c M1 H1 g1 a1 q1=>by
  cases c with
  |true=>rw[if_pos rfl]at q1 ⊢;exact⟨δ,M1,R,hs.mono g1,a1,q1,fin.go g1⟩
  |false=>rw[if_neg ET]at q1 ⊢;exact⟨δ,M1,R,hs.mono g1,a1,q1,fin.go g1⟩⟩)
end
def DZ(r:D->MH->DK->Prop)(ta:TD):TD:=fun δ M Q=>ta δ M fun x M1=>r x M1 Q
def zD(K:E1)(r:D->MH->DK->Prop):V->Hp->VK->Prop:=fun v H Q=>∃x M R,Rep K H x v/\Abs K H M/\r x M R/\Fin K H R Q
theorem lK{X:Cx}{a:Expr}{ta:TD}{pos:Pos}{op:UnaryOp}{r:D->MH->DK->Prop}(ho:UnR X (unaryOp op) (zD X.K r))(ha:DE X a ta):DE X (.UnaryOp op a pos) (DZ r ta):=aV (CZ ho ha) fun σ H Q zz8_0=>by obtain⟨δ,M,R,hs,hM,q,fin⟩:=zz8_0;exact(⟨δ,M,_,hs,hM,q,fun x M1 v H1 g1 r1 a1 q1=>⟨x,M1,R,r1,a1,q1,fin.go g1⟩⟩)
def r9:TAD:=fun _ M Q=>Q [] M
def f9(ta:TD)(tr:TAD):TAD:=fun δ M Q=>ta δ M fun x M1=>tr δ M1 fun xs M2=>Q (x::xs) M2
section
variable{X:Cx}{e:Expr}{es:List Expr}{te:TD}{t:TAD}{pos:Pos}
theorem ag:DA X [] r9:=wZ w8 fun σ H Q zz9_0=>by obtain⟨δ,M,R,hs,hM,q,fin⟩:=zz9_0;exact(fin _ _ _ _ .refl .nil hM q)
theorem ae(ha:DE X e te)(hr:DA X es t)(hs:EH (e::es) X.env=(false,eval e X.env)::EH es X.env:=by rfl):DA X (e::es) (f9 te t):=
 wZ (mD ha hr hs) fun σ H Q zz10_0=>by obtain⟨δ,M,R,hs,hM,q,fin⟩:=zz10_0;exact(⟨δ,M,_,hs,hM,q,fun x M1 v H1 g1 r1 a1 q1=>
  ⟨δ,M1,_,hs.mono g1,a1,q1,fun xs M2 vs H2 g2 r2 a2 q2=>fin _ _ _ _ (g1.trans g2) (.cons (r1.mono g2) r2) a2 q2⟩⟩)
def zF(t:TAD):TD:=fun δ M Q=>t δ M fun xs M1=>xs.length<=ER/\Q (.tup xs) M1
def Co(t:TAD):TD:=fun δ M Q=>t δ M fun xs M1=>xs.length<=ER/\∀p,M1 p=none->Q (.ref p) (ax M1 p (.lst xs))
theorem aK{x1}(h:DA X es t):DE X (.Tuple es x1 pos) (zF t):=aV (Bc h) fun σ H Q zz11_0=>by obtain⟨δ,M,R,hs,hM,q,fin⟩:=zz11_0;exact(⟨δ,M,_,hs,hM,q,fun xs M1 vs H1 g1 r1 a1 zz12_0=>by obtain⟨z,q1⟩:=zz12_0;exact(⟨by rw[<-r1.length];exact z,fun p hp=>fin _ _ _ _ (g1.trans (.new hp)) (by rw[Rep];exact⟨p,vs,rfl,SqT.of ay,r1.mono (.new hp)⟩) (a1.new hp) q1⟩)⟩)
theorem bR(h:DA X es t):DE X (.List es pos) (Co t):=aV (Ao h) fun σ H Q zz13_0=>by obtain⟨δ,M,R,hs,hM,q,fin⟩:=zz13_0;exact(⟨δ,M,_,hs,hM,q,fun xs M1 vs H1 g1 r1 a1 zz14_0=>by obtain⟨z,q1⟩:=zz14_0;exact(⟨by rw[<-r1.length];exact z,fun p hp=>fin _ _ _ _ (g1.trans (.new hp)) (by rw[Rep]) (a1.km hp r1) (q1 p (a1.fresh hp))⟩)⟩)
end
def IxD(X:Cx)(r:R2D):Prop:=IxR X (mK X.K r)
theorem Bm{X:Cx}{r r':R2}(h:IxR X r)(k:∀x y H Q,r' x y H Q->r x y H Q):IxR X r':=fun e1 e2 pins s σ H x y v u Q I a b q=>h e1 e2 pins s σ H x y v u Q I a b (k _ _ _ _ q)
theorem Ay{X:Cx}{a b:Expr}{ta tb:TD}{pos:Pos}{r:R2D}(hr:IxD X r)(ha:DE X a ta)(hb:DE X b tb)(hs:md b):DE X (.Subscript a b pos) (sD r ta tb):=aV (CN hr ha hb hs) fun _ _ _ h=>iO h
inductive AtD(ds:List D)(i:Int)(M:MH)(Q:DK):Prop
 |mk (d:D) (h:atI ds i=some d) (q:Q d M):AtD ds i M Q
inductive AtM(a:Addr)(i:Int)(M:MH)(Q:DK):Prop
 |mk (ds:List D) (d:D) (h:M a=some (.lst ds)) (q:atI ds i=some d/\Q d M):AtM a i M Q
def Bj:R2D:=fun x y M Q=>match x,y with
 |.tup ds,.int i=>AtD ds i M Q
 |.rol ds,.int i=>AtD ds i M Q
 |.ref a,.int i=>AtM a i M Q
 |_,_=>False
theorem aB.atI{K:E1}{H:Hp}{ds:List D}{xs:List V}{i:Int}{d:D}(h:aB K H ds xs)(e:L2.atI ds i=some d):∃x,L2.atI xs i=some x/\Rep K H d x:=by
 unfold L2.atI at e ⊢;rw[<-h.length];cases q:ixN ds.length i with
 |none=>rw[q]at e;cases e
 |some j=>
  rw[q]at e
  exact h.get e
theorem so{K:E1}{v u:V}{H:Hp}{Q:VK}(h:mK K Bj v u H Q):rIx K v u H Q:=by
 obtain⟨x,y,M,R,r1,r2,a,q,fin⟩:=h;unfold Bj at q;split at q
 ·obtain⟨d,e,q⟩:=q;obtain rfl:u=.int _:=r2;rw[Rep]at r1;obtain⟨p,xs,rfl,hq,rs⟩:=r1;obtain⟨x,e1,e2⟩:=rs.atI e;exact .inr (.inl ⟨p,xs,_,x,rfl,rfl,hq,e1,fin _ _ _ _ .refl e2 a q⟩)
 ·obtain⟨d,e,q⟩:=q;obtain rfl:u=.int _:=r2;rw[Rep]at r1;obtain⟨p,xs,rfl,hq,rs⟩:=r1;obtain⟨x,e1,e2⟩:=rs.atI e;exact .inl ⟨p,xs,_,x,rfl,rfl,hq.sql,e1,fin _ _ _ _ .refl e2 a q⟩
 ·obtain⟨ds,d,e0,e,q⟩:=q;obtain rfl:u=.int _:=r2;obtain rfl:v=.ref _:=r1;obtain⟨xs,hx,rs⟩:=a _ _ e0;obtain⟨x,e1,e2⟩:=rs.atI e;exact .inl ⟨_,xs,_,x,rfl,rfl,SqL.of hx,e1,fin _ _ _ _ .refl e2 a q⟩
 ·exact q.elim
theorem au{X:Cx}{a b:Expr}{ta tb:TD}{pos:Pos}(ha:DE X a ta)(hb:DE X b tb)(hs:md b:=by exact fun _ _=>rfl):DE X (.Subscript a b pos) (sD Bj ta tb):=Ay (Bm Bz fun _ _ _ _ h=>so h) ha hb hs
def Bd(n:Nat)(i:Int):Prop:=i.natAbs<2^n
instance(n:Nat)(i:Int):Decidable (Bd n i):=inferInstanceAs (Decidable (i.natAbs<2^n))
theorem Bd.mono{m n:Nat}{i:Int}(h:Bd m i)(l:m<=n):Bd n i:=EK h (Nat.pow_le_pow_right (by decide) l)
theorem Bd.bits{n:Nat}{i:Int}(h:Bd n i):Builtin.Int.intBits i<=n:=by
 unfold Builtin.Int.intBits;split
 ·exact Fz _
 ·rename_i hz;have h0:i.natAbs≠0:=fun e=>hz (by simpa using Int.natAbs_eq_zero.mp e);exact(Nat.log2_lt h0).mpr h
theorem Bd.log2{n:Nat}{i:Int}(h:Bd n i)(hn:0<n):i.natAbs.log2<n:=by
 by_cases h0:i.natAbs=0
 ·rw[h0];simpa using hn
 ·exact(Nat.log2_lt h0).mpr h
theorem Bd.mul{m n:Nat}{i j:Int}(a:Bd m i)(b:Bd n j):Bd (m+n) (i*j):=by unfold Bd at *;rw[Int.natAbs_mul,Nat.pow_add];exact Nat.mul_lt_mul'' a b
theorem Bd.add{n:Nat}{i j:Int}(a:Bd n i)(b:Bd n j):Bd (n+1) (i+j):=by unfold Bd at *;rw[Nat.pow_succ];have:=Int.natAbs_add_le i j;omega
theorem Bd.sub{n:Nat}{i j:Int}(a:Bd n i)(b:Bd n j):Bd (n+1) (i-j):=by unfold Bd at *;rw[Nat.pow_succ];have:=Int.natAbs_sub_le i j;omega
theorem Bd.neg{n:Nat}{i:Int}(a:Bd n i):Bd n (-i):=by unfold Bd at *;rw[Int.natAbs_neg];exact a
theorem Bd.of_le{n:Nat}{i j:Int}(a:Bd n i)(b:j.natAbs<=i.natAbs):Bd n j:=Nat.lt_of_le_of_lt b a
theorem cy{n:Nat}{i:Int}(h:i.natAbs<2^64)(l:64<=n:=by decide):Bd n i:=Bd.mono (m:=64) h l
theorem dF{i j:Int}(a:Bd 1000000 i)(b:Bd 1000000 j):IntMulOk i j:=.of_bits (Fh a.bits (by decide)) (Fh b.bits (by decide))
theorem bG{i j:Int}(a:Bd 64 i):IntMulOk i j:=.of_left a.bits
theorem cF{i j:Int}(a:Bd 64 j):IntMulOk i j:=.of_right a.bits
def rI2(C:Int->Int->Prop)(g:Int->Int->D):R2D:=fun x y M Q=>match x,y with
 |.int i,.int j=>C i j/\Q (g i j) M
 |_,_=>False
section
variable{X:Cx}
theorem dE{f:E2->E2->Sem E2}{C:Int->Int->Prop}{g:Int->Int->V}{g':Int->Int->D}(h:OpR X f (rI C g))(e:∀i j H,Rep X.K H (g' i j) (g i j)):OpD X f (rI2 C g'):=
 gV h fun v u H Q z9=>by
  obtain⟨x,y,M,R,r1,r2,a,q,fin⟩:=z9
  unfold rI2 at q
  split at q
  ·obtain rfl:v=.int _:=r1
   obtain rfl:u=.int _:=r2
   exact⟨_,_,rfl,rfl,q.1,fin _ _ _ _ .refl (e _ _ _) a q.2⟩
  ·exact q.elim
theorem ri0{f:E2->E2->Sem E2}{g:Int->Int->V}(h:OpR X f (rI0 g)):OpR X f (rI (fun _ _=>True) g):=gV h fun x y H Q zz1_0=>by obtain⟨i,j,a,b,_,q⟩:=zz1_0;exact(⟨i,j,a,b,q⟩)
def Dw:R2D:=rI2 (fun _ _=>True) fun i j=>.int (i-j)
def Cq:R2D:=rI2 IntMulOk fun i j=>.int (i*j)
def CFd(i j:Int):Prop:=j≠0/\Bd 8000 j
def D9:R2D:=rI2 CFd fun i j=>.int (i.fdiv j)
def CY:R2D:=rI2 (fun _ j=>j≠0) fun i j=>.int (i.fmod j)
def Df:R2D:=rI2 Cz fun i j=>.int (i^j.toNat)
def D7:R2D:=rI2 (fun _ _=>True) fun i j=>.bl (decide (i<j))
def DX:R2D:=rI2 (fun _ _=>True) fun i j=>.bl (decide (j<i))
def Eu:R2D:=rI2 (fun _ _=>True) fun i j=>.bl (decide (j<=i))
theorem cP:OpD X (Hk .Sub) Dw:=dE (ri0 Be) fun _ _ _=>by rw[Rep]
theorem aF:OpD X (Hk .Mult) Cq:=dE (opI fun _ _ _ _ _ _ _ hc q=>mul_int q hc) fun _ _ _=>by rw[Rep]
theorem jQ:OpD X (Hk .FloorDiv) D9:=dE (opI fun _ _ _ _ _ _ _ hc q=>floordiv_int hc.1 q (.inl (PyProof.noPylong_of_log2 (Nat.lt_trans (hc.2.log2 (by decide)) (by decide))))) fun _ _ _=>by rw[Rep]
theorem fT:OpD X (Hk .Mod) CY:=dE yo fun _ _ _=>by rw[Rep]
theorem gW:OpD X (Hk .Pow) Df:=dE AQ fun _ _ _=>by rw[Rep]
theorem C2:OpD X (Fm .Lt) D7:=dE (ri0 CK) fun _ _ _=>by rw[Rep]
theorem DB:OpD X (Fm .Gt) DX:=dE (ri0 CF) fun _ _ _=>by rw[Rep]
theorem CD:OpD X (Fm .GtE) Eu:=dE (ri0 B2) fun _ _ _=>by rw[Rep]
def zZ:D->MH->DK->Prop:=fun x M Q=>match x with
 |.int i=>Q (.int (-i)) M
 |_=>False
theorem fE:UnR X (unaryOp .USub) (zD X.K zZ):=fun pins s σ H x v Q I r zz2_0=>by obtain⟨d,M,R,r1,a,q,fin⟩:=zz2_0;exact(Bf pins s σ H x v Q I r (by
 unfold zZ at q
 split at q
 ·obtain rfl:x=.int _:=r1;exact⟨_,rfl,fin _ _ _ _ .refl (by rw[Rep]) a q⟩
 ·exact q.elim))
def zu:R2D:=fun x y M Q=>match x,y with
 |.int i,.int j=>Q (.int (i+j)) M
 |.tup a,.tup b=>a≠[]/\a.length+b.length<=ER/\Q (.tup (a++b)) M
 |.ref a,.ref b=>∃xs ys,M a=some (.lst xs)/\M b=some (.lst ys)/\xs.length+ys.length<=ER/\∀p,M p=none->Q (.ref p) (ax M p (.lst (xs++ys)))
 |_,_=>False
theorem aO:OpD X (Hk .Add) zu:=gV (BG.or (yp.or AY)) fun v u H Q z9=>by
 obtain⟨x,y,M,R,r1,r2,a,q,fin⟩:=z9;unfold zu at q;split at q
 ·obtain rfl:v=.int _:=r1;obtain rfl:u=.int _:=r2;exact .inl ⟨_,_,rfl,rfl,fin _ _ _ _ .refl (by rw[Rep]) a q⟩
 ·rename_i da db;obtain⟨hn,hl,q⟩:=q;rw[Rep]at r1;obtain⟨p,xs,rfl,hx,rx⟩:=r1;obtain⟨p',ys,rfl,hy,ry⟩:∃a xs,u=V.ref a/\SqT X.K H a xs/\aB X.K H db xs:=by rw[Rep]at r2;exact r2
  have l1:=rx.length;have l2:=ry.length;refine .inr (.inl ⟨p,p',xs,ys,rfl,rfl,hx,hy,?_,by omega,fun e=>?_,fun _ z hz=>?_⟩)
  ·intro e;subst e;exact hn (List.length_eq_zero_iff.mp (by simpa using l1))
  ·subst e;obtain rfl:db=[]:=List.length_eq_zero_iff.mp (by simpa using l2);exact fin _ _ _ _ .refl (by rw[Rep,GL];exact⟨p,xs,rfl,hx,rx⟩) a q
  ·exact fin _ _ _ _ (.new hz) (by rw[Rep];exact⟨z,_,rfl,SqT.of ay,(rx.append ry).mono (.new hz)⟩) (a.new hz) q
 ·obtain⟨ds,es,e1,e2,hl,q⟩:=q;obtain rfl:v=.ref _:=r1;obtain rfl:u=.ref _:=r2;obtain⟨xs,hx,rx⟩:=a _ _ e1;obtain⟨ys,hy,ry⟩:=a _ _ e2;have l1:=rx.length;have l2:=ry.length;exact .inr (.inr ⟨_,_,xs,ys,rfl,rfl,hx,hy,by omega,fun z hz=>fin _ _ _ _ (.new hz) (by rw[Rep]) (a.km hz (rx.append ry)) (q z (a.fresh hz))⟩)
 ·exact q.elim
end
mutual
inductive Pd(M:MH):D->GZ->Prop
 |non:Pd M .non .none
 |bl (b:Bool):Pd M (.bl b) (.bool b)
 |int (i:Int):Pd M (.int i) (.int i)
 |str (x:Str):Pd M (.str x) (.str x)
 |tup {ds:List D} {ps:List GZ}:Pds M ds ps->Pd M (.tup ds) (.tuple ps)
 |rol {ds:List D} {ps:List GZ}:Pds M ds ps->Pd M (.rol ds) (.list ps)
 |lst {a:Addr} {ds:List D} {ps:List GZ}:M a=some (.lst ds)->Pds M ds ps->Pd M (.ref a) (.list ps)
inductive Pds(M:MH):List D->List GZ->Prop
 |nil:Pds M [] []
 |cons {d:D} {ds:List D} {p:GZ} {ps:List GZ}:Pd M d p->Pds M ds ps->Pds M (d::ds) (p::ps)
end
mutual
def pdO:D->Option GZ
 |.non=>some .none
 |.bl b=>some (.bool b)
 |.int i=>some (.int i)
 |.str x=>some (.str x)
 |.tup ds=>match pA ds with
  |some ps=>some (.tuple ps)
  |none=>none
 |_=>none
def pA:List D->Option (List GZ)
 |[]=>some []
 |d::ds=>match pdO d,pA ds with
  |some p,some ps=>some (p::ps)
  |_,_=>none
end
mutual
theorem Pd.of{M:MH}:∀{d:D} {p:GZ},pdO d=some p->Pd M d p
 |.non,p,h=>by rw[pdO]at h;cases h;exact .non
 |.bl b,p,h=>by rw[pdO]at h;cases h;exact .bl b
 |.int i,p,h=>by rw[pdO]at h;cases h;exact .int i
 |.str x,p,h=>by rw[pdO]at h;cases h;exact .str x
 |.ty _,p,h=>by simp[pdO]at h
 |.ref _,p,h=>by simp[pdO]at h
 |.rol _,p,h=>by simp[pdO]at h
 |.tup ds,p,h=>by
  rw[pdO]at h
  cases e:pA ds with
  |none=>rw[e]at h;cases h
  |some ps=>rw[e]at h;cases h;exact .tup (Pds.of e)
theorem Pds.of{M:MH}:∀{ds:List D} {ps:List GZ},pA ds=some ps->Pds M ds ps
 |[],ps,h=>by rw[pA]at h;cases h;exact .nil
 |d::ds,ps,h=>by
  rw[pA]at h
  cases e1:pdO d with
  |none=>rw[e1]at h;cases h
  |some p=>
   cases e2:pA ds with
   |none=>rw[e1,e2]at h;cases h
   |some qs=>rw[e1,e2]at h;cases h;exact .cons (Pd.of e1) (Pds.of e2)
end
section
variable{X:Cx}{pins:List (Addr×Obj)}{σ:L2.St}{H:Hp}{s:E3}{M:MH}
mutual
theorem cJ(I:Inv X pins σ H s)(hM:Abs X.K H M):∀{d:D} {p:GZ} {v:V} {u:E2},Pd M d p->Rep X.K H d v->L2.RelV v u->∃as,Reads s.heap u p as
 |_,_,_,_,.non,r,e=>by rw[Rep]at r;subst r;cases e;exact⟨_,.none⟩
 |_,_,_,_,.bl b,r,e=>by rw[Rep]at r;subst r;cases e;exact⟨_,.bool b⟩
 |_,_,_,_,.int i,r,e=>by rw[Rep]at r;subst r;obtain⟨t,rfl⟩:=e;exact⟨_,.int i t⟩
 |_,_,_,_,.str x,r,e=>by rw[Rep]at r;subst r;obtain⟨t,rfl⟩:=e;exact⟨_,.str x t⟩
 |_,_,_,_,.tup hp,r,e=>by
  rw[Rep]at r
  obtain⟨a,xs,rfl,hq,rs⟩:=r
  cases e
  obtain⟨its,rv,⟨o,h1,h2,n,h3⟩,_⟩:=I.tuple hq
  obtain⟨as,hh⟩:=fN I hM hp rs rv
  exact⟨as,reads_tuple_at h1 h2 h3 (by simpa using hh)⟩
 |_,_,_,_,.rol hp,r,e=>by
  rw[Rep]at r
  obtain⟨a,xs,rfl,hq,rs⟩:=r
  cases e
  obtain⟨its,rv,⟨o,n,h1,h2,_,h3⟩,_⟩:=I.list hq.sql
  obtain⟨as,hh⟩:=fN I hM hp rs rv
  exact⟨_,reads_list_at h1 h2 h3 (by simpa using hh)⟩
 |_,_,_,_,.lst ha hp,r,e=>by
  rw[Rep]at r
  subst r
  cases e
  obtain⟨xs,hx,rs⟩:=hM _ _ ha
  obtain⟨its,rv,⟨o,n,h1,h2,_,h3⟩,_⟩:=I.list (SqL.of hx)
  obtain⟨as,hh⟩:=fN I hM hp rs rv
  exact⟨_,reads_list_at h1 h2 h3 (by simpa using hh)⟩
theorem fN(I:Inv X pins σ H s)(hM:Abs X.K H M):∀{ds:List D} {ps:List GZ} {vs:List V} {us:List E2},Pds M ds ps->aB X.K H ds vs->Vals vs us->∃as,ReadsAll s.heap us ps as
 |_,_,_,_,.nil,r,e=>by rw[aB]at r;subst r;cases e;exact⟨_,.nil⟩
 |_,_,_,_,.cons h1 h2,r,e=>by
  rw[aB]at r
  obtain⟨x,r,rfl,r1,r2⟩:=r
  cases e with
  |cons e1 e2=>
   obtain⟨as,q1⟩:=cJ I hM h1 r1 e1
   obtain⟨bs,q2⟩:=fN I hM h2 r2 e2
   exact⟨_,.cons q1 q2⟩
end
end
inductive rEqG(g:Bool->Bool)(x y:D)(M:MH)(Q:DK):Prop
 |mk (p q:GZ) (h1:Pd M x p) (h2:Pd M y q) (h3:G2 p=true) (h4:G2 q=true) (hq:Q (.bl (g (Ff p q))) M):rEqG g x y M Q
def B5:R2D:=fun x y M Q=>match x,y with
 |.int i,.int j=>Q (.bl (decide (i=j))) M
 |.bl i,.bl j=>Q (.bl (decide (i=j))) M
 |x,y=>rEqG (fun b=>b) x y M Q
def zq:R2D:=fun x y M Q=>match x,y with
 |.int i,.int j=>Q (.bl (!decide (i=j))) M
 |.bl i,.bl j=>Q (.bl (!decide (i=j))) M
 |x,y=>rEqG (fun b=>!b) x y M Q
section
variable{X:Cx}
theorem BR(hu:X.A.units+64<FQ):OpD X (Fm .Eq) (rEqG fun b=>b):=by intro pins s σ H v u v' u' Q I rv ru h;obtain⟨x,y,M,R,r1,r2,a,⟨p,q,p1,p2,s1,s2,hq⟩,fin⟩:=h;obtain⟨as,q1⟩:=cJ I a p1 r1 rv;obtain⟨bs,q2⟩:=cJ I a p2 r2 ru;exact eq_dataH q1 q2 s1 s2 hu ⟨.bl _,H,I,rfl,fin _ _ _ _ .refl (by rw[Rep]) a hq⟩
theorem A9(hu:X.A.units+64<FQ):OpD X (Fm .NotEq) (rEqG fun b=>!b):=by intro pins s σ H v u v' u' Q I rv ru h;obtain⟨x,y,M,R,r1,r2,a,⟨p,q,p1,p2,s1,s2,hq⟩,fin⟩:=h;obtain⟨as,q1⟩:=cJ I a p1 r1 rv;obtain⟨bs,q2⟩:=cJ I a p2 r2 ru;exact ne_dataH q1 q2 s1 s2 hu ⟨.bl _,H,I,rfl,fin _ _ _ _ .refl (by rw[Rep]) a hq⟩
theorem mh{i j:Int}:(i==j)=decide (i=j):=by by_cases h:i=j<;>simp[h]
theorem oH{i j:Bool}:(i==j)=decide (i=j):=by cases i<;>cases j<;>rfl
theorem cw(hu:X.A.units+64<FQ):OpD X (Fm .Eq) B5:=gV (BR hu) fun v u H Q z9=>by
 obtain⟨x,y,M,R,r1,r2,a,q,fin⟩:=z9;refine⟨x,y,M,R,r1,r2,a,?_,fin⟩;unfold B5 at q;split at q
 ·exact⟨_,_,.int _,.int _,rfl,rfl,by simpa[Ff,mh]using q⟩
 ·exact⟨_,_,.bl _,.bl _,rfl,rfl,by simpa[Ff,oH]using q⟩
 ·exact q
theorem fQ(hu:X.A.units+64<FQ):OpD X (Fm .NotEq) zq:=gV (A9 hu) fun v u H Q z9=>by
 obtain⟨x,y,M,R,r1,r2,a,q,fin⟩:=z9;refine⟨x,y,M,R,r1,r2,a,?_,fin⟩;unfold zq at q;split at q
 ·exact⟨_,_,.int _,.int _,rfl,rfl,by simpa[Ff,mh]using q⟩
 ·exact⟨_,_,.bl _,.bl _,rfl,rfl,by simpa[Ff,oH]using q⟩
 ·exact q
def isC:D->D->Option Bool
 |.non,.non=>some true
 |.non,.bl _=>some false
 |.bl _,.non=>some false
 |.bl a,.bl b=>some (decide (a=b))
 |_,.non=>some false
 |_,.bl _=>some false
 |_,_=>none
inductive rIsG(g:Bool->Bool)(x y:D)(M:MH)(Q:DK):Prop
 |mk (b:Bool) (h:isC x y=some b) (q:Q (.bl (g b)) M):rIsG g x y M Q
def D2:R2D:=rIsG fun b=>b
def xE:R2D:=rIsG fun b=>!b
theorem kW{K:E1}{H:Hp}{x y:D}{b:Bool}{v u:V}{v' u':E2}(h:isC x y=some b)(r1:Rep K H x v)(r2:Rep K H y u)(rv:L2.RelV v v')(ru:L2.RelV u u'):plainIs v' u'=true/\(v'==u')=b:=by
 have hu:u'=.none\/∃c,u'=.bool c:=by
  cases y with
  |non=>rw[Rep]at r2;subst r2;exact .inl ru
  |bl c=>rw[Rep]at r2;subst r2;exact .inr ⟨c,ru⟩
  |_=>cases x<;>exact absurd (show(none:Option Bool)=some b from h) (fun z=>nomatch z)
 cases x with
 |non=>
  rw[Rep]at r1;subst r1;cases (show v'=Fi from rv)
  cases y<;>try exact absurd (show(none:Option Bool)=some b from h) (fun z=>nomatch z)
  ·rw[Rep]at r2;subst r2;cases (show u'=Fi from ru);cases (show some true=some b from h);exact⟨rfl,rfl⟩
  ·rw[Rep]at r2;subst r2;cases (show u'=FY _ from ru);cases (show some false=some b from h);exact⟨rfl,rfl⟩
 |bl c=>
  rw[Rep]at r1;subst r1;cases (show v'=FY _ from rv)
  cases y<;>try exact absurd (show(none:Option Bool)=some b from h) (fun z=>nomatch z)
  ·rw[Rep]at r2;subst r2;cases (show u'=Fi from ru);cases (show some false=some b from h);exact⟨rfl,rfl⟩
  ·rename_i c';rw[Rep]at r2;subst r2;cases (show u'=FY _ from ru);cases (show some (decide (c=c'))=some b from h);refine⟨rfl,?_⟩;cases c<;>cases c'<;>rfl
 |int i=>
  rw[Rep]at r1;subst r1;obtain⟨t,rfl⟩:=rv
  cases y<;>first|exact absurd (show(none:Option Bool)=some b from h) (fun z=>nomatch z)|(cases (show some false=some b from h);rcases hu with rfl|⟨c,rfl⟩<;>exact⟨rfl,rfl⟩)
 |str i=>
  rw[Rep]at r1;subst r1;obtain⟨t,rfl⟩:=rv
  cases y<;>first|exact absurd (show(none:Option Bool)=some b from h) (fun z=>nomatch z)|(cases (show some false=some b from h);rcases hu with rfl|⟨c,rfl⟩<;>exact⟨rfl,rfl⟩)
 |ty i=>
  rw[Rep]at r1;subst r1;cases (show v'=Value.type _ from rv)
  cases y<;>first|exact absurd (show(none:Option Bool)=some b from h) (fun z=>nomatch z)|(cases (show some false=some b from h);rcases hu with rfl|⟨c,rfl⟩<;>exact⟨rfl,rfl⟩)
 |ref i=>
  rw[Rep]at r1;subst r1;cases (show v'=F6 _ from rv)
  cases y<;>first|exact absurd (show(none:Option Bool)=some b from h) (fun z=>nomatch z)|(cases (show some false=some b from h);rcases hu with rfl|⟨c,rfl⟩<;>exact⟨rfl,rfl⟩)
 |rol i=>
  rw[Rep]at r1;obtain⟨a,xs,rfl,_,_⟩:=r1;cases (show v'=F6 _ from rv)
  cases y<;>first|exact absurd (show(none:Option Bool)=some b from h) (fun z=>nomatch z)|(cases (show some false=some b from h);rcases hu with rfl|⟨c,rfl⟩<;>exact⟨rfl,rfl⟩)
 |tup i=>
  rw[Rep]at r1;obtain⟨a,xs,rfl,_,_⟩:=r1;cases (show v'=F6 _ from rv)
  cases y<;>first|exact absurd (show(none:Option Bool)=some b from h) (fun z=>nomatch z)|(cases (show some false=some b from h);rcases hu with rfl|⟨c,rfl⟩<;>exact⟨rfl,rfl⟩)
theorem CW:OpD X (Fm .Is) D2:=by intro pins s σ H v u v' u' Q I rv ru h;obtain⟨x,y,M,R,r1,r2,a,⟨b,e,q⟩,fin⟩:=h;obtain⟨e1,e2⟩:=kW e r1 r2 rv ru;exact wpAny_is_plain e1 ⟨.bl b,H,I,by rw[e2];rfl,fin _ _ _ _ .refl (by rw[Rep]) a q⟩
theorem jP:OpD X (Fm .IsNot) xE:=by intro pins s σ H v u v' u' Q I rv ru h;obtain⟨x,y,M,R,r1,r2,a,⟨b,e,q⟩,fin⟩:=h;obtain⟨e1,e2⟩:=kW e r1 r2 rv ru;exact wpAny_isNot_plain e1 ⟨.bl (!b),H,I,by rw[e2];rfl,fin _ _ _ _ .refl (by rw[Rep]) a q⟩
end
abbrev RC:=List D->MH->DK->Prop
def zS(K:E1)(r:RC):List V->Hp->VK->Prop:=fun vs H Q=>∃ds M R,aB K H ds vs/\Abs K H M/\r ds M R/\Fin K H R Q
def cu(X:Cx)(f:E2)(r:RC):Prop:=bE X f (zS X.K r)
theorem bI{X:Cx}{f:E2}{r r':List V->Hp->VK->Prop}(h:bE X f r)(k:∀xs H Q,r' xs H Q->r xs H Q):bE X f r':=fun pins s σ H xs us Q I a q=>h pins s σ H xs us Q I a (k _ _ _ q)
def BW(r:RC)(t:TAD):TD:=fun δ M Q=>t δ M fun ds M1=>r ds M1 Q
theorem qJ{K:E1}{r:RC}{t:TAD}{σ:L2.St}{H:Hp}{Q:VK}(h:lift K (BW r t) σ H Q):tCB (zS K r) (uF K t) σ H Q:=by obtain⟨δ,M,R,hs,hM,q,fin⟩:=h;exact⟨δ,M,_,hs,hM,q,fun ds M1 vs H1 g1 r1 a1 q1=>⟨ds,M1,R,r1,a1,q1,fin.go g1⟩⟩
section
variable{X:Cx}{x:Str}{p pos:Pos}{e:Expr}{es:List Expr}{t:TAD}{id T:String}{r:RC}
theorem aD(hc:cu X (.builtin id) r)(hg:Gl X x)(hm:X.mg x=none)(hv:Fp x=some (.builtin id))(ha:DA X (e::es) t)(hn:x≠"__name__":=by decide)(hdb:(x==("__debug__":Str))=false:=by decide) (he:EH (e::es) X.env=(false,eval e X.env)::EH es X.env:=by rfl) (hpl:(G6 pos (EH es X.env)).any (·.1)=false:=by rfl):DE X (.Call (.Name x p) (e::es) [] pos) (BW r t):=aV (wB hc hg hm hv ha hn hdb he hpl) fun _ _ _ h=>qJ h
theorem bP(hc:cu X (.type T) r)(hg:Gl X x)(hm:X.mg x=none)(hv:Fp x=some (.type T))(ha:DA X (e::es) t)(hn:x≠"__name__":=by decide)(hdb:(x==("__debug__":Str))=false:=by decide) (he:EH (e::es) X.env=(false,eval e X.env)::EH es X.env:=by rfl) (hpl:(G6 pos (EH es X.env)).any (·.1)=false:=by rfl):DE X (.Call (.Name x p) (e::es) [] pos) (BW r t):=aV (sG hc hg hm hv ha hn hdb he hpl) fun _ _ _ h=>qJ h
theorem bF{K:E1}{H:Hp}{d:D}{vs:List V}(h:aB K H [d] vs):∃v,vs=[v]/\Rep K H d v:=by rw[aB]at h;obtain⟨x,r,rfl,h1,h2⟩:=h;rw[aB]at h2;subst h2;exact⟨x,rfl,h1⟩
theorem dJ{K:E1}{H:Hp}{d e:D}{vs:List V}(h:aB K H [d,e] vs):∃v u,vs=[v,u]/\Rep K H d v/\Rep K H e u:=by rw[aB]at h;obtain⟨x,r,rfl,h1,h2⟩:=h;obtain⟨u,rfl,h3⟩:=bF h2;exact⟨x,u,rfl,h1,h3⟩
def Cw:RC:=fun ds M Q=>match ds with
 |[.int i]=>Q (.int (i.natAbs:Int)) M
 |_=>False
theorem fb:cu X (.builtin "abs") Cw:=bI wt fun vs H Q z9=>by
 obtain⟨ds,M,R,rs,a,q,fin⟩:=z9;unfold Cw at q;split at q
 ·rename_i i;obtain⟨v,rfl,r⟩:=bF rs;rw[Rep]at r;subst r;have e:(if i<0 then -i else i)=(i.natAbs:Int):=by split<;>omega
  exact⟨_,rfl,fin _ _ _ _ .refl (by rw[Rep,e]) a q⟩
 ·exact q.elim
def DJ:RC:=fun ds M Q=>match ds with
 |[.int i,.int j]=>Q (.int (max i j)) M
 |_=>False
def C8:RC:=fun ds M Q=>match ds with
 |[.int i,.int j]=>Q (.int (min i j)) M
 |_=>False
theorem BU(hc:X.calm=true):cu X (.builtin "max") DJ:=bI (ua hc) fun vs H Q z9=>by
 obtain⟨ds,M,R,rs,a,q,fin⟩:=z9;unfold DJ at q;split at q
 ·rename_i i j;obtain⟨v,u,rfl,r,r'⟩:=dJ rs;rw[Rep]at r;subst r;have r2:u=.int j:=by rw[Rep]at r';exact r'
  subst r2;have e:(if j>i then j else i)=max i j:=by split<;>omega
  exact⟨_,_,rfl,fin _ _ _ _ .refl (by rw[Rep,e]) a q⟩
 ·exact q.elim
theorem Bv(hc:X.calm=true):cu X (.builtin "min") C8:=bI (tf hc) fun vs H Q z9=>by
 obtain⟨ds,M,R,rs,a,q,fin⟩:=z9;unfold C8 at q;split at q
 ·rename_i i j;obtain⟨v,u,rfl,r,r'⟩:=dJ rs;rw[Rep]at r;subst r;have r2:u=.int j:=by rw[Rep]at r';exact r'
  subst r2;have e:(if j<i then j else i)=min i j:=by split<;>omega
  exact⟨_,_,rfl,fin _ _ _ _ .refl (by rw[Rep,e]) a q⟩
 ·exact q.elim
def C6:RC:=fun ds M Q=>match ds with
 |[.tup xs]=>Q (.int (xs.length:Int)) M
 |[.rol xs]=>Q (.int (xs.length:Int)) M
 |[.ref l]=>∃xs,M l=some (.lst xs)/\Q (.int (xs.length:Int)) M
 |_=>False
theorem dU:cu X (.builtin "len") C6:=bI ml fun vs H Q z9=>by
 obtain⟨ds,M,R,rs,a,q,fin⟩:=z9;unfold C6 at q;split at q
 ·obtain⟨v,rfl,r⟩:=bF rs;rw[Rep]at r;obtain⟨l,xs,rfl,h1,h2⟩:=r;exact⟨l,xs,rfl,.inr h1,fin _ _ _ _ .refl (by rw[Rep,h2.length]) a q⟩
 ·obtain⟨v,rfl,r⟩:=bF rs;rw[Rep]at r;obtain⟨l,xs,rfl,h1,h2⟩:=r;exact⟨l,xs,rfl,.inl h1.sql,fin _ _ _ _ .refl (by rw[Rep,h2.length]) a q⟩
 ·obtain⟨v,rfl,r⟩:=bF rs;rw[Rep]at r;subst r;obtain⟨xs,e,q⟩:=q;obtain⟨ys,h1,h2⟩:=a _ _ e;exact⟨_,ys,rfl,.inl (SqL.of h1),fin _ _ _ _ .refl (by rw[Rep,h2.length]) a q⟩
 ·exact q.elim
def vS:RC:=fun ds M Q=>match ds with
 |[.tup xs]=>Q (.tup xs) M
 |[.rol xs]=>Q (.tup xs) M
 |[.ref l]=>∃xs,M l=some (.lst xs)/\Q (.tup xs) M
 |_=>False
theorem jr:cu X (.type "tuple") vS:=bI ka fun vs H Q z9=>by
 obtain⟨ds,M,R,rs,a,q,fin⟩:=z9;unfold vS at q;split at q
 ·obtain⟨v,rfl,r⟩:=bF rs;rw[Rep]at r;obtain⟨l,xs,rfl,h1,h2⟩:=r;exact⟨l,xs,rfl,.inr ⟨h1,fin _ _ _ _ .refl (by rw[Rep];exact⟨l,xs,rfl,h1,h2⟩) a q⟩⟩
 ·obtain⟨v,rfl,r⟩:=bF rs;rw[Rep]at r;obtain⟨l,xs,rfl,h1,h2⟩:=r;exact⟨l,xs,rfl,.inl ⟨h1.sql,fun p hp=>fin _ _ _ _ (.new hp) (by rw[Rep];exact⟨p,xs,rfl,SqT.of ay,h2.mono (.new hp)⟩) (a.new hp) q⟩⟩
 ·obtain⟨v,rfl,r⟩:=bF rs;rw[Rep]at r;subst r;obtain⟨xs,e,q⟩:=q;obtain⟨ys,h1,h2⟩:=a _ _ e;exact⟨_,ys,rfl,.inl ⟨SqL.of h1,fun p hp=>fin _ _ _ _ (.new hp) (by rw[Rep];exact⟨p,ys,rfl,SqT.of ay,h2.mono (.new hp)⟩) (a.new hp) q⟩⟩
 ·exact q.elim
def zQ:RC:=fun ds M Q=>match ds with
 |[.int i]=>Q (.int i) M
 |[.bl k]=>Q (.int (if k=true then 1 else 0)) M
 |_=>False
theorem Al:cu X (.type "int") zQ:=bI sX fun vs H Q z9=>by
 obtain⟨ds,M,R,rs,a,q,fin⟩:=z9;unfold zQ at q;split at q
 ·obtain⟨v,rfl,r⟩:=bF rs;rw[Rep]at r;subst r;exact .inl ⟨_,rfl,fin _ _ _ _ .refl (by rw[Rep]) a q⟩
 ·obtain⟨v,rfl,r⟩:=bF rs;rw[Rep]at r;subst r;exact .inr ⟨_,rfl,fin _ _ _ _ .refl (by rw[Rep]) a q⟩
 ·exact q.elim
def tyN:D->Option String
 |.non=>some "NoneType"
 |.bl _=>some "bool"
 |.int _=>some "int"
 |.str _=>some "str"
 |.tup _=>some "tuple"
 |.rol _=>some "list"
 |_=>none
def mT(K:E1):RC:=fun ds M Q=>match ds with
 |[x,.ty n]=>∃t b,tyN x=some t/\F5 K (.type t) (.type n)=some b/\Q (.bl b) M
 |_=>False
theorem tZ:cu X (.builtin "isinstance") (mT X.K):=by
 intro pins s σ H vs us Q I rv z0;obtain⟨ds,M,R,rs,a,q,fin⟩:=z0;unfold mT at q;split at q
 ·rename_i x n;obtain⟨v,u,rfl,r,r'⟩:=dJ rs;rw[Rep]at r';subst r';obtain⟨v',u',rfl,rw0,ru⟩:=vals2 rv;cases (show u'=Value.type n from ru);obtain⟨t,b,et,e,q⟩:=q;have h:∀tk,EP X pins σ Q (.bool b) { s with toks:=tk }:=fun tk=>⟨.bl b,H,I.tok tk,rfl,fin _ _ _ _ .refl (by rw[Rep]) a q⟩;cases x with
  |non=>cases et;rw[Rep]at r;subst r;cases (show v'=Fi from rw0);exact He PySem.W.kitx_none I.kIn GB e (fun z=>nomatch z) h
  |bl y=>cases et;rw[Rep]at r;subst r;cases (show v'=FY y from rw0);exact He PySem.W.kitx_bool I.kIn GB e (fun z=>nomatch z) h
  |int y=>cases et;rw[Rep]at r;subst r;obtain⟨t,q⟩:=(show ∃t,v'=Value.int y t from rw0);cases q;exact He PySem.W.kitx_int I.kIn GB e (fun z=>nomatch z) h
  |str y=>cases et;rw[Rep]at r;subst r;obtain⟨t,q⟩:=(show ∃t,v'=Value.str y t from rw0);cases q;exact He PySem.W.kitx_str I.kIn GB e (fun z=>nomatch z) h
  |tup y=>
   cases et;rw[Rep]at r
   obtain⟨p,xs,rfl,h1,_⟩:=r
   cases (show v'=F6 p from rw0)
   obtain⟨its,_,⟨o,z1,z2,_⟩,_⟩:=I.tuple h1
   exact He PySem.W.kitx_tuple I.kIn ⟨o,z1,z2⟩ e (fun z=>nomatch z) h
  |rol y=>
   cases et;rw[Rep]at r
   obtain⟨p,xs,rfl,h1,_⟩:=r
   cases (show v'=F6 p from rw0)
   obtain⟨its,_,⟨o,n,z1,z2,_⟩,_⟩:=I.list h1.sql
   exact He PySem.W.kitx_list I.kIn ⟨o,z1,z2⟩ e (fun z=>nomatch z) h
  |_=>cases et
 ·exact q.elim
end
abbrev TGD:=D->DS->MH->(DS->MH->Prop)->Prop
abbrev pH:=List D->DS->MH->(DS->MH->Prop)->Prop
section
variable(K:E1)
def vB(H:Hp)(R:DS->MH->Prop)(Q:L2.St->Hp->Prop):Prop:=∀δ' M' σ' H',Grow K H H'->Slots K H' δ' σ'->Abs K H' M'->R δ' M'->Q σ' H'
def CB(t:TGD):TG:=fun v σ H Q=>∃d δ M R,Rep K H d v/\Slots K H δ σ/\Abs K H M/\t d δ M R/\vB K H R Q
def Ad(t:pH):TGs:=fun vs σ H Q=>∃ds δ M R,aB K H ds vs/\Slots K H δ σ/\Abs K H M/\t ds δ M R/\vB K H R Q
end
theorem vB.go{K:E1}{H H1:Hp}{R:DS->MH->Prop}{Q:L2.St->Hp->Prop}(g:Grow K H H1)(h:vB K H R Q):vB K H1 R Q:=fun d M v H' g'=>h d M v H' (g.trans g')
def DG(X:Cx)(e:Expr)(t:TGD):Prop:=PG X e (CB X.K t)
def DGs(X:Cx)(es:List Expr)(t:pH):Prop:=PGs X es (Ad X.K t)
theorem pf{X:Cx}{e:Expr}{t t':TG}(h:PG X e t)(k:∀v σ H Q,t' v σ H Q->t v σ H Q):PG X e t':=fun pins s σ H v u Q I r q=>h pins s σ H v u Q I r (k _ _ _ _ q)
theorem rA{X:Cx}{e:List Expr}{t t':TGs}(h:PGs X e t)(k:∀v σ H Q,t' v σ H Q->t v σ H Q):PGs X e t':=fun pins s σ H v u Q I r q=>h pins s σ H v u Q I r (k _ _ _ _ q)
section
variable{X:Cx}{pos:Pos}
def aQ(i:Nat):TGD:=fun d δ M Q=>Q (δ.set i (some d)) M
theorem aE(i:Nat){x:Str}(hN:X.N.Nodup)(hi:X.N[i]?=some x:=by rfl)(hx:Loc X.env.scope x:=by first|exact Or.inl rfl|exact Or.inr rfl)(hf:X.fn x=true\/X.env.scope.names.lookup x=some .local:=by first|exact .inl rfl|exact .inr rfl|assumption):DG X (.Name x pos) (aQ i):=pf (rN hN hi hx hf) fun v σ H Q zz1_0=>by obtain⟨d,δ,M,R,r,hs,a,q,fin⟩:=zz1_0;exact(fin _ _ _ _ .refl (hs.set r i) a q)
def zC:pH:=fun ds δ M Q=>ds=[]/\Q δ M
inductive gConsD(t:TGD)(u:pH)(ds:List D)(δ:DS)(M:MH)(Q:DS->MH->Prop):Prop
 |mk (d:D) (r:List D) (h:ds=d::r) (q:t d δ M fun δ' M'=>u r δ' M' Q):gConsD t u ds δ M Q
theorem bO:DGs X [] zC:=rA qC fun vs σ H Q z9=>by obtain⟨ds,δ,M,R,rs,hs,a,⟨e,q⟩,fin⟩:=z9;subst e;rw[aB]at rs;exact⟨rs,fin _ _ _ _ .refl hs a q⟩
theorem aI{e:Expr}{es:List Expr}{t:TGD}{u:pH}(h1:DG X e t)(h2:DGs X es u) (hs:(Ho (e::es) X.env).map (·.2)=assign e X.env::(Ho es X.env).map (·.2):=by rfl):DGs X (e::es) (gConsD t u):=rA (jd h1 h2 hs) fun vs σ H Q z9=>by obtain⟨ds,δ,M,R,rs,hs,a,⟨d,r,e,q⟩,fin⟩:=z9;subst e;rw[aB]at rs;obtain⟨x,xs,rfl,r1,r2⟩:=rs;exact⟨x,xs,rfl,d,δ,M,_,r1,hs,a,q,fun δ' M' σ' H' g' s' a' q'=>⟨r,δ',M',R,r2.mono g',s',a',q',fin.go g'⟩⟩
inductive gTupD(n:Nat)(t:pH)(d:D)(δ:DS)(M:MH)(Q:DS->MH->Prop):Prop
 |mk (ds:List D) (h:d=.tup ds) (q:ds.length=n/\t ds δ M Q):gTupD n t d δ M Q
theorem cz{es:List Expr}{k:Nat}{t:pH}{n:Nat}(hc:X.calm=true)(h:DGs X es t) (hn:(Ho es X.env).length=n:=by rfl) (hst:(Ho es X.env).findIdx? (·.1)=none:=by rfl):DG X (.Tuple es k pos) (gTupD n t):=pf (uz hc h hn hst) fun v σ H Q z9=>by obtain⟨d,δ,M,R,r,hs,a,⟨ds,e,hl,q⟩,fin⟩:=z9;subst e;rw[Rep]at r;obtain⟨p,xs,rfl,h1,h2⟩:=r;exact⟨p,xs,rfl,h1,by rw[<-h2.length];exact hl,ds,δ,M,R,h2,hs,a,q,fin⟩
def zW:D->D->D->MH->(MH->Prop)->Prop:=fun o i v M Q=>match o,i with
 |.ref p,.int k=>∃ds j,M p=some (.lst ds)/\ixN ds.length k=some j/\Q (ax M p (.lst (ds.set j v)))
 |_,_=>False
def Dl(to ti:TD):TGD:=fun v δ M Q=>to δ M fun o M1=>ti δ M1 fun i M2=>zW o i v M2 fun M3=>Q δ M3
theorem vF{o i:Expr}{to ti:TD}(ho:DE X o to)(hi:DE X i ti)
 (ha:∀v,assign (.Subscript o i pos) X.env v=(do
  let ov <-holding [v] (eval o X.env)
  let iv <-holding [v,ov] (eval i X.env)
  standAt pos
  holding [v,ov,iv] (setItem ov iv v)
  release [v,ov,iv] []):=by intro _;rfl):DG X (.Subscript o i pos) (Dl to ti):=
 pf (A4 ho hi set_list ha) fun v σ H Q ⟨d,δ,M,R,r,hs,a,q,fin⟩=>
  ⟨δ,M,_,hs,a,q,fun o M1 vo H1 g1 r1 a1 q1=>⟨δ,M1,_,hs.mono g1,a1,q1,fun i M2 vi H2 g2 r2 a2 q2=>by
   unfold zW at q2
   split at q2
   ·obtain⟨ds,j,e1,e2,q2⟩:=q2
    obtain rfl:vo=.ref _:=r1
    obtain rfl:vi=.int _:=r2
    obtain⟨xs,h1,h2⟩:=a2 _ _ e1
    refine⟨_,xs,_,j,rfl,rfl,h1,by rw[<-h2.length];exact e2,?_⟩
    have g3:Grow X.K H2 (upd H2 _ (.lst (xs.set j v))):=.lst h1
    exact fin _ _ _ _ ((g1.trans g2).trans g3) (hs.mono ((g1.trans g2).trans g3)) (a2.xZ h1 (h2.set (r.mono (g1.trans g2)) j)) q2
   ·exact q2.elim⟩⟩
end
section
variable{X:Cx}{pos:Pos}{st:Stmt}{rest:List Stmt}{t u:TSD}
def eE:TSD:=fun B δ M=>B.nx δ M
def fS(t u:TSD):TSD:=fun B δ M=>t { B with nx:=u B } δ M
theorem aJ:DSs X [] eE:=l6 zj fun E σ H zz2_0=>by obtain⟨δ,M,hs,a,B,ok,q⟩:=zz2_0;exact(ok.nx _ _ _ _ .refl hs a q)
theorem aj(h1:DSt X st t)(h2:DSs X rest u):DSs X (st::rest) (fS t u):=l6 (nD h1 h2) fun E σ H zz3_0=>by obtain⟨δ,M,hs,a,B,ok,q⟩:=zz3_0;exact(⟨δ,M,hs,a,{ B with nx:=u B },⟨fun δ' M' σ' H' g s' a' q'=>⟨δ',M',s',a',B,ok.go g,q'⟩,ok.rt,ok.bk,ok.ct⟩,q⟩)
theorem ar(h1:DSt X st t):DSs X [st] t:=sg h1
def qG:TSD:=fun _ _ _=>False
theorem nC:DSt X st qG:=cm wA fun E σ H zz7_0=>by obtain⟨δ,M,hs,a,B,ok,q⟩:=zz7_0;exact(q.elim)
theorem tI{sts:List Stmt}:DSs X sts qG:=l6 sN fun E σ H zz8_0=>by obtain⟨δ,M,hs,a,B,ok,q⟩:=zz8_0;exact(q.elim)
def gh(te:TD):TSD:=fun B δ M=>te δ M fun _ M1=>B.nx δ M1
theorem fG{e:Expr}{te:TD}(he:DE X e te)(hs:Ht e none pos.line X.env=pure false:=by rfl):DSt X (.Expr e pos) (gh te):=cm (rH he hs) fun E σ H zz9_0=>by obtain⟨δ,M,hs,a,B,ok,q⟩:=zz9_0;exact(⟨δ,M,_,hs,a,q,fun d M1 v H1 g1 r1 a1 q1=>ok.nx _ _ _ _ g1 (hs.mono g1) a1 q1⟩)
def iZ(te:TD):TSD:=fun B δ M=>te δ M B.rt
theorem aC{e:Expr}{te:TD}(he:DE X e te):DSt X (.Return (some e) pos) (iZ te):=cm (An he) fun E σ H zz10_0=>by obtain⟨δ,M,hs,a,B,ok,q⟩:=zz10_0;exact(⟨δ,M,_,hs,a,q,fun d M1 v H1 g1 r1 a1 q1=>ok.rt _ _ _ _ g1 r1 a1 q1⟩)
def jI(c:TTD)(t u:TSD):TSD:=fun B δ M=>c δ M fun b M1=>if b=true then t B δ M1 else u B δ M1
theorem aS{c:Expr}{a b:List Stmt}{tc:TTD}(hc:DT X c tc)(ha:DSs X a t)(hb:DSs X b u):DSt X (.If c a b pos) (jI tc t u):=
 cm (CU hc ha hb) fun E σ H zz12_0=>by obtain⟨δ,M,hs,a,B,ok,q⟩:=zz12_0;exact(⟨δ,M,_,hs,a,q,fun c M1 H1 g1 a1 q1=>by
  cases c with
  |true=>rw[if_pos rfl]at q1 ⊢;exact⟨δ,M1,hs.mono g1,a1,B,ok.go g1,q1⟩
  |false=>rw[if_neg ET]at q1 ⊢;exact⟨δ,M1,hs.mono g1,a1,B,ok.go g1,q1⟩⟩)
def fm(te:TD)(g:TGD):TSD:=fun B δ M=>te δ M fun d M1=>g d δ M1 B.nx
theorem dg{tg e:Expr}{te:TD}{g:TGD}(he:DE X e te)(hg:DG X tg g)(hs:swapsWithSole [tg] e pos.line X.env=pure false:=by rfl)(hw:swappedStores [tg] e X.env=pure none:=by rfl)
 (h1:(Ho [tg] X.env).map (·.2)=[assign tg X.env]:=by rfl):DSt X (.Assign [tg] e pos) (fm te g):=
 cm (Ac he hg hs hw h1) fun E σ H zz13_0=>by obtain⟨δ,M,hs,a,B,ok,q⟩:=zz13_0;exact(⟨δ,M,_,hs,a,q,fun d M1 v H1 g1 r1 a1 q1=>
  ⟨d,δ,M1,B.nx,r1,hs.mono g1,a1,q1,fun δ' M' σ' H' g' s' a' q'=>ok.nx _ _ _ _ (g1.trans g') s' a' q'⟩⟩)
theorem aA(i:Nat){x:Str}{e:Expr}{te:TD}{pos':Pos}(hN:X.N.Nodup)(he:DE X e te)(hi:X.N[i]?=some x:=by rfl)(hx:Loc X.env.scope x:=by first|exact Or.inl rfl|exact Or.inr rfl)(hs:Ht e (some (.Name x pos')) pos.line X.env=pure false:=by rfl) (hf:X.fn x=true\/X.env.scope.names.lookup x=some .local:=by first|exact .inl rfl|exact .inr rfl|assumption):DSt X (.Assign [.Name x pos'] e pos) (fm te (aQ i)):=cm (A1 hN hi hx he hs hf) fun E σ H zz14_0=>by obtain⟨δ,M,hs,a,B,ok,q⟩:=zz14_0;exact(⟨δ,M,_,hs,a,q,fun d M1 v H1 g1 r1 a1 q1=>ok.nx _ _ _ _ g1 ((hs.mono g1).set r1 i) a1 q1⟩)
def Cv(i j:Nat)(ta:TAD):TSD:=fun B δ M=>ta δ M fun ds M1=>∃d e,ds=[d,e]/\B.nx ((δ.set i (some d)).set j (some e)) M1
theorem eO(i j:Nat){x y:Str}{a b:Expr}{ta:TAD}{px py pt:Pos}{kt k2 pt2}(hc:X.calm=true)(hN:X.N.Nodup)(ha:DA X [a,b] ta)(hij:i≠j:=by decide)(hi:X.N[i]?=some x:=by rfl)(hj:X.N[j]?=some y:=by rfl)
 (hx:X.env.scope.names.lookup x=some .local:=by rfl) (hy:X.env.scope.names.lookup y=some .local:=by rfl)
 (hw:swappedStores [.Tuple [.Name x px,.Name y py] kt pt] (.Tuple [a,b] k2 pt2) X.env=pure (some [x,y]):=by rfl)
 (hs:swapsWithSole [.Tuple [.Name x px,.Name y py] kt pt] (.Tuple [a,b] k2 pt2) pos.line X.env=pure false:=by rfl) :
 DSt X (.Assign [.Tuple [.Name x px,.Name y py] kt pt] (.Tuple [a,b] k2 pt2) pos) (Cv i j ta):=
 cm (Ar hc hN hi hj hij hx hy ha hw hs) fun E σ H zz15_0=>by obtain⟨δ,M,hs,a,B,ok,q⟩:=zz15_0;exact(⟨δ,M,_,hs,a,q,fun ds M1 vs H1 g1 r1 a1 z9=>by
  obtain⟨d,e,z,q1⟩:=z9
  subst z
  obtain⟨v,u,rfl,r2,r3⟩:=dJ r1
  exact⟨v,u,rfl,ok.nx _ _ _ _ g1 (((hs.mono g1).set r2 i).set r3 j) a1 q1⟩⟩)
def rC(c:TTD)(tb:TSD):TSD:=fun B δ M=>∃W:Nat->DS->MH->Prop,(∃m,W m δ M)/\∀m δ M,W m δ M->
 c δ M fun b M1=>if b=true then tb { B with nx:=fun δ' M'=>∃m',m'<m/\W m' δ' M',ct:=fun δ' M'=>∃m',m'<m/\W m' δ' M',bk:=B.nx } δ M1 else B.nx δ M1
theorem gJ{c:Expr}{body:List Stmt}{tc:TTD}{tb:TSD}(hp:PassesOwn (ED X.prog X.w) X.A X.env X.xe)(hc:DT X c tc)(hb:DSs X body tb):DSt X (.While c body [] pos) (rC tc tb):=
 cm (wF hp hc hb) fun E σ H z9=>by
  obtain⟨δ,M,hs,a,B,ok,W,⟨m,w0⟩,turn⟩:=z9
  refine⟨fun m σ H'=>Grow X.K H H'/\∃δ M,Slots X.K H' δ σ/\Abs X.K H' M/\W m δ M,⟨m,.refl,δ,M,hs,a,w0⟩,?_⟩
  rintro m σ H' ⟨g,δ,M,hs,a,w0⟩
  refine⟨δ,M,_,hs,a,turn m δ M w0,fun b M1 H1 g1 a1 q1=>?_⟩
  cases b with
  |true=>
   rw[if_pos rfl]at q1 ⊢
   refine⟨fun σ2 H2=>∃m',m'<m/\(Grow X.K H H2/\∃δ M,Slots X.K H2 δ σ2/\Abs X.K H2 M/\W m' δ M),fun σ' H' h=>h,δ,M1,hs.mono g1,a1,_,?_,q1⟩
   refine⟨fun δ' M' σ' H' g' s' a' zz16_0=>by obtain⟨m',l,w'⟩:=zz16_0;exact(⟨m',l,(g.trans g1).trans g',δ',M',s',a',w'⟩),fun d M v H' g'=>ok.rt d M v H' ((g.trans g1).trans g'),fun δ' M' σ' H' g' s' a' q'=>ok.nx _ _ _ _ ((g.trans g1).trans g') s' a' q',fun δ' M' σ' H' g' s' a' zz17_0=>by obtain⟨m',l,w'⟩:=zz17_0;exact(⟨m',l,(g.trans g1).trans g',δ',M',s',a',w'⟩)⟩
  |false=>
   rw[if_neg ET]at q1 ⊢
   exact ok.nx _ _ _ _ (g.trans g1) (hs.mono g1) a1 q1
inductive ForW(g:TGD)(tb:TSD)(B:EndsD)(n:Nat)(δ0:DS)(M0:MH):Prop
 |mk (W:Nat->DS->MH->Prop) (w0:W 0 δ0 M0) (turn:∀i δ M,i<n->W i δ M->g (.int (i:Int)) δ M fun δ2 M2=>tb { B with nx:=W (i+1),ct:=W (i+1),bk:=B.nx } δ2 M2) (done:∀δ M,W n δ M->B.nx δ M):ForW g tb B n δ0 M0
inductive ForR(g:TGD)(tb:TSD)(B:EndsD)(ds:List D)(δ0:DS)(M0:MH):Prop
 |mk (n:Nat) (e:ds=[.int (n:Int)]) (q:n<2^60/\ForW g tb B n δ0 M0):ForR g tb B ds δ0 M0
def AK(ta:TAD)(g:TGD)(tb:TSD):TSD:=fun B δ M=>ta δ M fun ds M1=>ForR g tb B ds δ M1
theorem rD{tg e:Expr}{body:List Stmt}{ta:TAD}{g:TGD}{tb:TSD}{p p2:Pos}(hp:PassesOwn (ED X.prog X.w) X.A X.env X.xe)(hc:X.calm=true)(hg:Gl X "range")(hm:X.mg "range"=none)(ha:DA X [e] ta)(hG:DG X tg g)(hb:DSs X body tb)
 (hs:EH [e] X.env=[(false,eval e X.env)]:=by rfl) (hf:∀x,FG (.Call (.Name "range" p) [e] [] p2) X.env x=pure x:=by intro _;rfl):DSt X (.For tg (.Call (.Name "range" p) [e] [] p2) body [] pos) (AK ta g tb):=
 cm (wU hp hc (lB hg hm ha hs) hG hb hf) fun E σ H ⟨δ,M,hs,a,B,ok,q⟩=>⟨δ,M,_,hs,a,q,fun ds M1 vs H1 g1 r1 a1 z9=>by
  obtain⟨n,e,hn,W,w0,turn,done⟩:=z9
  subst e
  obtain⟨v,rfl,r⟩:=bF r1
  rw[Rep]at r;subst r
  refine⟨(n:Int),rfl,by omega,by omega,?_⟩
  rw[show((n:Int)).toNat=n from by simp]
  refine tO (fun i σ H'=>Grow X.K H H'/\∃δ M,Slots X.K H' δ σ/\Abs X.K H' M/\W i δ M) ⟨g1,δ,M1,hs.mono g1,a1,w0⟩ ?_ ?_
  ·rintro i σ H2 hi ⟨g2,δ,M,s2,a2,w2⟩
   refine⟨.int (i:Int),δ,M,_,by rw[Rep];simp,s2,a2,turn i δ M hi w2,fun δ3 M3 σ3 H3 g3 s3 a3 q3=>?_⟩
   refine⟨δ3,M3,s3,a3,_,?_,q3⟩
   exact⟨fun δ' M' σ' H' g' s' a' w'=>⟨(g2.trans g3).trans g',δ',M',s',a',w'⟩,fun d M v H' g'=>ok.rt d M v H' ((g2.trans g3).trans g'),fun δ' M' σ' H' g' s' a' q'=>ok.nx _ _ _ _ ((g2.trans g3).trans g') s' a' q',fun δ' M' σ' H' g' s' a' w'=>⟨(g2.trans g3).trans g',δ',M',s',a',w'⟩⟩
  ·rintro σ H2 ⟨g2,δ,M,s2,a2,w2⟩
   exact ok.nx _ _ _ _ g2 s2 a2 (done δ M w2)⟩
end
theorem gz{b:Bool}{A B:Prop}(e:b=true)(h:A):if b=true then A else B:=by rw[if_pos e];exact h
theorem dQ{b:Bool}{A B:Prop}(e:b=false)(h:B):if b=true then A else B:=by rw[if_neg (by rw[e];exact ET)];exact h
theorem xS{ta tb:TD}{δ:DS}{M:MH}{Q:DK}(c1 c2:Bool)(ha:∀K:DK,K (.bl c1) M->ta δ M K)(hb:c1=true->∀K:DK,K (.bl c2) M->tb δ M K)(hq:Q (.bl (c1&&c2)) M):vJ ta tb δ M Q:=
 ha _ ⟨c1,rfl,by
  cases c1 with
  |true=>rw[if_pos rfl];exact hb rfl _ hq
  |false=>rw[if_neg ET];exact hq⟩
theorem orT{ta tb:TTD}{δ:DS}{M:MH}{Q:Bool->MH->Prop}(c1 c2:Bool)(ha:∀K:Bool->MH->Prop,K c1 M->ta δ M K)(hb:c1=false->∀K:Bool->MH->Prop,K c2 M->tb δ M K)(hq:Q (c1||c2) M):C3 ta tb δ M Q:=
 ha _ (by
  cases c1 with
  |true=>rw[if_pos rfl];exact hq
  |false=>rw[if_neg ET];exact hb rfl _ hq)
theorem De{ta tb:TTD}{δ:DS}{M:MH}{Q:Bool->MH->Prop}(c1 c2:Bool)(ha:∀K:Bool->MH->Prop,K c1 M->ta δ M K)(hb:c1=true->∀K:Bool->MH->Prop,K c2 M->tb δ M K)(hq:Q (c1&&c2) M):zz ta tb δ M Q:=
 ha _ (by
  cases c1 with
  |true=>rw[if_pos rfl];exact hb rfl _ hq
  |false=>rw[if_neg ET];exact hq)
theorem bV{t u:TSD}{B:EndsD}{δ:DS}{M:MH}(W:DS->MH->Prop)(hu:∀δ' M',W δ' M'->u B δ' M')(ht:(∀δ' M',W δ' M'->u B δ' M')->t { B with nx:=u B } δ M):fS t u B δ M:=ht hu
def Sub(M' M:MH):Prop:=∀a o,M' a=some o->M a=some o
def D6(r:Addr)(M' M:MH):Prop:=∀a o,a≠r->M' a=some o->M a=some o
theorem Sub.refl{M:MH}:Sub M M:=fun _ _ h=>h
theorem Sub.new{M M':MH}{p:Addr}{o:MO}(hp:M p=none)(s:Sub M' M):Sub M' (ax M p o):=fun a u h=>by rw[ak (fun e=>by subst e;rw[s _ _ h]at hp;cases hp)];exact s _ _ h
theorem Sub.DO{M M':MH}{r:Addr}{o:MO}(s:D6 r M' M):Sub (ax M' r o) (ax M r o):=fun a u h=>by
 by_cases e:a=r
 ·subst e;rw[ai]at h ⊢;exact h
 ·rw[ak e]at h ⊢;exact s _ _ e h
inductive Ret(Q:DK)(d:D)(M:MH):Prop
 |mk (M':MH) (s:Sub M' M) (q:Q d M'):Ret Q d M
theorem rtn{Q:DK}{d:D}{M:MH}(q:Q d M):Ret Q d M:=⟨M,.refl,q⟩
abbrev SpD:=List D->MH->DK->Prop
def fZ(K:E1)(sp:SpD):Sp:=fun vs H Q _=>∃ds M R,aB K H ds vs/\Abs K H M/\sp ds M R/\Fin K H R Q
def Cal(P:EF)(w:EZ)(K:E1)(mg:Str->Option E2)(base:Heap)(k:Nat)(x:Str)(sp:SpD):Prop:=
 ∃f fd ps,FnOk P w K mg base CX0 k f fd ps (fZ K sp)/\mg x=some (.ref f)/\G7 K (.ref f)=true/\Binds K fd ps []
theorem Cal.mono{P:EF}{w:EZ}{K:E1}{mg:Str->Option E2}{base:Heap}{j k:Nat}{x:Str}{sp:SpD}(h:Cal P w K mg base j x sp)(l:j<=k):Cal P w K mg base k x sp:=let⟨f,fd,ps,F,r⟩:=h;⟨f,fd,ps,F.mono l,r⟩
section
variable{X:Cx}{k:Nat}{x:Str}{sp:SpD}{p pos:Pos}{e:Expr}{es:List Expr}{t:TAD}
def uE(sp:SpD)(t:TAD):TD:=fun δ M Q=>t δ M fun ds M1=>sp ds M1 Q
theorem ao(C:Cal X.prog X.w X.K X.mg X.base k x sp)(hr:Room k X.A)(ha:DA X (e::es) t)(hg:Gl X x:=by rfl)(hdb:(x==("__debug__":Str))=false:=by decide)
 (he:EH (e::es) X.env=(false,eval e X.env)::EH es X.env:=by rfl) (hpl:(G6 pos (EH es X.env)).any (·.1)=false:=by rfl):DE X (.Call (.Name x p) (e::es) [] pos) (uE sp t):=by
 obtain⟨f,fd,ps,F,hm,hk,hb⟩:=C
 refine aV (ya F hr hg hm hk hb .nil B1 ha hdb he hpl) fun σ H Q zz19_0=>?_
 obtain⟨δ,M,R,hs,hM,q,fin⟩:=zz19_0
 refine⟨δ,M,_,hs,hM,q,fun ds M1 vs H1 g1 r1 a1 q1=>?_⟩
 show fZ X.K sp (vs++[]) H1 Q E0
 rw[GL]
 exact⟨ds,M1,R,r1,a1,q1,fin.go g1⟩
end
def cZ(N:List Str)(ds:List D):DS:=ds.map some++Hu (N.length-ds.length) none
section
variable{P:EF}{w:EZ}{K:E1}{mg:Str->Option E2}{base:Heap}
theorem fnD{x qual:Str}{st:Stmt}{f:Addr}{fd:Hl}{N ps:List Str}{k:Nat}{sp:SpD}(F:Fun K x qual st f fd)(S:FnScope N ps (aq st))(len:∀ds M Q,sp ds M Q->ds.length=ps.length)
 (hbody:∀X:Cx,X.prog=P->True) (body:∀(cdv:E2) (A:EX) (outer:List Env) (s:E3) (H:Hp) (E:XK),Room k (A.deeper (envOfC qual (aq st) s.heap.objs.size f cdv))->
  ∃t,DSs (aW CX0 P w K mg base N qual (aq st) f cdv A outer s H E).nox (aL st) t/\∀ds M Q,sp ds M Q->t { nx:=fun _ M'=>Ret Q .non M',rt:=Ret Q } (cZ N ds) M):FnOk P w K mg base CX0 (k+1) f fd ps (fZ K sp):=by
 refine F.ok S (fun vs H Q E zz20_0=>by obtain⟨ds,M,R,rs,_,q,_⟩:=zz20_0;rw[<-rs.length];exact len _ _ _ q) fun cdv A outer s H vs Q E hr zz21_0=>?_
 obtain⟨ds,M,R,rs,a,q,fin⟩:=zz21_0
 obtain⟨t,h,hq⟩:=body cdv A outer s H E hr
 refine⟨_,h,cZ N ds,M,fg rs,a,{ nx:=fun _ M'=>Ret R .non M',rt:=Ret R },⟨fun δ' M' σ' H' g s' a' q'=>?_,fun d M' v H' g r a' zz22_0=>by obtain⟨M2,s2,q'⟩:=zz22_0;exact(fin _ _ _ _ g r (a'.sub s2) q'),fun _ _ _ _ _ _ _ z=>z,fun _ _ _ _ _ _ _ z=>z⟩,hq ds M R q⟩
 obtain⟨M2,s2,q'⟩:=q'
 exact fin .non M2 .non H' g (by rw[Rep]) (a'.sub s2) q'
def Txt(K:E1)(mg:Str->Option E2)(x:Str)(st:Stmt):Prop:=∃f fd,Fun K x x st f fd/\mg x=some (.ref f)
theorem Txt.mk{h:Heap}{x:Str}{st:Stmt}{f:Addr}{oc:E2}{od an:Option Addr}{osl:Array (Option E2)}{kV doc pm cdv ct:E2}(X:K.In h)(G:h.Ns EY mg)(a:Fo K EY x=some (some (.ref f))) (l:K.lookup f=some ⟨oc,od,.func (FI x x (aX st) (aL st) (aq st) .none kV doc pm an cdv ct),osl⟩) (c:Hv K cdv x=true) (k:G7 K (.ref f)=true):Txt K mg x st:=⟨f,_,uQ l c k,PySem.W.mg_of X G a⟩
theorem tS{x:Str}{st:Stmt}{N ps:List Str}{k:Nat}{sp:SpD}(T:Txt K mg x st)(S:FnScope N ps (aq st))
 (hb:∀(kV doc pm:E2) (an:Option Addr) (cdv ct:E2) (us:List E2),us.length=ps.length->bindArgs (FI x x (aX st) (aL st) (aq st) .none kV doc pm an cdv ct) ⟨us,[]⟩=pure (ps.zip us))
 (len:∀ds M Q,sp ds M Q->ds.length=ps.length)
 (body:∀(f:Addr) (cdv:E2) (A:EX) (outer:List Env) (s:E3) (H:Hp) (E:XK),Room k (A.deeper (envOfC x (aq st) s.heap.objs.size f cdv))->
  ∃t,DSs (aW CX0 P w K mg base N x (aq st) f cdv A outer s H E).nox (aL st) t/\∀ds M Q,sp ds M Q->t { nx:=fun _ M'=>Ret Q .non M',rt:=Ret Q } (cZ N ds) M):Cal P w K mg base (k+1) x sp:=by
 obtain⟨f,fd,F,hm⟩:=T
 exact⟨f,fd,ps,fnD F S len (fun _ _=>trivial) (body f),hm,F.kp,F.binds hb⟩
end
theorem fo:Fp "abs"=some (.builtin "abs"):=by decide +kernel
theorem l0:Fp "max"=some (.builtin "max"):=by decide +kernel
theorem mU:Fp "min"=some (.builtin "min"):=by decide +kernel
theorem cC:Fp "len"=some (.builtin "len"):=by decide +kernel
theorem aP:Fp "isinstance"=some (.builtin "isinstance"):=by decide +kernel
theorem gF:Fp "tuple"=some (.type "tuple"):=by decide +kernel
theorem gM:Fp "list"=some (.type "list"):=by decide +kernel
theorem BL:Fp "int"=some (.type "int"):=by decide +kernel
section
variable{P:EF}{w:EZ}{K:E1}{mg:Str->Option E2}
theorem DQ{x:Str}{st:Stmt}{N:List Str}{p:Str}{k:Nat}{sp:SpD}{fa:Addr}(T:Txt K mg x st)(hfa:mg x=some (.ref fa))(S:FnScope N [p] (aq st))
 (hb:∀(kV doc pm:E2) (an:Option Addr) (cdv ct:E2) (us:List E2),us.length=[p].length->bindArgs (FI x x (aX st) (aL st) (aq st) .none kV doc pm an cdv ct) ⟨us,[]⟩=pure ([p].zip us))
 (len:∀ds M Q,sp ds M Q->ds.length=[p].length)
 (body:∀(base:Heap) (f:Addr) (cdv:E2) (A:EX) (outer:List Env) (s:E3) (H:Hp) (E:XK),Room k (A.deeper (envOfC x (aq st) s.heap.objs.size f cdv))->
  ∃t,DSs (aW CX0 P w K mg base N x (aq st) f cdv A outer s H E).nox (aL st) t/\∀ds M Q,sp ds M Q->t { nx:=fun _ M'=>Ret Q .non M',rt:=Ret Q } (cZ N ds) M) :
 ∃fd,(∀(s:E3) (u:E2),BindsTo s fd ⟨[u],[]⟩ [(p,u)])/\∀base:Heap,FnOk P w K mg base CX0 (k+1) fa fd [p] (fZ K sp):=by
 obtain⟨f,fd,F,hm⟩:=T
 have e:=hfa.symm.trans hm
 cases e
 refine⟨fd,fun s u=>?_,fun base=>fnD F S len (fun _ _=>trivial) (body base _)⟩
 obtain⟨oc,od,kV,doc,pm,an,cdv,ct,osl,rfl,lk,hcd⟩:=F.ex
 exact .of_eq (hb kV doc pm an cdv ct [u] rfl)
end
end SD
namespace Ma
open PySem PySem.Spec PyProof.Rows L2 SD
abbrev fr(q:Rat):D:=.tup [.int q.num,.int (q.den:Int)]
theorem den_pos(q:Rat):(0:Int)<(q.den:Int):=by have:=q.den_pos;omega
def Bq(n:Nat)(q:Rat):Prop:=Bd n q.num/\Bd n (q.den:Int)
theorem Bq.mono{m n:Nat}{q:Rat}(h:Bq m q)(l:m<=n):Bq n q:=⟨h.1.mono l,h.2.mono l⟩
theorem oK{t b:Int}(hb:0<b):t.fdiv b=t/b:=Int.fdiv_eq_ediv_of_nonneg _ (by omega)
theorem fdiv_neg{t b:Int}(hd:b ∣ t)(hb:0<b):t.fdiv (-b)=-(t/b):=by
 obtain⟨c,rfl⟩:=hd;have hb':b≠0:=by omega
 rw[Int.mul_ediv_cancel_left _ hb'];have:b*c=-b * -c:=by rw[Int.neg_mul_neg]
 rw[this];exact Int.mul_fdiv_cancel_left _ (by omega)
theorem qE(t b:Int):((Nat.gcd t.natAbs b.natAbs:Nat):Int) ∣ t:=Int.ofNat_dvd_left.mpr (Nat.gcd_dvd_left _ _)
theorem qK(t b:Int):((Nat.gcd t.natAbs b.natAbs:Nat):Int) ∣ b:=Int.ofNat_dvd_left.mpr (Nat.gcd_dvd_right _ _)
theorem lJ(t b:Int):Int.gcd b t=Nat.gcd t.natAbs b.natAbs:=by unfold Int.gcd;exact Nat.gcd_comm _ _
theorem rG{t b:Int}(hb:b≠0):0<Nat.gcd t.natAbs b.natAbs:=Nat.gcd_pos_of_pos_right _ (by omega)
theorem rL{t b:Int}(hb:0<b):t.fdiv (Nat.gcd t.natAbs b.natAbs:Nat)=(Rat.divInt t b).num/\b.fdiv (Nat.gcd t.natAbs b.natAbs:Nat)=((Rat.divInt t b).den:Int):=by
 have hg:=rG (t:=t) (b:=b) (by omega);rw[oK (by omega),oK (by omega),Rat.num_divInt,Rat.den_divInt,if_neg (by omega),G3 hb,Int.one_mul,lJ];refine⟨rfl,?_⟩;rw[Int.natCast_ediv]
 congr 1
 omega
theorem r0{t b:Int}(hb:b<0):t.fdiv (-((Nat.gcd t.natAbs b.natAbs:Nat):Int))=(Rat.divInt t b).num/\b.fdiv (-((Nat.gcd t.natAbs b.natAbs:Nat):Int))=((Rat.divInt t b).den:Int):=by
 have hg:=rG (t:=t) (b:=b) (by omega);rw[fdiv_neg (qE t b) (by omega),fdiv_neg (qK t b) (by omega),Rat.num_divInt,Rat.den_divInt,if_neg (by omega),FN hb,lJ];constructor
 ·rw[show(-1:Int)*t=-t from by omega,Int.neg_ediv_of_dvd (qE t b)]
 ·rw[Int.natCast_ediv,show((b.natAbs:Nat):Int)=-b from by omega,Int.neg_ediv_of_dvd (qK t b)]
theorem qx{t b:Int}(hb:b≠0):(Rat.divInt t b).num.natAbs<=t.natAbs/\(Rat.divInt t b).den<=b.natAbs:=by
 constructor
 ·rw[Rat.num_divInt];refine Fh (Int.natAbs_ediv_le_natAbs _ _) ?_;rw[Int.natAbs_mul];rcases Int.lt_trichotomy b 0 with h|h|h
  ·rw[FN h];simp
  ·exact absurd h hb
  ·rw[G3 h];simp
 ·rw[Rat.den_divInt,if_neg hb];exact Nat.div_le_self _ _
theorem Bq.divInt{n:Nat}{t b:Int}(hb:b≠0)(h1:Bd n t)(h2:Bd n b):Bq n (Rat.divInt t b):=by obtain⟨a1,a2⟩:=qx (t:=t) hb;exact⟨Nat.lt_of_le_of_lt a1 h1,Nat.lt_of_le_of_lt (by simpa using a2) h2⟩
theorem qB(x y:Nat):Int.fmod (x:Int) (y:Int)=((x%y:Nat):Int):=by rw[Int.fmod_eq_emod_of_nonneg _ (by omega)];rfl
theorem uD(q r:Rat):Ff (.tuple [.int q.num,.int (q.den:Int)]) (.tuple [.int r.num,.int (r.den:Int)])=decide (q=r):=by
 simp only[Ff,FP,Bool.and_true];by_cases h:q=r
 ·subst h;simp
 ·rw[decide_eq_false h];rw[Bool.eq_false_iff];intro z;rw[FF,beq_iff_eq,beq_iff_eq]at z;exact h (Rat.ext z.1 (by have:=z.2;omega))
theorem zX(q r:Rat):decide (q.num*(r.den:Int)<r.num*(q.den:Int))=decide (q<r):=by rw[decide_eq_decide,Rat.lt_iff]
abbrev spt(a b:Rat):D:=.tup [fr a,fr b]
theorem dW(q:Rat):(q.den:Int)≠0:=by have:=q.den_pos;omega
theorem add_eq(q r:Rat):Rat.divInt (q.num*(r.den:Int)+r.num*(q.den:Int)) ((q.den:Int)*(r.den:Int))=q+r:=by rw[<-Rat.divInt_add_divInt _ _ (dW q) (dW r),FU,FU]
theorem sub_eq(q r:Rat):Rat.divInt (q.num*(r.den:Int)-r.num*(q.den:Int)) ((q.den:Int)*(r.den:Int))=q-r:=by rw[<-Rat.divInt_sub_divInt _ _ (dW q) (dW r),FU,FU]
theorem mul_eq(q r:Rat):Rat.divInt (q.num*r.num) ((q.den:Int)*(r.den:Int))=q*r:=by rw[<-Rat.divInt_mul_divInt,FU,FU]
theorem div_eq(q r:Rat):Rat.divInt (q.num*(r.den:Int)) ((q.den:Int)*r.num)=q/r:=by rw[<-Rat.divInt_mul_divInt,FU,<-Rat.inv_divInt,FU,Rat.div_def]
theorem gq(q r:Rat):(q.den:Int)*(r.den:Int)≠0:=Int.mul_ne_zero (dW q) (dW r)
theorem Bq.Ce{n:Nat}{q r:Rat}(a:Bq n q)(b:Bq n r):Bd (2*n+1) (q.num*(r.den:Int)+r.num*(q.den:Int)):=((a.1.mul b.2).add (b.1.mul a.2)).mono (by omega)
theorem Bq.lb{n:Nat}{q r:Rat}(a:Bq n q)(b:Bq n r):Bd (2*n+1) (q.num*(r.den:Int)-r.num*(q.den:Int)):=((a.1.mul b.2).sub (b.1.mul a.2)).mono (by omega)
theorem Bq.CS{n:Nat}{q r:Rat}(a:Bq n q)(b:Bq n r):Bd (2*n+1) (q.num*r.num):=(a.1.mul b.1).mono (by omega)
theorem Bq.rX{n:Nat}{q r:Rat}(a:Bq n q)(b:Bq n r):Bd (2*n+1) ((q.den:Int)*(r.den:Int)):=(a.2.mul b.2).mono (by omega)
theorem Bq.sub{n:Nat}{q r:Rat}(a:Bq n q)(b:Bq n r):Bq (2*n+1) (q-r):=by rw[<-sub_eq];exact .divInt (gq q r) (a.lb b) (a.rX b)
theorem Bq.mOk{n:Nat}{q r:Rat}(a:Bq n q)(b:Bq n r)(h:n<=8000):IntMulOk q.num r.num/\IntMulOk q.num (r.den:Int)/\IntMulOk r.num (q.den:Int)/\IntMulOk (q.den:Int) (r.den:Int):=
 have m:∀{i:Int},Bd n i->Bd 1000000 i:=fun z=>z.mono (by omega)
 ⟨dF (m a.1) (m b.1),dF (m a.1) (m b.2),dF (m b.1) (m a.2),dF (m a.2) (m b.2)⟩
def sgn(z:Rat):Int:=if 0<z then 1 else if z<0 then -1 else 0
def cr(a b c d x y:Rat):Rat:=(c-a)*(y-b)-(d-b)*(x-a)
abbrev wll(a b c d:Rat):D:=.tup [spt a b,spt c d]
def ah(a b c d:Rat):Prop:=a<c\/a=c/\b<d
instance(a b c d:Rat):Decidable (ah a b c d):=inferInstanceAs (Decidable (_\/_))
theorem oz(z:Rat):sgn z=0↔z=0:=by
 unfold sgn;split
 ·grind
 ·split<;>grind
theorem pos_int{i:Int}(h:0<i):(0:Rat)<(i:Rat):=by rw[Rat.lt_iff];simpa using h
end Ma
namespace SD
open PySem PySem.Spec PyProof.Rows L2
def dS(names:List (Str×GG))(env:Env):List (Str×Addr):=(names.filter fun y=>y.2==.free).reverse.map fun y=>(y.1,(env.cells.lookup y.1).getD 0)
theorem jC{scope:Gz}{env:Env}(h:∀y∈scope.names,y.2=.free->∃c,env.cells.lookup y.1=some c):closureFor scope env=pure (dS scope.names env):=by
 have key:∀(names:List (Str×GG)) (acc:List (Str×Addr)),(∀y∈names,y.2=.free->∃c,env.cells.lookup y.1=some c)->
  (forIn names acc (fun(x:Str×GG) (r:List (Str×Addr))=>if(x.2==GU)=true then do let a <-cellOf env x.1;pure (GN ((x.1,a)::r))else pure (GN r)):Sem (List (Str×Addr)))=pure (dS names env++acc):=by
  intro names
  induction names with
  |nil=>intro acc _;rfl
  |cons y ys ih=>
   intro acc hy
   obtain⟨n,k⟩:=y
   rw[FW]
   by_cases hk:(k==GU)=true
   ·obtain⟨c,hc⟩:=hy (n,k) (Fb ..) (by simpa using hk)
    have e1:cellOf env n=pure c:=by unfold cellOf;rw[hc]
    dsimp only
    rw[if_pos hk,e1]
    simp only[FT]
    rw[ih _ fun y hm=>hy y (EU _ hm)]
    unfold dS
    rw[List.filter_cons_of_pos (by simpa using hk),List.reverse_cons,Fg,List.append_assoc]
    simp[hc]
   ·dsimp only
    rw[if_neg hk]
    simp only[FT]
    rw[ih _ fun y hm=>hy y (EU _ hm)]
    unfold dS
    rw[List.filter_cons_of_neg (by simpa using hk)]
 have:=key scope.names [] h;rw[GL]at this;unfold closureFor;exact Eq.trans (congrArg (fun t:Sem (List (Str×Addr))=>t >>= fun cs=>pure cs) this) rfl
theorem oO{env:Env}{y:Str}{c:Addr}:∀{names:List (Str×GG)},(∀z∈names,z.2=.free->∃c,env.cells.lookup z.1=some c)->(dS names env).lookup y=some c->env.cells.lookup y=some c:=by intro names h e;have hm:=F2 e;unfold dS at hm;obtain⟨z,hz,e2⟩:=FH.mp hm;rw[List.mem_reverse,List.mem_filter]at hz;obtain⟨c',hc⟩:=h z hz.1 (by simpa using hz.2);rw[hc]at e2;cases e2;exact hc
theorem n8{env:Env}{y:Str}{names:List (Str×GG)}(hm:(y,GU)∈names):∃c,(dS names env).lookup y=some c:=by
 cases e:(dS names env).lookup y with
 |some c=>exact⟨c,rfl⟩
 |none=>
  have:=List.lookup_eq_none_iff.mp e (y,(env.cells.lookup y).getD 0) (FH.mpr ⟨(y,.free),List.mem_reverse.mpr (List.mem_filter.mpr ⟨hm,rfl⟩),rfl⟩)
  simp at this
theorem fc{env:Env}(hk:env.scope.kind=.function):∀{names:List (Str×GG)} {y:Str} {k:GG},
 (names.map fun(n,k)=>if(k==GU&&env.scope.kind==.function&&env.kindOf n==some .cell)then(n,NameKind.cell)else(n,k)).lookup y=some k->
  names.lookup y=some k\/(k=.cell/\names.lookup y=some .free)
 |[],_,_,h=>by simp at h
 |(n,q)::r,y,k,h=>by
  have ih:=@fc env hk r y k
  rw[EJ]at h
  dsimp only at h
  by_cases hy:(y==n)=true
  ·by_cases hc:(q==GU&&env.scope.kind==.function&&env.kindOf n==some .cell)=true
   ·rw[if_pos hc,FX,hy]at h
    have hf:q=.free:=by
     rw[FF,FF]at hc
     simpa using hc.1.1
    cases h
    right
    exact⟨rfl,by rw[FX,hy,hf]⟩
   ·rw[if_neg hc,FX,hy]at h
    left
    rw[FX,hy];exact h
  ·have hy':(y==n)=false:=by simpa using hy
   have h':(r.map fun(n,k)=>if(k==GU&&env.scope.kind==.function&&env.kindOf n==some .cell)then(n,NameKind.cell)else(n,k)).lookup y=some k:=by
    split at h
    ·rw[FX,hy']at h;exact h
    ·rw[FX,hy']at h;exact h
   rw[FX,hy']
   exact ih h'
theorem jN{X:Cx}{tg iter:Expr}{wi wi':TI}(h:PI X tg iter wi)(k:∀σ H R,wi' σ H R->wi σ H R):PI X tg iter wi':=fun pins s σ H R I q=>h pins s σ H R I (k _ _ _ q)
def Ej(K:E1)(tl:TE):TI:=fun σ H R=>tl σ H fun x H1=>∃a,x=.ref a/\(((∃xs,SqL K H1 a xs)/\R (Itl K a) H1)\/((∃xs,SqT K H1 a xs)/\R (Itt K a) H1))
theorem Bu{X:Cx}{tg l:Expr}{tl:TE}(hl:PE X l tl):PI X tg l (Ej X.K tl):=by
 intro pins s σ H R I h;refine thn (hl pins s σ H _ I h) fun v s1 zz1_0=>?_;obtain⟨x,H1,I1,r1,q1⟩:=zz1_0;obtain⟨a,e,z⟩:=q1;subst e;cases r1
 have fp:∀b∈[s1.heap.objs.size],cI X pins H1 b:=fun b hb=>by
  obtain rfl:b=s1.heap.objs.size:=by simpa using hb
  exact I1.p5 (E9 _) (I1.hok.fresh (E9 _))
 rcases z with⟨⟨xs,hq⟩,q⟩|⟨⟨xs,hq⟩,q⟩
 ·obtain⟨its,rv,p,hz⟩:=I1.list hq;exact wpAny_pyIter_list p.isList ⟨_,[s1.heap.objs.size],_,_,H1,rfl,I1.kept (t':=s1.toks) fun b o e=>E4 _ e,tW a _,⟨_,EC _ rfl,rfl,rfl⟩,fp,q⟩
 ·obtain⟨its,rv,p,hz⟩:=I1.tuple hq;exact wpAny_pyIter_tuple (show s1.heap.IsTuple a its.toArray from p) ⟨_,[s1.heap.objs.size],_,_,H1,rfl,I1.kept (t':=s1.toks) fun b o e=>E4 _ e,qv a _,⟨_,EC _ rfl,rfl,rfl⟩,fp,q⟩
structure ItD where
 n:Nat
 item:Nat->Option D
 C:MH->Prop
abbrev TID:=DS->MH->(ItD->MH->Prop)->Prop
structure ItOk(K:E1)(H1:Hp)(I:ItD)(J:It):Prop where
 stop:∀H2 M2,Grow K H1 H2->Abs K H2 M2->I.C M2->J.stop I.n H2
 go:∀i H2 M2,i<I.n->Grow K H1 H2->Abs K H2 M2->I.C M2->J.go i H2
 yld:∀i H2 M2 v H3,i<I.n->Grow K H1 H2->Abs K H2 M2->I.C M2->J.yld i H2 v H3->Grow K H2 H3/\Abs K H3 M2/\∃d,I.item i=some d/\Rep K H3 d v
def qD(K:E1)(t:TID):TI:=fun σ H R=>∃δ M RD,Slots K H δ σ/\Abs K H M/\t δ M RD/\∀I M' H' J,Grow K H H'->Abs K H' M'->RD I M'->ItOk K H' I J->R J H'
def DI(X:Cx)(tg iter:Expr)(t:TID):Prop:=PI X tg iter (qD X.K t)
def Dg(M:MH):D->List D->Prop
 |.tup ds,es=>es=ds
 |.rol ds,es=>es=ds
 |.ref a,es=>M a=some (.lst es)
 |_,_=>False
inductive Rn1(ds:List D)(M:MH)(R:ItD->MH->Prop):Prop
 |mk (n:Nat) (h:ds=[.int (n:Int)]) (q:n<2^60/\R ⟨n,fun i=>some (.int (i:Int)),fun _=>True⟩ M):Rn1 ds M R
inductive Sq1(d:D)(M:MH)(R:ItD->MH->Prop):Prop
 |mk (ds:List D) (h:Dg M d ds) (q:R ⟨ds.length,fun i=>ds[i]?,fun M=>Dg M d ds⟩ M):Sq1 d M R
def CH(ta:TAD):TID:=fun δ M R=>ta δ M fun ds M1=>Rn1 ds M1 R
def Cs(tl:TD):TID:=fun δ M R=>tl δ M fun d M1=>Sq1 d M1 R
section
variable{X:Cx}{tg:Expr}
theorem tw{a:Expr}{ta:TAD}{p pos:Pos}(hg:Gl X "range")(hm:X.mg "range"=none)(ha:DA X [a] ta)(hs:EH [a] X.env=[(false,eval a X.env)]:=by rfl):DI X tg (.Call (.Name "range" p) [a] [] pos) (CH ta):=
 jN (lB hg hm ha hs) fun σ H R ⟨δ,M,RD,hs,hM,q,fin⟩=>⟨δ,M,_,hs,hM,q,fun ds M1 vs H1 g1 r1 a1 z9=>by
  obtain⟨n,e,hn,q1⟩:=z9
  subst e
  obtain⟨v,rfl,r⟩:=bF r1
  rw[Rep]at r;subst r
  refine⟨(n:Int),rfl,by omega,by omega,fin _ M1 H1 _ g1 a1 q1 ⟨fun _ _ _ _ _=>by show((n:Int)).toNat<=n;simp,fun i _ _ hi _ _ _=>by show i<((n:Int)).toNat;simpa using hi,?_⟩⟩
  rintro i H2 M2 v H3 hi g2 a2 _ ⟨rfl,rfl⟩
  exact⟨.refl,a2,_,rfl,by rw[Rep];simp⟩⟩
theorem bQ{l:Expr}{tl:TD}(hl:DE X l tl):DI X tg l (Cs tl):=
 jN (Bu hl) fun σ H R ⟨δ,M,RD,hs,hM,q,fin⟩=>⟨δ,M,_,hs,hM,q,fun d M1 v H1 g1 r1 a1 z9=>by
  obtain⟨ds,sq,q1⟩:=z9
  cases d with
  |tup es=>
   obtain rfl:ds=es:=sq
   rw[Rep]at r1
   obtain⟨a,xs,rfl,hq,rs⟩:=r1
   refine⟨a,rfl,.inr ⟨⟨xs,hq⟩,fin _ M1 H1 _ g1 a1 q1 ⟨fun H2 _ g2 _ _=>⟨xs,g2.t _ _ hq,by rw[rs.length];exact E9 _⟩,fun i H2 _ hi g2 _ _=>?_,?_⟩⟩⟩
   ·have hi':i<xs.length:=by rw[<-rs.length];exact hi
    exact⟨xs,xs[i],g2.t _ _ hq,by simp[hi']⟩
   ·rintro i H2 M2 v H3 hi g2 a2 _ ⟨rfl,hy⟩
    have hi:i<ds.length:=hi
    obtain⟨x,e1,e2⟩:=(rs.mono g2).get (show ds[i]?=some ds[i] by simp[hi])
    have:=hy xs (g2.t _ _ hq)
    rw[e1]at this;cases this
    exact⟨.refl,a2,_,by simp[hi],e2⟩
  |rol es=>
   obtain rfl:ds=es:=sq
   rw[Rep]at r1
   obtain⟨a,xs,rfl,hq,rs⟩:=r1
   refine⟨a,rfl,.inl ⟨⟨xs,hq.sql⟩,fin _ M1 H1 _ g1 a1 q1 ⟨fun H2 _ g2 _ _=>⟨xs,(g2.f _ _ hq).sql,by rw[rs.length];exact E9 _⟩,fun i H2 _ hi g2 _ _=>?_,?_⟩⟩⟩
   ·have hi':i<xs.length:=by rw[<-rs.length];exact hi
    exact⟨xs,xs[i],(g2.f _ _ hq).sql,by simp[hi']⟩
   ·rintro i H2 M2 v H3 hi g2 a2 _ ⟨rfl,hy⟩
    have hi:i<ds.length:=hi
    obtain⟨x,e1,e2⟩:=(rs.mono g2).get (show ds[i]?=some ds[i] by simp[hi])
    have:=hy xs (g2.f _ _ hq).sql
    rw[e1]at this;cases this
    exact⟨.refl,a2,_,by simp[hi],e2⟩
  |ref a=>
   rw[Rep]at r1;subst r1
   obtain⟨xs,hx,rs⟩:=a1 _ _ (show M1 a=some (.lst ds)from sq)
   refine⟨a,rfl,.inl ⟨⟨xs,SqL.of hx⟩,fin _ M1 H1 _ g1 a1 q1 ⟨fun H2 M2 g2 a2 c2=>?_,fun i H2 M2 hi g2 a2 c2=>?_,?_⟩⟩⟩
   ·obtain⟨ys,hy,ry⟩:=a2 _ _ (show M2 a=some (.lst ds)from c2)
    exact⟨ys,SqL.of hy,by rw[ry.length];exact E9 _⟩
   ·obtain⟨ys,hy,ry⟩:=a2 _ _ (show M2 a=some (.lst ds)from c2)
    have hi':i<ys.length:=by rw[<-ry.length];exact hi
    exact⟨ys,ys[i],SqL.of hy,by simp[hi']⟩
   ·rintro i H2 M2 v H3 hi g2 a2 c2 ⟨rfl,hy⟩
    have hi:i<ds.length:=hi
    obtain⟨ys,hys,ry⟩:=a2 _ _ (show M2 a=some (.lst ds)from c2)
    obtain⟨x,e1,e2⟩:=ry.get (show ds[i]?=some ds[i] by simp[hi])
    have:=hy ys (SqL.of hys)
    rw[e1]at this;cases this
    exact⟨.refl,a2,_,by simp[hi],e2⟩
  |_=>exact sq.elim⟩
inductive ForD(g:TGD)(tb:TSD)(B:EndsD)(I:ItD)(δ0:DS)(M0:MH):Prop
 |mk (W:Nat->DS->MH->Prop) (w0:W 0 δ0 M0) (hC:∀i δ M,i<=I.n->W i δ M->I.C M) (turn:∀i d δ M,i<I.n->I.item i=some d->W i δ M->g d δ M fun δ2 M2=>tb { B with nx:=W (i+1),ct:=W (i+1),bk:=B.nx } δ2 M2) (done:∀δ M,W I.n δ M->B.nx δ M):ForD g tb B I δ0 M0
def uP(wd:TID)(g:TGD)(tb:TSD):TSD:=fun B δ M=>wd δ M fun I M1=>ForD g tb B I δ M1
theorem cE{iter:Expr}{body:List Stmt}{wd:TID}{g:TGD}{tb:TSD}{pos:Pos}(hp:PassesOwn (ED X.prog X.w) X.A X.env X.xe)(hc:X.calm=true)(hi:DI X tg iter wd)(hG:DG X tg g)(hb:DSs X body tb)
 (hf:∀x,FG iter X.env x=pure x:=by intro _;rfl):DSt X (.For tg iter body [] pos) (uP wd g tb):=
 cm (wU hp hc hi hG hb hf) fun E σ H ⟨δ,M,hs,a,B,ok,q⟩=>⟨δ,M,_,hs,a,q,fun I M1 H1 J g1 a1 z9 io=>by
  obtain⟨W,w0,hC,turn,done⟩:=z9
  refine⟨fun i m σ H2=>m=I.n-i/\i<=I.n/\Grow X.K H1 H2/\∃δ M,Slots X.K H2 δ σ/\Abs X.K H2 M/\W i δ M,⟨I.n,by simp,Fz _,.refl,δ,M1,hs.mono g1,a1,w0⟩,?_⟩
  rintro i m σ H2 ⟨rfl,hi,g2,δ2,M2,s2,a2,w2⟩
  by_cases hlt:i<I.n
  ·refine .inr ⟨io.go i H2 M2 hlt g2 a2 (hC _ _ _ hi w2),fun σ' H3=>Grow X.K H1 H3/\∃δ M,Slots X.K H3 δ σ'/\Abs X.K H3 M/\W (i+1) δ M,fun σ' H3 z=>⟨I.n-(i+1),by omega,rfl,hlt,z⟩,fun x H3 y=>?_⟩
   obtain⟨g3,a3,d,ed,rd⟩:=io.yld i H2 M2 x H3 hlt g2 a2 (hC _ _ _ hi w2) y
   refine⟨d,δ2,M2,_,rd,s2.mono g3,a3,turn i d δ2 M2 hlt ed w2,fun δ4 M4 σ4 H4 g4 s4 a4 q4=>⟨δ4,M4,s4,a4,_,?_,q4⟩⟩
   have G:Grow X.K H1 H4:=(g2.trans g3).trans g4
   exact⟨fun δ' M' σ' H' g' s' a' w'=>⟨G.trans g',δ',M',s',a',w'⟩,fun d M v H' g'=>ok.rt d M v H' ((g1.trans G).trans g'),fun δ' M' σ' H' g' s' a' q'=>ok.nx _ _ _ _ ((g1.trans G).trans g') s' a' q',fun δ' M' σ' H' g' s' a' w'=>⟨G.trans g',δ',M',s',a',w'⟩⟩
  ·obtain rfl:i=I.n:=by omega
   exact .inl ⟨io.stop H2 M2 g2 a2 (hC _ _ _ hi w2),ok.nx _ _ _ _ (g1.trans g2) s2 a2 (done δ2 M2 w2)⟩⟩
end
end SD
namespace Ma
open SD
theorem iW{a b:Int}(h:0<b):0<Rat.divInt a b↔0<a:=by
 have h1:=Rat.divInt_nonneg_iff_of_pos_right (a:=-a) h;rw[<-Rat.neg_divInt]at h1;have:¬(0<=-Rat.divInt a b)↔0<Rat.divInt a b:=by constructor<;>intro z<;>grind
 rw[<-this,h1];omega
theorem qc{a b:Int}(h:0<b):Rat.divInt a b<0↔a<0:=by
 have h1:=Rat.divInt_nonneg_iff_of_pos_right (a:=a) h;have:¬(0<=Rat.divInt a b)↔Rat.divInt a b<0:=by constructor<;>intro z<;>grind
 rw[<-this,h1];omega
theorem zf{t b:Int}(h:0<b):sgn (Rat.divInt t b)=if 0<t then 1 else if t<0 then -1 else 0:=by unfold sgn;simp only[iW h,qc h]
theorem xm(a b c d x y:Rat) :
 Rat.divInt ((c.num*(a.den:Int)-a.num*(c.den:Int))*(y.num*(b.den:Int)-b.num*(y.den:Int))*((d.den:Int)*(b.den:Int)*((x.den:Int)*(a.den:Int))) -
  (d.num*(b.den:Int)-b.num*(d.den:Int))*(x.num*(a.den:Int)-a.num*(x.den:Int))*((c.den:Int)*(a.den:Int)*((y.den:Int)*(b.den:Int))))
  ((c.den:Int)*(a.den:Int)*((y.den:Int)*(b.den:Int))*((d.den:Int)*(b.den:Int)*((x.den:Int)*(a.den:Int))))=cr a b c d x y:=by
 rw[<-Rat.divInt_sub_divInt _ _ (Int.mul_ne_zero (gq c a) (gq y b)) (Int.mul_ne_zero (gq d b) (gq x a)),<-Rat.divInt_mul_divInt,<-Rat.divInt_mul_divInt,sub_eq,sub_eq,sub_eq,sub_eq]
 rfl
end Ma
namespace SD
open PySem PySem.Spec PyProof.Rows L2
abbrev NoE:E2->E3->Prop:=fun _ _=>False
def cN(X:Cx)(xs:List Str)(js:List Nat):List Str:=xs++js.map fun j=>(X.N[j]?).getD ("":Str)
def cσ(os:L2.St)(js:List Nat)(σ:L2.St):L2.St:=os++js.map fun j=>(σ[j]?).join
theorem b7:∀(names:List (Str×GG)) (n:Nat) (acc:List (Str×Addr)),Gj n names acc=Gj n names []++acc
 |[],_,_=>rfl
 |(x,k)::r,n,acc=>by
  unfold Gj
  split
  ·rw[b7 r (n+1) ((x,n)::acc),b7 r (n+1) [(x,n)],List.append_assoc];rfl
  ·exact b7 r n acc
theorem gT:∀(names:List (Str×GG)) (n:Nat) {y:Str} {c:Addr},(y,c)∈Gj n names []->(y,NameKind.cell)∈names
 |[],_,_,_,h=>by cases h
 |(x,k)::r,n,y,c,h=>by
  unfold Gj at h
  split at h
  ·rename_i hk
   rw[b7]at h
   rcases EM.mp h with h|h
   ·exact EU _ (gT r _ h)
   ·have e:(y,c)=(x,n):=by simpa using h
    cases e
    obtain rfl:k=.cell:=by simpa using hk
    exact Fb
  ·exact EU _ (gT r _ h)
theorem oi{l r:List (Str×Addr)}{y:Str}{c:Addr}(h:(l++r).lookup y=some c):l.lookup y=some c\/(l.lookup y=none/\r.lookup y=some c):=by
 rw[List.lookup_append]at h;cases e:l.lookup y with
 |some c'=>rw[e]at h;exact .inl h
 |none=>rw[e]at h;exact .inr ⟨rfl,h⟩
theorem uZ{env:Env}{y:Str}{c:Addr}{names:List (Str×GG)}(h:(dS names env).lookup y=some c):(y,GU)∈names:=by
 have hm:=F2 h;unfold dS at hm;obtain⟨z,hz,e⟩:=FH.mp hm;rw[List.mem_reverse,List.mem_filter]at hz;obtain⟨n,k⟩:=z;obtain rfl:k=.free:=by simpa using hz.2
 cases e;exact hz.1
theorem ee{env:Env}{k:GG}(hk:k≠.free):∀{names:List (Str×GG)} {x:Str},names.lookup x=some k->
 (names.map fun(n,k)=>if(k==GU&&env.scope.kind==.function&&env.kindOf n==some .cell)then(n,NameKind.cell)else(n,k)).lookup x=some k
 |[],_,h=>by simp at h
 |(n,q)::r,x,h=>by
  have ih:=@ee env k hk r x
  rw[EJ]
  dsimp only
  by_cases hx:(x==n)=true
  ·rw[FX,hx]at h
   cases h
   rw[if_neg (by intro z;rw[FF,FF]at z;exact hk (by simpa using z.1.1)),FX,hx]
  ·have hx':(x==n)=false:=by simpa using hx
   rw[FX,hx']at h
   split<;>(rw[FX,hx'];exact ih h)
theorem sf{M:Model}{A:EX}{E:E2->E3->Prop}{s:E3}{scope:Gz}{globals:Addr}{cl:List (Str×Addr)}{qual:Str}{env:Env}{Q:Env->E3->Prop} (h:Q { scope:=scope,locals:=s.heap.objs.size,globals:=globals,cells:=Gj (s.heap.objs.size+1) scope.names cl,qual:=qual,func:=none,code:=env.code,frame:=env.frame,builtins:=env.builtins } { s with heap:=pushCells (s.heap.push { cls:=.type "dict",data:=.dict #[] }) scope.names }) : E8 M A (newFunctionEnv scope globals cl [] qual none .none (some env)) Q E s:=by simp only[newFunctionEnv,Option.isSome_some,if_true];refine cc (wpAny_alloc ?_);refine cc (wpAny_layCells _ (fun name kind cells=>by cases hkc:kind==NameKind.cell<;>simp[hkc]) _ _ _ _ ?_);rw[show({ s with heap:=s.heap.push { cls:=.type "dict",data:=.dict #[] } }:E3).heap.objs.size=s.heap.objs.size+1 from G8 ..];refine cc ?_;rw[FZ];exact E5 (E5 h)
def ku(scope:Gz)(C:Addr)(env:Env):Env:=
 { scope:=relabel scope env,locals:=C,globals:=env.globals,cells:=Gj (C+1) scope.names (dS scope.names env),qual:=env.qual,func:=none,code:=env.code,frame:=env.frame,builtins:=env.builtins }
def cxC(X:Cx)(xs:List Str)(js:List Nat)(scope:Gz)(C:Addr)(s:E3)(H:Hp)(fp:List Addr):Cx where
 prog:=X.prog
 w:=X.w
 K:=X.K
 mg:=X.mg
 base:=X.base
 A:=X.A
 N:=cN X xs js
 s₀:=s
 H₀:=H
 env:=ku scope C X.env
 outer:=X.stack
 stack:=X.stack
 ex:=fp
 fn:=fun y=>xs.contains y
 calm:=X.calm
 pn:=[]
 xe:=fun _ _=>False
structure CScope(X:Cx)(xs:List Str)(js:List Nat)(scope:Gz):Prop where
 kind:scope.kind=.function
 cell:∀y∈scope.names,y.2=.cell->y.1∈xs
 free':∀y∈scope.names,y.2=.free->y.1∉xs
 names:∀y∈scope.names,y.2=.local->scope.names.lookup y.1=some .local
 own:∀x∈xs,scope.names.lookup x=some .local\/scope.names.lookup x=some .cell
 out:∀y∈scope.names,y.2=.free->X.env.kindOf y.1=some .cell\/X.env.kindOf y.1=some .free
 nd:(cN X xs js).Nodup
 js:∀j∈js,scope.names.lookup ((X.N[j]?).getD ("":Str))≠some .local
section
variable{X:Cx}{xs:List Str}{js:List Nat}{scope:Gz}{pins:List (Addr×Obj)}{σ:L2.St}{H:Hp}{s:E3}{fp:List Addr}
theorem CScope.cells(c:CScope X xs js scope)(ok:X.Ok):∀y∈scope.names,y.2=.free->∃a,X.env.cells.lookup y.1=some a:=fun y hy hf=>ok.has _ (c.out y hy hf)
theorem CScope.Aw(c:CScope X xs js scope)(ok:X.Ok):closureFor scope X.env=pure (dS scope.names X.env):=jC (c.cells ok)
theorem CScope.kindOf(c:CScope X xs js scope)(ok:X.Ok){C:Addr}{y:Str}{k:GG}(e:(ku scope C X.env).kindOf y=some k):scope.names.lookup y=some k\/(k=.cell/\scope.names.lookup y=some .free):=fc ok.kind e
theorem nr(c:CScope X xs js scope)(I:Inv X pins σ H s)(hf:∀b∈fp,cI X pins H b)(hfp:∀b∈fp,b<s.heap.objs.size){h':Heap}(eh:h'=pushCells (s.heap.push { cls:=.type "dict",data:=.dict #[] }) scope.names)(k:∀b o,s.heap.get? b=some o->h'.get? b=some o) :
 Inv (cxC X xs js scope s.heap.objs.size s H fp) [] (cσ (Hu xs.length none) js σ) H { s with heap:=h' }:=by
 have ok:=I.ok
 have hn:h'.Ns s.heap.objs.size fun _=>none:=by rw[eh];exact(Heap.Ns.new s.heap (.type "dict")).keeps (pushCells_keeps _ _)
 have cok:CellsOk h' (s.heap.objs.size+1) (Gj (s.heap.objs.size+1) scope.names []):=by
  have:=cellsFrom_ok scope.names (s.heap.push { cls:=.type "dict",data:=.dict #[] }) (s.heap.objs.size+1) [] ⟨fun _ _ hm=>(nomatch hm),List.Pairwise.nil⟩ (by rw[G8];exact E9 _)
  rw[G8]at this
  rw[eh];exact this
 have cl:∀{y:Str} {a:Addr},(dS scope.names X.env).lookup y=some a->X.env.cells.lookup y=some a:=fun e=>oO (c.cells ok) e
 have olt:∀{y:Str} {a:Addr},X.env.cells.lookup y=some a->a<s.heap.objs.size:=fun e=>by obtain⟨v,z⟩:=I.cell _ _ e;exact z.lt
 have both:∀{y:Str} {a:Addr},(ku scope s.heap.objs.size X.env).cells.lookup y=some a->((y,a)∈Gj (s.heap.objs.size+1) scope.names []/\s.heap.objs.size<a)\/X.env.cells.lookup y=some a:=fun{y a} e=>by
  have e:(Gj (s.heap.objs.size+1) scope.names (dS scope.names X.env)).lookup y=some a:=e
  rw[b7]at e
  rcases oi e with z|⟨_,z⟩
  ·exact .inl ⟨F2 z,(cok.empty _ _ (F2 z)).2⟩
  ·exact .inr (cl z)
 have free:∀{y:Str},(ku scope s.heap.objs.size X.env).kindOf y=some .cell\/(ku scope s.heap.objs.size X.env).kindOf y=some .free->scope.names.lookup y=some .cell\/scope.names.lookup y=some .free:=fun{y} e=>by
  rcases e with e|e
  ·rcases c.kindOf ok e with z|⟨_,z⟩
   ·exact .inl z
   ·exact .inr z
  ·rcases c.kindOf ok e with z|⟨z,_⟩
   ·exact .inr z
   ·cases z
 refine⟨⟨ok.mod,c.kind,ok.glob,ok.blt,E9 _,fun y z a h1 h2=>?_,fun y hy=>?_,fun y a h e=>?_,ok.hd,ok.frames,.inl rfl,fun b hb=>⟨EV (hfp b hb),fun y a e=>?_⟩,
  I.bs,Fh ok.bsz I.sz,fun b o e hb=>?_,fun b hb=>?_,I.stack,I.fH⟩,rfl,I.bare,Un.kept k,?_,fun y a e=>?_,I.hok.fresh (E9 _),fun y a e=>?_,fun p hp=>absurd (show p∈([]:List (Addr×Obj))from hp) (by simp),I.hok.kept k,?_⟩
 ·rcases both h1 with⟨m1,l1⟩|o1<;>rcases both h2 with⟨m2,l2⟩|o2
  ·exact name_of_addr cok.apart m1 m2
  ·exact absurd (olt o2) (Nat.not_lt.mpr (Hh l1))
  ·exact absurd (olt o1) (Nat.not_lt.mpr (Hh l2))
  ·exact ok.inj y z a o1 o2
 ·show ∃c,(Gj (s.heap.objs.size+1) scope.names (dS scope.names X.env)).lookup y=some c
  rw[b7,List.lookup_append]
  rcases free hy with z|z
  ·obtain⟨a,e⟩:=jM (n:=s.heap.objs.size+1) z
   exact⟨a,by rw[e];rfl⟩
  ·obtain⟨a,e⟩:=n8 (env:=X.env) (F2 z)
   cases q:(Gj (s.heap.objs.size+1) scope.names []).lookup y with
   |none=>exact⟨a,by rw[e];rfl⟩
   |some a'=>exact⟨a',rfl⟩
 ·have hx:y∈xs:=by simpa[cxC]using h
  have e:(Gj (s.heap.objs.size+1) scope.names (dS scope.names X.env)).lookup y=some a:=e
  rw[b7]at e
  rcases oi e with z|⟨_,z⟩
  ·exact Hh (cok.empty _ _ (F2 z)).2
  ·exact absurd hx (c.free' _ (uZ z) rfl)
 ·rcases both e with⟨_,l⟩|o
  ·exact Nat.ne_of_gt (Nat.lt_trans (hfp b hb) l)
  ·exact(hf b hb).2.2.2.2.1 y a o
 ·rcases(hf b hb).2.2.2.1 with z|z
  ·exact ok.noex b o e z
  ·exact absurd (EK (EK (E7 e) ok.bsz) z) (G0 _)
 ·intro z
  rcases Fc.mp (I.lM b z)with y|y
  ·exact(hf b hb).2.1 y
  ·exact(hf b hb).2.2.1 y
 ·refine⟨_,hn,fun i y v h1 h2 h3=>?_⟩
  have h1:(xs++js.map fun j=>(X.N[j]?).getD ("":Str))[i]?=some y:=h1
  have h2:(Hu xs.length (none:Option V)++js.map fun j=>(σ[j]?).join)[i]?=some (some v):=h2
  by_cases hi:i<xs.length
  ·rw[FR (by simpa using hi),List.getElem?_replicate,if_pos hi]at h2
   cases h2
  ·have hout:y∉xs:=fun hy=>by
    rw[FK (by omega)]at h1
    have nd:=c.nd
    unfold cN at nd
    exact(List.nodup_append.mp nd).2.2 y hy y (F0 h1) rfl
   rw[FK (by omega)]at h1
   rw[FK (by simp;omega)]at h2
   rw[List.length_replicate]at h2
   rw[EN]at h1 h2
   cases ej:js[i-xs.length]? with
   |none=>rw[ej]at h1;cases h1
   |some j=>
    rw[ej]at h1 h2
    have e1:(X.N[j]?).getD ("":Str)=y:=Option.some.inj h1
    have e2:(σ[j]?).join=some v:=Option.some.inj h2
    have e3:σ[j]?=some (some v):=by
     cases q:σ[j]? with
     |none=>rw[q]at e2;cases e2
     |some o=>rw[q]at e2;exact congrArg some e2
    have hj:j<X.N.length:=by rw[<-I.len];exact(EB.mp e3).1
    have e4:X.N[j]?=some y:=by
     rw[EL hj]at e1 ⊢
     exact congrArg some e1
    have nl:scope.names.lookup y≠some .local:=by
     have:=c.js j (F0 ej)
     rw[e1]at this
     exact this
    have kc:(ku scope s.heap.objs.size X.env).kindOf y=some .cell\/(ku scope s.heap.objs.size X.env).kindOf y=some .free:=by
     rcases h3 with z|z|z
     ·rcases c.kindOf (C:=s.heap.objs.size) ok z with q|⟨q,_⟩
      ·exact absurd q nl
      ·cases q
     ·exact .inl z
     ·exact .inr z
    have hm:(y,GU)∈scope.names:=by
     rcases free kc with z|z
     ·exact absurd (c.cell _ (F2 z) rfl) hout
     ·exact F2 z
    obtain⟨a,ha⟩:=n8 (env:=X.env) hm
    have ha2:(ku scope s.heap.objs.size X.env).cells.lookup y=some a:=by
     show(Gj (s.heap.objs.size+1) scope.names (dS scope.names X.env)).lookup y=some a
     rw[b7,List.lookup_append]
     cases q:(Gj (s.heap.objs.size+1) scope.names []).lookup y with
     |none=>rw[ha];rfl
     |some a'=>exact absurd (c.cell _ (gT _ _ (F2 q)) rfl) hout
    have hvis:Vis X.env.scope y:=by
     rcases c.out _ hm rfl with z|z
     ·exact .inr (.inl z)
     ·exact .inr (.inr z)
    obtain⟨m,_,hl⟩:=I.loc
    obtain⟨u,r,l⟩:=hl j y v e4 e3 hvis
    refine⟨u,r,?_⟩
    rcases l with⟨z,_⟩|⟨_,a',ha',o,ho,hd⟩
    ·rcases c.out _ hm rfl with q|q
     ·have z':X.env.kindOf y=some .local:=z
      rw[q]at z';cases z'
     ·have z':X.env.kindOf y=some .local:=z
      rw[q]at z';cases z'
    ·refine .inr ⟨kc,a',?_,o,k _ _ ho,hd⟩
     have:=cl ha
     rw[ha']at this
     cases this
     exact ha2
 ·rcases both e with⟨m,_⟩|o
  ·exact⟨_,(cok.empty _ _ m).1⟩
  ·obtain⟨v,o,ho,hd⟩:=I.cell y a o
   exact⟨v,o,k _ _ ho,hd⟩
 ·rcases both e with⟨_,l⟩|o
  ·exact I.hok.fresh (Hh l)
  ·exact I.freeC y a o
 ·show(cσ (Hu xs.length none) js σ).length=(cN X xs js).length
  unfold cσ cN
  simp
end
def PTs(X:Cx)(ifs:List Expr)(t:TT):Prop:=∀(pins:List (Addr×Obj)) (s:E3) (σ:L2.St) (H:Hp) (Q:Bool->Hp->Prop),Inv X pins σ H s->t σ H Q->
 E8 (ED X.prog X.w) X.A (forIn ifs true fun c r=>if r=true then do let ok <-isTrue c X.env (eval c X.env);pure (GN ok)else pure (GN r)) (TP X pins σ Q) X.xe s
theorem yu{X:Cx}:PTs X [] (fun _ H Q=>Q true H):=fun pins s σ H Q I q=>wpAny_tests_nil ⟨H,I,q⟩
theorem zm{X:Cx}{c:Expr}{t:TT}(h:PT X c t):PTs X [c] t:=fun pins s σ H Q I q=>wpAny_tests_one (h pins s σ H Q I q)
theorem t5{prog:EF}{w:EZ}{A:EX}{R:Result->E3->Prop}{s:E3}{elt target iter:Expr}{ifs:List Expr}{scope:Gz}{pos:Pos}{it acc:E2}{env:Env}(J:Nat->E3->Prop)
 (step:∀n s,J n s->E8 (ED prog w) A (pyNext it) (fun r s1=>match r with
  |none=>R (.ok .next) s1
  |some v=>E8 (ED prog w) A (letOwnedTupleGo target it v) (fun _ s2=>E8 (ED prog w) A (assign target env v) (fun _ s3=>
   E8 (ED prog w) A (forIn ifs true fun c r=>if r=true then do let ok <-isTrue c env (eval c env);pure (GN ok)else pure (GN r)) (fun ok s4=>
    if ok=true then E8 (ED prog w) A (eval elt env) (fun x s5=>E8 (ED prog w) A (call (.builtin "list.append") [acc,x]) (fun _ s6=>∃m,m<n/\J m s6) NoE s5) NoE s4
    else ∃m,m<n/\J m s4) NoE s3) NoE s2) NoE s1) NoE s)
 (n:Nat) (h:J n s):Hc (ED prog w) A (.compLoop (.ListComp elt [⟨target,iter,ifs,0⟩] scope pos) 0 it acc env) R s:=by
 have no:∀{E:E2->E3->Prop} e s',NoE e s'->E e s':=fun _ _ z=>z.elim
 refine codeAny_loop rfl J (fun n s hJ=>?_) n h
 show E8 _ _ (Sem.onRaise (compTurn (.ListComp elt [⟨target,iter,ifs,0⟩] scope pos) 0 it acc env) (fun x=>do noteFrame x env;theTreesLotGoes x)) _ _ s
 refine wpAny_noted ?_
 rw[compTurn_list]
 refine cc (Hq (cc (ES (step n s hJ) (fun r s1 h1=>?_) no)))
 cases r with
 |none=>exact E5 h1
 |some v=>
  refine cc (ES h1 (fun _ s2 h2=>cc (ES h2 (fun _ s3 h3=>cc (ES h3 (fun ok s4 h4=>?_) no)) no)) no)
  cases ok with
  |false=>exact E5 ⟨rfl,h4⟩
  |true=>exact cc (cc (ES h4 (fun x s5 h5=>cc (ES h5 (fun _ s6 h6=>E5 (E5 ⟨rfl,h6⟩)) no)) no))
abbrev Own:=V->Hp->L2.St->Prop
structure TgOk(n:Nat)(g:TG)(own:Own):Prop where
 len:∀y H os,own y H os->os.length=n
 run:∀y H os0 tail os (Q:L2.St->Hp->Prop),os0.length=n->own y H os->Q (os++tail) H->g y (os0++tail) H Q
def zV(js:List Nat)(own:Own)(tc:TT)(te:TE)(σ:L2.St)(J:It)(H1:Hp)(Q:VK):Prop:=∀D,H1 D=none->∃W:Nat->Nat->Hp->Prop,(∃m,W 0 m (upd H1 D (.lst [])))/\∀i m H,W i m H->
 (J.stop i H/\Q (.ref D) H)\/(J.go i H/\∀y H',J.yld i H y H'->∃os,own y H' os/\tc (cσ os js σ) H' fun b H2=>if b=true then
  te (cσ os js σ) H2 fun v H3=>∃xs,H3 D=some (.lst xs)/\xs.length<ER/\∃m',m'<m/\W (i+1) m' (upd H3 D (.lst (xs++[v])))else ∃m',m'<m/\W (i+1) m' H2)
def qy(js:List Nat)(own:Own)(wi:TI)(tc:TT)(te:TE):TE:=fun σ H Q=>wi σ H fun J H1=>zV js own tc te σ J H1 Q
section
variable{X:Cx}{xs:List Str}{tg:Expr}{pos:Pos}{js:List Nat}{scope:Gz}{elt iter:Expr}{ifs:List Expr}{te:TE}{tc:TT}{g:TG}{own:Own}{wi:TI}{pins:List (Addr×Obj)}{σ:L2.St}{H:Hp}{s:E3}{fp:List Addr}{it:Addr}{tn:Nat->Heap->Prop}{J:It}
theorem nX(c:CScope X xs js scope)(hc:X.calm=true)(hG:TgOk xs.length g own)(hg:∀C s H fp,PG (cxC X xs js scope C s H fp) tg g)(ht:∀C s H fp,PTs (cxC X xs js scope C s H fp) ifs tc)(he:∀C s H fp,PE (cxC X xs js scope C s H fp) elt te)
 {R:E2->Addr->Result->E3->Prop} {E:E2->E3->Prop} {Q:VK}
 (I:Inv X pins σ H s) (T:Turn X.prog X.w X.K tg J fp it tn) (st:tn 0 s.heap) (hf:∀b∈fp,cI X pins H b) (wc:zV js own tc te σ J H Q)
 (hR:∀D C H' s',Inv X pins σ H' s'->cI X pins H' C->(∃m,s'.heap.Ns C m)->Q (.ref D) H'->R (.ref D) C (.ok .next) s') :
 E8 (ED X.prog X.w) X.A (newList []) (fun acc s₃=>E8 (ED X.prog X.w) X.A (newFunctionEnv scope X.env.globals (dS scope.names X.env) [] X.env.qual none .none (some X.env)) (fun cenv s₄=>
  Hc (ED X.prog X.w) X.A (.compStart (.ListComp elt [⟨tg,iter,ifs,0⟩] scope pos) 0 (.ref it) acc { cenv with scope:=relabel scope X.env }) (R acc cenv.locals) s₄) E s₃) E s:=by
 have hfp:∀b∈fp,b<s.heap.objs.size:=fun b hb=>let⟨o,e,_⟩:=T.obj 0 _ st b hb;E7 e
 have hD:H s.heap.objs.size=none:=I.hok.fresh (E9 _)
 refine Fq (sf ?_)
 generalize hh:s.heap.push { cls:=.type "list",dict:=none,data:=.seq ([]:List E2).toArray }=h3
 generalize hh1:pushCells (({ s with heap:=h3 }:E3).heap.push { cls:=.type "dict",data:=.dict #[] }) scope.names=h₁
 have k3:∀b o,s.heap.get? b=some o->h3.get? b=some o:=fun b o e=>by rw[<-hh];exact E4 _ e
 have I3:Inv X pins σ (upd H s.heap.objs.size (.lst [])) { s with heap:=h3 }:=by
  refine I.laid (t':=s.toks) k3 (E9 _) ?_
  refine⟨Fz _,[],0,.nil,?_⟩
  rw[<-hh]
  exact EC _ rfl
 have hf3:∀b∈fp,cI X pins (upd H s.heap.objs.size (.lst [])) b:=fun b hb=>⟨by rw[az (EV (hfp b hb))];exact(hf b hb).1,(hf b hb).2⟩
 have hsz:h3.objs.size=s.heap.objs.size+1:=by rw[<-hh,G8]
 have hfp3:∀b∈fp,b<h3.objs.size:=fun b hb=>by rw[hsz];exact Nat.lt_succ_of_lt (hfp b hb)
 have k4:∀b o,h3.get? b=some o->h₁.get? b=some o:=fun b o e=>by rw[<-hh1];exact pushCells_keeps _ _ b o (E4 _ e)
 have I4:=nr c I3 hf3 hfp3 (h':=h₁) hh1.symm k4
 obtain⟨W,⟨m0,w0⟩,turn⟩:=wc _ hD
 have st4:tn 0 h₁:=T.keep 0 _ _ st fun b hb o e=>k4 b o (k3 b o e)
 generalize hX:cxC X xs js scope h3.objs.size { s with heap:=h3 } (upd H s.heap.objs.size (.lst [])) fp=X' at I4
 have fok:∀{pins':List (Addr×Obj)} {H':Hp} {σ':L2.St} {s':E3},Inv X' [] σ' H' s'->(∀b∈fp,H' b=none)->∀b∈fp,cI X' [] H' b:=fun{pins' H' σ' s'} J' hn b hb=>by
  subst hX
  obtain⟨a1,a2⟩:=J'.ok.exf b hb
  exact⟨hn b hb,a1,J'.ok.exfs b hb,.inl hb,a2,fun p hp=>absurd (show p∈([]:List (Addr×Obj))from hp) (by simp)⟩
 have loop:Hc (ED X.prog X.w) X.A (.compLoop (.ListComp elt [⟨tg,iter,ifs,0⟩] scope pos) 0 (.ref it) (.ref s.heap.objs.size) (ku scope h3.objs.size X.env)) (R (.ref s.heap.objs.size) h3.objs.size)
  { s with heap:=h₁ }:=by
  refine t5 (fun n s'=>∃i os H',os.length=xs.length/\Inv X' [] (cσ os js σ) H' s'/\tn i s'.heap/\(∀b∈fp,H' b=none)/\W i n H') ?_ m0 ⟨0,_,_,by simp,I4,st4,fun b hb=>(hf3 b hb).1,w0⟩
  rintro n s5 ⟨i,os,H5,hl5,I5,st5,fr5,w5⟩
  rcases turn i n H5 w5 with⟨stop,q⟩|⟨go,step⟩
  ·subst hX
   refine ES (T.done (cxC X xs js scope h3.objs.size { s with heap:=h3 } (upd H s.heap.objs.size (.lst [])) fp) rfl rfl rfl hc i [] s5 _ H5 NoE I5 (fok (pins':=[]) I5 fr5) st5 stop) (fun r s6 zz1_0=>?_) fun _ _ z=>z
   obtain⟨hr,I6⟩:=zz1_0
   subst hr
   refine hR _ _ H5 s6 (I3.qF I6.os I6.base I6.hok I6.bare fun b hb=>⟨(hf3 b hb).2.2.2.1,(hf3 b hb).2.1,(hf3 b hb).2.2.2.2.1,(hf3 b hb).2.2.2.2.2⟩) (I3.p5 (E9 _) I6.free) (let⟨m,hm,_⟩:=I6.loc;⟨m,hm⟩) q
  ·subst hX
   refine ES (T.item (cxC X xs js scope h3.objs.size { s with heap:=h3 } (upd H s.heap.objs.size (.lst [])) fp) rfl rfl rfl hc i [] s5 _ H5 NoE I5 (fok (pins':=[]) I5 fr5) st5 go) (fun r s6 zz2_0=>?_) fun _ _ z=>z
   obtain⟨u,hr,h6⟩:=zz2_0
   subst hr
   refine ES h6 (fun _ s7 zz3_0=>?_) fun _ _ z=>z
   obtain⟨y,H7,I7,r7,y7,st7,fr7⟩:=zz3_0
   have I7':=I7.pinned (fok (pins':=[]) I7 fr7) (T.obj _ _ st7)
   obtain⟨os8,ow8,q8⟩:=step y H7 y7
   have l8:=hG.len _ _ _ ow8
   refine ES (hg _ _ _ _ _ s7 _ H7 y u (fun σ' H'=>σ'=cσ os8 js σ/\H'=H7) I7' r7 (hG.run y H7 os _ os8 _ hl5 ow8 ⟨rfl,rfl⟩)) (fun _ s8 zz4_0=>?_) fun _ _ z=>z
   obtain⟨σ8,H8,I8,e8,e8'⟩:=zz4_0
   subst e8 e8'
   refine ES (ht _ _ _ _ _ s8 _ _ _ I8 q8) (fun ok s9 zz5_0=>?_) fun _ _ z=>z
   obtain⟨H9,I9,q9⟩:=zz5_0
   have back:∀{m':Nat} {H10:Hp} {s10:E3},Inv (cxC X xs js scope h3.objs.size { s with heap:=h3 } (upd H s.heap.objs.size (.lst [])) fp) ([]++ib fp s7.heap) (cσ os8 js σ) H10 s10->m'<n->W (i+1) m' H10->
    ∃m,m<n/\∃i os H',os.length=xs.length/\Inv (cxC X xs js scope h3.objs.size { s with heap:=h3 } (upd H s.heap.objs.size (.lst [])) fp) [] (cσ os js σ) H' s10/\tn i s10.heap/\(∀b∈fp,H' b=none)/\W i m H':=fun{m' H10 s10} I10 hm' w10=>by
    refine⟨m',hm',i+1,os8,H10,l8,I10.fu,T.keep _ _ _ st7 fun b hb o e=>(I10.pin (b,o) (F7 _ (F7 _ (cB hb e)))).1,fun b hb=>?_,w10⟩
    obtain⟨o',e,d⟩:=T.obj _ _ st7 b hb
    exact(I10.pin (b,o') (F7 _ (F7 _ (cB hb e)))).2.1
   cases ok with
   |false=>
    rw[if_neg ET]at q9 ⊢
    obtain⟨m',hm',w9⟩:=q9
    exact back I9 hm' w9
   |true=>
    rw[if_pos rfl]at q9 ⊢
    refine ES (he _ _ _ _ _ s9 _ _ _ I9 q9) (fun v s10 zz6_0=>?_) fun _ _ z=>z
    obtain⟨vv,H10,I10,r10,ys,hd10,hl10,q10⟩:=zz6_0
    refine ES (kL (X:=(cxC X xs js scope h3.objs.size { s with heap:=h3 } (upd H s.heap.objs.size (.lst [])) fp)) _ s10 _ H10 (.ref s.heap.objs.size) [vv] (.ref s.heap.objs.size) [v] (fun _ H'=>∃m',m'<n/\W (i+1) m' H') I10 rfl (.cons r10 .nil) ⟨_,ys,vv,rfl,rfl,hd10,hl10,q10⟩) (fun _ s11 zz7_0=>?_) fun _ _ z=>z
    obtain⟨_,H11,I11,_,m',hm',w11⟩:=zz7_0
    exact back I11 hm' w11
 exact codeAny_compStart_list loop (T.self X.A 0 _ _ _ st4 loop)
theorem xC(c:CScope X xs js scope)(hc:X.calm=true)(hi:PI X tg iter wi)(hG:TgOk xs.length g own)(hg:∀C s H fp,PG (cxC X xs js scope C s H fp) tg g)(ht:∀C s H fp,PTs (cxC X xs js scope C s H fp) ifs tc)(he:∀C s H fp,PE (cxC X xs js scope C s H fp) elt te)(hs:∀x,FG iter X.env x=pure x:=by intro _;rfl) : PE X (.ListComp elt [⟨tg,iter,ifs,0⟩] scope pos) (qy js own wi tc te):=by intro pins s σ H Q I h;rw[eval_ListComp];refine wpAny_comprehension_free (use:=none) rfl hs (c.Aw I.ok) c.kind c.names (thn (hi pins s σ H _ I h) fun v s1 h1=>thn h1 fun itv s2 zz8_0=>?_);obtain⟨it,fp,tn,J,H2,e,I2,T,st,f2,w⟩:=zz8_0;subst e;refine nX (R:=fun acc C=>compPost (ED X.prog X.w) X.A X.xe none (EP X pins σ Q) acc C) c hc hG hg ht he I2 T st f2 w fun D C H' s' I' fC zz9_0 q=>?_;obtain⟨m,hm⟩:=zz9_0;exact⟨m,hm,fun h' hsb=>⟨.ref D,H',I'.turned (t':=s'.toks) (fun b o ne e=>hsb.extBut b o ne e) fC.1 fC.2.1 fC.2.2.2.1 fC.2.2.2.2.1 fC.2.2.2.2.2,rfl,q⟩⟩
theorem yB{i:Nat}{y:Str}{py spos:Pos}(c:CScope X xs js scope)(hc:X.calm=true)(hN:X.N.Nodup)(hi:PI X tg iter wi)(hG:TgOk xs.length g own)(hg:∀C s H fp,PG (cxC X xs js scope C s H fp) tg g)(ht:∀C s H fp,PTs (cxC X xs js scope C s H fp) ifs tc)(he:∀C s H fp,PE (cxC X xs js scope C s H fp) elt te)(hy:X.N[i]?=some y)(hl:X.env.scope.names.lookup y=some .local)
 (hsw:Ht (.ListComp elt [⟨tg,iter,ifs,0⟩] scope pos) (some (.Name y py)) spos.line X.env=pure true) (hs:∀x,FG iter X.env x=pure x:=by intro _;rfl) :
 PS X (.Assign [.Name y py] (.ListComp elt [⟨tg,iter,ifs,0⟩] scope pos) spos) (AV (qy js own wi tc te) (gN i)):=by
 intro pins s σ H B I h
 rw[exec_Assign_Name_used _ _ _ _ hsw]
 refine cc (Hq (cc ?_))
 show E8 _ X.A (do let _ <-comprehension (.ListComp elt [⟨tg,iter,ifs,0⟩] scope pos) scope X.env _ (newList []) false (eval iter X.env) (some (assign (.Name y py) X.env))) _ _ s
 refine cc (ES (wpAny_comprehension_free (use:=some (assign (.Name y py) X.env)) (Q:=fun _ s'=>SP X pins B .next s') rfl hs (c.Aw I.ok) c.kind c.names
  (thn (hi pins s σ H _ I h) fun v s1 h1=>thn h1 fun itv s2 z=>?_)) (fun _ s' hq=>E5 (E5 hq)) fun _ _ e=>e)
 obtain⟨it,fp,tn,J,H2,e,I2,T,st,f2,w⟩:=z
 subst e
 refine nX (R:=fun acc C=>compPost (ED X.prog X.w) X.A X.xe (some (assign (.Name y py) X.env)) (fun _ s'=>SP X pins B .next s') acc C) c hc hG hg ht he I2 T st f2 w fun D C H' s' I' fC zz10_0 q=>?_
 obtain⟨m,hm⟩:=zz10_0
 show E8 _ X.A (assign (.Name y py) X.env (.ref D)) _ _ _
 refine wpAny_assign_Name (lD I' hN hy (.inl hl) (v:=.ref D) rfl (fun s9 I9 zz11_0=>?_) (.inr hl))
 obtain⟨a,sb,ha⟩:=zz11_0
 have hne:C≠a:=by
  rcases ha with z|z
  ·rw[z];exact fC.2.1
  ·exact fun e=>fC.2.2.2.2.1 y a z e.symm
 refine⟨m,hm.sameBut sb hne,fun h' hsb=>?_⟩
 exact⟨_,H',I9.turned (t':=s9.toks) (fun b o ne e=>hsb.extBut b o ne e) fC.1 fC.2.1 fC.2.2.2.1 fC.2.2.2.2.1 fC.2.2.2.2.2,q⟩
end
inductive Tgt where
 |one|many (n:Nat)
def p7(K:E1):Tgt->Own
 |.one=>fun y _ os=>os=[some y]
 |.many n=>fun y H os=>∃a xs,y=.ref a/\SqT K H a xs/\xs.length=n/\os=xs.map some
theorem uf{K:E1}:TgOk 1 (gN 0) (p7 K .one):=⟨fun _ _ os h=>by rw[h];rfl,fun y H os0 tail os Q hl ho q=>by
 obtain⟨o,rfl⟩:=xi hl
 rw[show os=[some y]from ho]at q;exact q⟩
theorem vz{K:E1}:TgOk 2 (BE K 2 (oX (gN 0) (oX (gN 1) Bp))) (p7 K (.many 2)):=⟨fun _ _ os z=>by
 obtain⟨a,xs,_,_,hl,e⟩:=z
 rw[e];simpa using hl,fun y H os0 tail os Q hl z q=>by
 obtain⟨a,xs,e,hq,hx,ho⟩:=z
 obtain⟨o,o',rfl⟩:=AG hl
 obtain⟨u,v,rfl⟩:=AG hx
 rw[ho]at q;exact⟨a,_,e,hq,hx,u,_,rfl,v,_,rfl,rfl,q⟩⟩
def vQ:Tgt->D->DS->Prop
 |.one,d,os=>os=[some d]
 |.many n,d,os=>∃ds,d=.tup ds/\ds.length=n/\os=ds.map some
def cδ(os:DS)(js:List Nat)(δ:DS):DS:=os++js.map fun j=>(δ[j]?).join
theorem rK{K:E1}{H:Hp}{δ os:DS}{σ us:L2.St}{js:List Nat}(hs:Slots K H δ σ)(r:Slots K H os us):Slots K H (cδ os js δ) (cσ us js σ):=by
 refine⟨by simp[cδ,cσ,r.len],fun i e q=>?_⟩;unfold cδ at q;unfold cσ;by_cases hi:i<os.length
 ·rw[FR hi]at q;rw[FR (by rw[<-r.len];exact hi)];exact r.at' i e q
 ·rw[FK (by omega)]at q;rw[FK (by rw[<-r.len];omega),<-r.len];rw[EN]at q ⊢;cases ej:js[i-os.length]? with
  |none=>rw[ej]at q;cases q
  |some j=>
   rw[ej]at q
   have e2:(δ[j]?).join=some e:=Option.some.inj q
   have e3:δ[j]?=some (some e):=by
    cases z:δ[j]? with
    |none=>rw[z]at e2;cases e2
    |some o=>rw[z]at e2;exact congrArg some e2
   obtain⟨v',e4,e5⟩:=hs.at' j e e3
   exact⟨v',by rw[show(some j).map (fun j=>(σ[j]?).join)=some ((σ[j]?).join)from rfl,e4];rfl,e5⟩
theorem kR{K:E1}{H:Hp}{ds:List D}{xs:List V}(r:aB K H ds xs):Slots K H (ds.map some) (xs.map some):=by
 refine⟨by simp[r.length],fun i d e=>?_⟩;rw[EN]at e ⊢;cases q:ds[i]? with
 |none=>rw[q]at e;cases e
 |some d'=>
  rw[q]at e;cases e
  obtain⟨x,e1,e2⟩:=r.get q
  exact⟨x,by rw[e1];rfl,e2⟩
theorem nF{K:E1}{H:Hp}{tk:Tgt}{d:D}{v:V}{os:DS}(r:Rep K H d v)(h:vQ tk d os):∃us,p7 K tk v H us/\Slots K H os us:=by
 cases tk with
 |one=>
  rw[show os=[some d]from h]
  exact⟨[some v],rfl,kR (.cons r .nil)⟩
 |many n=>
  obtain⟨ds,rfl,hl,rfl⟩:=h
  rw[Rep]at r
  obtain⟨a,xs,rfl,hq,rs⟩:=r
  exact⟨_,⟨a,xs,rfl,hq,by rw[<-rs.length];exact hl,rfl⟩,kR rs⟩
def mF:TTD:=fun _ M Q=>Q true M
def vb(I:ItD)(tk:Tgt)(js:List Nat)(tc:TTD)(te:TD)(δ:DS)(M1:MH)(Q:DK):Prop:=I.n<=1000000/\∀p,M1 p=none->∃W:Nat->List D->MH->Prop,W 0 [] (ax M1 p (.lst []))/\(∀i ys M,i<=I.n->W i ys M->I.C M)/\
 (∀i ys d M,i<I.n->I.item i=some d->W i ys M->∃os,vQ tk d os/\tc (cδ os js δ) M fun b M2=>if b=true then te (cδ os js δ) M2 fun e M'=>∃M3,Sub M3 M'/\M3 p=some (.lst ys)/\W (i+1) (ys++[e]) (ax M3 p (.lst (ys++[e])))else ∃M3,Sub M3 M2/\W (i+1) ys M3)/\∀ys M,W I.n ys M->Q (.ref p) M
def gX(wd:TID)(tk:Tgt)(js:List Nat)(tc:TTD)(te:TD):TD:=fun δ M Q=>wd δ M fun I M1=>vb I tk js tc te δ M1 Q
section
variable{X:Cx}{K:E1}
theorem kJ{wd:TID}{tk:Tgt}{js:List Nat}{tc:TTD}{te:TD}{σ:L2.St}{H:Hp}{Q:VK}(h:lift K (gX wd tk js tc te) σ H Q):qy js (p7 K tk) (qD K wd) (liftT K tc) (lift K te) σ H Q:=by
 obtain⟨δ,M,R,hs,hM,q,fin⟩:=h;refine⟨δ,M,_,hs,hM,q,fun I M1 H1 J g1 a1 kc io p hp=>?_⟩;obtain⟨hn,kc⟩:=kc;obtain⟨W,w0,hC,turn,done⟩:=kc p (a1.fresh hp);refine⟨fun i m H2=>m=I.n-i/\i<=I.n/\Grow K H1 H2/\∃ys M,ys.length<=i/\Abs K H2 M/\W i ys M,⟨I.n,by simp,Fz _,.new hp,[],_,E9 _,a1.km hp .nil,w0⟩,?_⟩;rintro i m H2 ⟨rfl,hi,g2,ys,M2,hl,a2,w2⟩;by_cases hin:i<I.n
 ·refine .inr ⟨io.go i H2 M2 hin g2 a2 (hC _ _ _ hi w2),fun v H3 hy=>?_⟩;obtain⟨g3,a3,d,ed,rd⟩:=io.yld i H2 M2 v H3 hin g2 a2 (hC _ _ _ hi w2) hy;obtain⟨os,ow,q3⟩:=turn i ys d M2 hin ed w2;obtain⟨us,uv,su⟩:=nF rd ow;have s3:=rK (js:=js) (hs.mono ((g1.trans g2).trans g3)) su;refine⟨us,uv,cδ os js δ,M2,_,s3,a3,q3,fun b M4 H4 g4 a4 q4=>?_⟩;cases b with
  |false=>
   rw[if_neg ET]at q4 ⊢
   obtain⟨M5,s5,w5⟩:=q4
   exact⟨I.n-(i+1),by omega,rfl,hin,(g2.trans g3).trans g4,ys,M5,by omega,a4.sub s5,w5⟩
  |true=>
   rw[if_pos rfl]at q4 ⊢
   refine⟨cδ os js δ,M4,_,s3.mono g4,a4,q4,fun e M' u H5 g5 r5 a5 zz2_0=>?_⟩
   obtain⟨M6,s6,e6,w6⟩:=zz2_0
   obtain⟨zs,hx,rs⟩:=(a5.sub s6) _ _ e6
   refine⟨zs,hx,?_,I.n-(i+1),by omega,rfl,hin,(((g2.trans g3).trans g4).trans g5).trans (.lst hx),ys++[e],_,by simp;omega,(a5.sub s6).xZ hx (rs.append (.cons r5 .nil)),w6⟩
   rw[<-rs.length]
   exact Nat.lt_of_le_of_lt hl (EK hin (Fh hn (by decide)))
 ·obtain rfl:i=I.n:=by omega
  exact .inl ⟨io.stop H2 M2 g2 a2 (hC _ _ _ hi w2),fin _ _ _ _ (g1.trans g2) (by rw[Rep]) a2 (done ys M2 w2)⟩
variable{xs:List Str}{tg:Expr}{pos:Pos}{js:List Nat}{scope:Gz}{elt iter:Expr}{ifs:List Expr}{te:TD}{tc:TTD}{g:TG}{tk:Tgt}{wd:TID}
def DTs(X:Cx)(ifs:List Expr)(t:TTD):Prop:=PTs X ifs (liftT X.K t)
theorem fK:DTs X [] mF:=fun pins s σ H Q I zz3_0=>by obtain⟨δ,M,R,hs,hM,q,fin⟩:=zz3_0;exact(yu pins s σ H Q I (fin _ _ _ .refl hM q))
theorem qV{c:Expr}{t:TTD}(h:DT X c t):DTs X [c] t:=zm h
theorem qY(c:CScope X xs js scope)(hc:X.calm=true)(hi:DI X tg iter wd)(hG:TgOk xs.length g (p7 X.K tk))(hg:∀C s H fp,PG (cxC X xs js scope C s H fp) tg g)(ht:∀C s H fp,DTs (cxC X xs js scope C s H fp) ifs tc)(he:∀C s H fp,DE (cxC X xs js scope C s H fp) elt te) (hs:∀x,FG iter X.env x=pure x:=by intro _;rfl):DE X (.ListComp elt [⟨tg,iter,ifs,0⟩] scope pos) (gX wd tk js tc te):=aV (xC (te:=lift X.K te) (tc:=liftT X.K tc) c hc hi hG hg ht he hs) fun _ _ _ h=>kJ h
theorem xH(i:Nat){y:Str}{py spos:Pos}(hN:X.N.Nodup)(c:CScope X xs js scope)(hc:X.calm=true)(hi:DI X tg iter wd)(hG:TgOk xs.length g (p7 X.K tk))(hg:∀C s H fp,PG (cxC X xs js scope C s H fp) tg g)(ht:∀C s H fp,DTs (cxC X xs js scope C s H fp) ifs tc)(he:∀C s H fp,DE (cxC X xs js scope C s H fp) elt te) (hy:X.N[i]?=some y:=by rfl) (hl:X.env.scope.names.lookup y=some .local:=by rfl) (hsw:Ht (.ListComp elt [⟨tg,iter,ifs,0⟩] scope pos) (some (.Name y py)) spos.line X.env=pure true:=by rfl) (hs:∀x,FG iter X.env x=pure x:=by intro _;rfl) : DSt X (.Assign [.Name y py] (.ListComp elt [⟨tg,iter,ifs,0⟩] scope pos) spos) (fm (gX wd tk js tc te) (aQ i)):=cm (yB (te:=lift X.K te) (tc:=liftT X.K tc) c hc hN hi hG hg ht he hy hl hsw hs) fun E σ H zz4_0=>by obtain⟨δ,M,hs,a,B,ok,q⟩:=zz4_0;exact(kJ ⟨δ,M,_,hs,a,q,fun d M1 v H1 g1 r1 a1 q1=>ok.nx _ _ _ _ g1 ((hs.mono g1).set r1 i) a1 q1⟩)
theorem comp_map{I:ItD}{tk:Tgt}{js:List Nat}{te:TD}{δ:DS}{M1:MH}{Q:DK}(f:Nat->D)(hn:I.n<=1000000)(hC:∀p ys,M1 p=none->I.C (ax M1 p (.lst ys))) (h:∀i d M,i<I.n->I.item i=some d->Sub M1 M->∃os,vQ tk d os/\∀K:DK,(∀M',Sub M M'->K (f i) M')->te (cδ os js δ) M K) (hq:∀p,M1 p=none->Q (.ref p) (ax M1 p (.lst ((Fl I.n).map f)))):vb I tk js mF te δ M1 Q:=by
 refine⟨hn,fun p hp=>⟨fun i ys M=>ys=(Fl i).map f/\M=ax M1 p (.lst ys),⟨rfl,rfl⟩,?_,?_,?_⟩⟩
 ·rintro i ys M _ ⟨_,rfl⟩;exact hC p ys hp
 ·rintro i ys d M hi hd ⟨rfl,rfl⟩;obtain⟨os,ow,k⟩:=h i d _ hi hd (.new hp .refl);refine⟨os,ow,?_⟩;unfold mF;refine En (k _ ?_);exact fun M' s'=>⟨_,s',ai,by rw[List.range_succ,Fg];rfl,by rw[b5]⟩
 ·rintro ys M ⟨rfl,rfl⟩;exact hq p hp
end
def Dt(X:Cx)(xs:List Str)(js:List Nat)(scope:Gz):Bool:=
 scope.kind==.function&&scope.names.all (fun y=>(y.2 != .cell||xs.contains y.1)&&(y.2 != .free||!xs.contains y.1))&&scope.names.all (fun y=>y.2 != .local||scope.names.lookup y.1==some .local)&&xs.all (fun x=>scope.names.lookup x==some .local||scope.names.lookup x==some .cell) &&
  scope.names.all (fun y=>y.2 != .free||(X.env.kindOf y.1==some .cell||X.env.kindOf y.1==some .free))&&decide (cN X xs js).Nodup&&js.all (fun j=>scope.names.lookup ((X.N[j]?).getD ("":Str)) != some .local)
theorem CScope.of{X:Cx}{xs:List Str}{js:List Nat}{scope:Gz}(h:Dt X xs js scope=true):CScope X xs js scope:=by
 unfold Dt at h;simp only[FF]at h;obtain⟨⟨⟨⟨⟨⟨h1,h2⟩,h3⟩,h4⟩,h5⟩,h6⟩,h7⟩:=h;refine⟨by simpa using h1,fun y hy hc=>?_,fun y hy hf=>?_,fun y hy hl=>?_,fun x hx=>?_,fun y hy hf=>?_,of_decide_eq_true h6,fun j hj=>?_⟩
 ·have:=List.all_eq_true.mp h2 y hy;rw[hc]at this;simpa using this
 ·have:=List.all_eq_true.mp h2 y hy;rw[hf]at this;simpa using this
 ·have:=List.all_eq_true.mp h3 y hy;rw[hl]at this;simpa using this
 ·have:=List.all_eq_true.mp h4 x hx;simpa using this
 ·have:=List.all_eq_true.mp h5 y hy;rw[hf]at this;simpa using this
 ·have:=List.all_eq_true.mp h7 j hj;simpa using this
abbrev TOD:=DS->MH->(Option Int->MH->Prop)->Prop
def rE(K:E1)(t:TOD):TO:=fun σ H Q=>∃δ M R,Slots K H δ σ/\Abs K H M/\t δ M R/\∀o M' H',Grow K H H'->Abs K H' M'->R o M'->Q o H'
def oq:TOD:=fun _ M Q=>Q none M
def qe(t:TD):TOD:=fun δ M Q=>t δ M fun x M1=>∃i,x=.int i/\Q (some i) M1
def cutD(xs:List D)(lo hi:Option Int):List D:=(xs.drop (HT.sIx xs.length 0 lo)).take (HT.sIx xs.length xs.length hi-HT.sIx xs.length 0 lo)
def CT:D->Option Int->Option Int->MH->DK->Prop:=fun x lo hi M Q=>match x with
 |.ref a=>∃ds,M a=some (.lst ds)/\∀p,M p=none->Q (.ref p) (ax M p (.lst (cutD ds lo hi)))
 |.rol ds=>∀p,M p=none->Q (.ref p) (ax M p (.lst (cutD ds lo hi)))
 |.tup ds=>¬(HT.sIx ds.length 0 lo=0/\HT.sIx ds.length ds.length hi=ds.length)/\Q (.tup (cutD ds lo hi)) M
 |_=>False
def Cr(te:TD)(tl th:TOD):TD:=fun δ M Q=>te δ M fun x M1=>tl δ M1 fun l M2=>th δ M2 fun u M3=>CT x l u M3 Q
theorem aB.cut{K:E1}{H:Hp}{ds:List D}{xs:List V}(h:aB K H ds xs)(lo hi:Option Int):aB K H (cutD ds lo hi) (nj xs lo hi):=by unfold cutD nj;rw[h.length];exact(h.drop _).take _
section
variable{X:Cx}{e a:Expr}{te:TD}{tl th:TOD}{lo hi:Option Expr}{pos p2:Pos}
theorem uC{e:Option Expr}{t t':TO}(h:PO X e t)(k:∀σ H Q,t' σ H Q->t σ H Q):PO X e t':=fun pins s σ H Q I q=>h pins s σ H Q I (k _ _ _ q)
theorem iR:PO X none (rE X.K oq):=uC zc fun σ H Q zz5_0=>by obtain⟨δ,M,R,hs,a,q,fin⟩:=zz5_0;exact(fin _ _ _ .refl a q)
theorem eC(h:DE X e te):PO X (some e) (rE X.K (qe te)):=uC (yw h) fun σ H Q zz6_0=>by obtain⟨δ,M,R,hs,a,q,fin⟩:=zz6_0;exact(⟨δ,M,_,hs,a,q,fun d M1 v H1 g1 r1 a1 z9=>by
 obtain⟨i,ei,q1⟩:=z9
 subst ei
 rw[Rep]at r1
 exact⟨i,r1,fin _ _ _ g1 a1 q1⟩⟩)
theorem fy(he:DE X a te)(hl:PO X lo (rE X.K tl))(hu:PO X hi (rE X.K th)):DE X (.Subscript a (.Slice lo hi none p2) pos) (Cr te tl th):=
 aV (wg (yf.or BJ) he hl hu) fun σ H Q zz7_0=>by obtain⟨δ,M,R,hs,a,q,fin⟩:=zz7_0;exact(⟨δ,M,_,hs,a,q,fun x M1 v H1 g1 r1 a1 q1=>⟨δ,M1,_,hs.mono g1,a1,q1,fun l M2 H2 g2 a2 q2=>⟨δ,M2,_,hs.mono (g1.trans g2),a2,q2,fun u M3 H3 g3 a3 q3=>by
  have G:=(g1.trans g2).trans g3
  have r3:=r1.mono (g2.trans g3)
  unfold CT at q3
  split at q3
  ·obtain⟨ds,e3,q3⟩:=q3
   obtain rfl:v=.ref _:=r3
   obtain⟨xs,hx,rs⟩:=a3 _ _ e3
   exact .inl ⟨_,xs,rfl,SqL.of hx,fun z hz=>fin _ _ _ _ (G.trans (.new hz)) (by rw[Rep]) (a3.km hz (rs.cut _ _)) (q3 z (a3.fresh hz))⟩
  ·rw[Rep]at r3
   obtain⟨b,xs,rfl,hx,rs⟩:=r3
   exact .inl ⟨_,xs,rfl,hx.sql,fun z hz=>fin _ _ _ _ (G.trans (.new hz)) (by rw[Rep]) (a3.km hz (rs.cut _ _)) (q3 z (a3.fresh hz))⟩
  ·obtain⟨hw,q3⟩:=q3
   rw[Rep]at r3
   obtain⟨b,xs,rfl,hx,rs⟩:=r3
   exact .inr ⟨_,xs,rfl,hx,by rw[<-rs.length];exact hw,fun z hz=>fin _ _ _ _ (G.trans (.new hz)) (by rw[Rep];exact⟨z,_,rfl,SqT.of ay,(rs.cut _ _).mono (.new hz)⟩) (a3.new hz) q3⟩
  ·exact q3.elim⟩⟩⟩)
end
section
variable{X:Cx}{x y z:Str}{px py pz pt pos:Pos}{kt:Nat}{js:List Nat}{scope:Gz}{elt iter:Expr}{ifs:List Expr}{te:TD}{tc:TTD}{wd:TID}{xs:List Str}
theorem m8(c:CScope X xs js scope)(i:Nat)(hx:xs[i]?=some x){C:Addr}{s:E3}{H:Hp}{fp:List Addr}:PG (cxC X xs js scope C s H fp) (.Name x px) (gN i):=by
 have hi:i<xs.length:=(EB.mp hx).1;have hm:=F0 hx
 have hl:Loc (cxC X xs js scope C s H fp).env.scope x:=by
  rcases c.own x hm with z|z
  ·exact .inl (ee (by decide) z)
  ·exact .inr (ee (by decide) z)
 refine rN (i:=i) c.nd ?_ hl (.inl (by show xs.contains x=true;simpa using hm));show(xs++js.map fun j=>(X.N[j]?).getD ("":Str))[i]?=some x;rw[FR hi];exact hx
theorem rm(c:CScope X [x,y] js scope)(hc:X.calm=true){C:Addr}{s:E3}{H:Hp}{fp:List Addr}:PG (cxC X [x,y] js scope C s H fp) (.Tuple [.Name x px,.Name y py] kt pt) (BE X.K 2 (oX (gN 0) (oX (gN 1) Bp))):=uz (X:=cxC X [x,y] js scope C s H fp) hc (jd (m8 c 0 rfl) (jd (m8 c 1 rfl) qC)) rfl rfl
theorem gH(c:CScope X [x] js scope)(hc:X.calm=true)(hi:DI X (.Name x px) iter wd)(ht:∀C s H fp,DTs (cxC X [x] js scope C s H fp) ifs tc)(he:∀C s H fp,DE (cxC X [x] js scope C s H fp) elt te) (hs:∀x,FG iter X.env x=pure x:=by intro _;rfl):DE X (.ListComp elt [⟨.Name x px,iter,ifs,0⟩] scope pos) (gX wd .one js tc te):=qY c hc hi uf (fun _ _ _ _=>m8 c 0 rfl) ht he hs
theorem vX(c:CScope X [x,y] js scope)(hc:X.calm=true)(hi:DI X (.Tuple [.Name x px,.Name y py] kt pt) iter wd)(ht:∀C s H fp,DTs (cxC X [x,y] js scope C s H fp) ifs tc)(he:∀C s H fp,DE (cxC X [x,y] js scope C s H fp) elt te) (hs:∀x,FG iter X.env x=pure x:=by intro _;rfl):DE X (.ListComp elt [⟨.Tuple [.Name x px,.Name y py] kt pt,iter,ifs,0⟩] scope pos) (gX wd (.many 2) js tc te):=qY c hc hi vz (fun _ _ _ _=>rm c hc) ht he hs
theorem nM(i:Nat){v:Str}{pv spos:Pos}(hN:X.N.Nodup)(c:CScope X [x] js scope)(hc:X.calm=true)(hi:DI X (.Name x px) iter wd)(ht:∀C s H fp,DTs (cxC X [x] js scope C s H fp) ifs tc)(he:∀C s H fp,DE (cxC X [x] js scope C s H fp) elt te) (hy:X.N[i]?=some v:=by rfl) (hl:X.env.scope.names.lookup v=some .local:=by rfl) (hsw:Ht (.ListComp elt [⟨.Name x px,iter,ifs,0⟩] scope pos) (some (.Name v pv)) spos.line X.env=pure true:=by rfl) (hs:∀x,FG iter X.env x=pure x:=by intro _;rfl) : DSt X (.Assign [.Name v pv] (.ListComp elt [⟨.Name x px,iter,ifs,0⟩] scope pos) spos) (fm (gX wd .one js tc te) (aQ i)):=xH i hN c hc hi uf (fun _ _ _ _=>m8 c 0 rfl) ht he hy hl hsw hs
end
section
variable{prog:EF}{w:EZ}{A:EX}{E:E2->E3->Prop}{s:E3}
theorem max_two{a b:E2}{c:Bool}{Q:E2->E3->Prop}(hh:A.handled=none)
 (cmp:∀(t:E3) (Q':E2->E3->Prop) (E':E2->E3->Prop),(∀x o,s.heap.get? x=some o->t.heap.get? x=some o)->Q' (.bool c) t->E8 (ED prog w) A.in1 (richCompare .Gt b a) Q' E' t)
 (h:∀h' tk,(∀x o,s.heap.get? x=some o->h'.get? x=some o)->Q (if c=true then b else a) { s with heap:=h',toks:=tk }) :
 E8 (ED prog w) A (call (.builtin "max") [a,b]) Q E s:=by
 have nm:(toString "max"++toString ".loop":String)="max.loop":=by decide
 refine call_function_tree F.kind_max F.plain_max F.entry_max (F.args_max2 _ _) ?_
 show E8 _ A.in1 (Builtin.Builtins.bindParams "max" ["key","default"] 0 ⟨[],[]⟩ >>= fun _=>_) _ _ s
 refine cc (wpAny_of_eq (a:=[none,none]) rfl ?_)
 show E8 _ A.in1 (newTuple [a,b] >>= fun _=>_) _ _ s
 refine cc (Fq ?_)
 generalize e1:s.heap.push { cls:=.type "tuple",dict:=none,data:=.seq ([a,b]:List E2).toArray }=h1
 have k1:∀x o,s.heap.get? x=some o->h1.get? x=some o:=fun x o q=>by rw[<-e1];exact E4 _ q
 have hT:h1.IsTuple s.heap.objs.size #[a,b]:=by rw[<-e1];exact⟨_,EC _ rfl,rfl,0,rfl⟩
 have z1:h1.objs.size=s.heap.objs.size+1:=by rw[<-e1,G8]
 refine cc (wpAny_pyIter_tuple (s:={ s with heap:=h1 }) hT ?_)
 refine cc (Fq ?_)
 dsimp only
 generalize eI:h1.objs.size=I
 generalize e2:h1.push _=h2
 have k2:∀x o,h1.get? x=some o->h2.get? x=some o:=fun x o q=>by rw[<-e2];exact E4 _ q
 have hI:h2.IsTupleIter I s.heap.objs.size 0:=by rw[<-e2,<-eI];exact⟨_,EC _ rfl,rfl,rfl⟩
 have z2:h2.objs.size=I+1:=by rw[<-e2,G8,eI]
 generalize eS:h2.objs.size=S
 generalize e3:h2.push _=h3
 have k3:∀x o,h2.get? x=some o->h3.get? x=some o:=fun x o q=>by rw[<-e3];exact E4 _ q
 have hS:h3.get? S=some { cls:=.type "list",dict:=none,data:=.seq #[] 0,slots:=#[] }:=by rw[<-e3,<-eS];exact EC _ rfl
 have SI:S≠I:=by omega
 have old:∀x o,s.heap.get? x=some o->x≠I/\x≠S:=fun x o q=>⟨EV (EK (E7 q) (by omega)),EV (EK (E7 q) (by omega))⟩
 have hT3:h3.IsTuple s.heap.objs.size #[a,b]:=by
  obtain⟨o,q,r⟩:=hT
  exact⟨o,k3 _ _ (k2 _ _ q),r⟩
 have hI3:h3.IsTupleIter I s.heap.objs.size 0:=hI.at fun o q=>k3 _ _ q
 have TI:s.heap.objs.size≠I:=by omega
 have TS:s.heap.objs.size≠S:=by omega
 have keep3:∀x o,s.heap.get? x=some o->h3.get? x=some o:=fun x o q=>k3 _ _ (k2 _ _ (k1 _ _ q))
 rw[nm]
 refine E5 ⟨Hr GW _,?_⟩
 have last:∀(t:E3) (v:E2) (n:Nat),t.heap.IsTupleIter I s.heap.objs.size 2->t.heap.IsTuple s.heap.objs.size #[a,b]->t.heap.get? S=some { cls:=.type "list",dict:=none,data:=.seq #[v,v] n,slots:=#[] }->
  (∃h' tk,t={ s with heap:=h',toks:=tk }/\∀x o,s.heap.get? x=some o->h'.get? x=some o)->v=(if c=true then b else a)->Hc (ED prog w) A (.builtin "max.loop" ⟨[.ref I,.none,.ref S],[]⟩) (fun r s'=>match r with|.ok (.ret v)=>Q v s'|.ok _=>False|.error e=>E e s') t:=by
  rintro t v n i2 tT lS ⟨h',tk,rfl,kt⟩ ev
  refine Hf F.entry_max_loop ?_
  rw[GI GW _]
  show E8 _ A.in1 (seqItems? (.ref S) >>= fun _=>_) _ _ _
  refine cc (Fx lS rfl ?_)
  show E8 _ A.in1 (tryCatch (pyNext (.ref I)) _ >>= fun _=>_) _ _ _
  refine cc (Ha (wpAny_pyNext_tuple_end (A:=A.in1) hh i2 tT (by simp) fun h4 q4=>?_))
  have lS4:h4.get? S=some _:=q4 _ _ SI lS
  show E8 _ A.in1 (updateSeq S (fun _=>#[]) >>= fun _=>_) _ _ _
  refine cc (wpAny_updateSeq lS4 rfl (cc (Gw (E5 ?_))))
  show Q v _
  rw[ev]
  exact h _ _ fun x o q=>(EW _ _ (old x o q).2.symm).trans (q4 x o (old x o q).1 (kt x o q))
 refine Hf F.entry_max_loop ?_
 rw[GI GW _]
 show E8 _ A.in1 (seqItems? (.ref S) >>= fun _=>_) _ _ _
 refine cc (Fx (s:={ s with heap:=h3 }) hS rfl ?_)
 show E8 _ A.in1 (tryCatch (pyNext (.ref I)) _ >>= fun _=>_) _ _ _
 refine cc (Ha (GK (s:={ s with heap:=h3 }) hI3 hT3 (x:=a) (by simp) fun h4 i4 q4=>?_))
 have hS4:h4.get? S=some _:=(q4.2 _ SI).trans hS
 have hT4:h4.IsTuple s.heap.objs.size #[a,b]:=by
  obtain⟨o,q,r⟩:=hT3
  exact⟨o,(q4.2 _ TI).trans q,r⟩
 show E8 _ A.in1 (updateSeq S (fun _=>#[a,a]) >>= fun _=>_) _ _ _
 refine cc (wpAny_updateSeq hS4 rfl ?_)
 rw[nm]
 refine E5 ⟨Hr GW _,?_⟩
 generalize e5:h4.update S _=h5
 have o5:∀x,x≠S->h5.get? x=h4.get? x:=fun x q=>by rw[<-e5];exact EW _ _ q.symm
 have hS5:∃n,h5.get? S=some { cls:=.type "list",dict:=none,data:=.seq #[a,a] n,slots:=#[] }:=⟨_,by rw[<-e5];exact Fy _ hS4 rfl⟩
 obtain⟨n5,hS5⟩:=hS5
 have i5:h5.IsTupleIter I s.heap.objs.size 1:=i4.at fun o q=>(o5 _ SI.symm).trans q
 have hT5:h5.IsTuple s.heap.objs.size #[a,b]:=by
  obtain⟨o,q,r⟩:=hT4
  exact⟨o,(o5 _ TS).trans q,r⟩
 have keep5:∀x o,s.heap.get? x=some o->h5.get? x=some o:=fun x o q=>(o5 _ (old x o q).2).trans ((q4.2 _ (old x o q).1).trans (keep3 x o q))
 refine Hf F.entry_max_loop ?_
 rw[GI GW _]
 show E8 _ A.in1 (seqItems? (.ref S) >>= fun _=>_) _ _ _
 refine cc (Fx (s:={ s with heap:=h5 }) hS5 rfl ?_)
 show E8 _ A.in1 (tryCatch (pyNext (.ref I)) _ >>= fun _=>_) _ _ _
 refine cc (Ha (GK (s:={ s with heap:=h5 }) i5 hT5 (x:=b) (by simp) fun h6 i6 q6=>?_))
 have hS6:h6.get? S=some _:=(q6.2 _ SI).trans hS5
 have hT6:h6.IsTuple s.heap.objs.size #[a,b]:=by
  obtain⟨o,q,r⟩:=hT5
  exact⟨o,(q6.2 _ TI).trans q,r⟩
 have keep6:∀x o,s.heap.get? x=some o->h6.get? x=some o:=fun x o q=>(q6.2 _ (old x o q).1).trans (keep5 x o q)
 show E8 _ A.in1 (tryCatch (holding [b,b] (richCompare .Gt b a >>= fun _=>_)) _ >>= fun _=>_) _ _ _
 refine cc (Ha (Fs (cc (cmp _ _ _ keep6 ?_))))
 refine cc (Fs (Hj ?_))
 refine cc (Gw (E5 ?_))
 cases c with
 |true=>
  simp only[if_true]at last ⊢
  refine cc (wpAny_updateSeq hS6 rfl (cc (Gw ?_)))
  rw[nm]
  refine E5 ⟨Hr GW _,last _ b _ (i6.at fun o q=>(EW _ _ SI).trans q) ?_ (Fy _ hS6 rfl) ⟨_,_,rfl,fun x o q=>(EW _ _ (old x o q).2.symm).trans (keep6 x o q)⟩ rfl⟩
  obtain⟨o,q,r⟩:=hT6
  exact⟨o,(EW _ _ TS.symm).trans q,r⟩
 |false=>
  simp only[EO,if_false]at last ⊢
  refine cc (Gw ?_)
  rw[nm]
  exact E5 ⟨Hr GW _,last _ a _ i6 hT6 hS6 ⟨_,_,rfl,keep6⟩ rfl⟩
theorem min_two{a b:E2}{c:Bool}{Q:E2->E3->Prop}(hh:A.handled=none)
 (cmp:∀(t:E3) (Q':E2->E3->Prop) (E':E2->E3->Prop),(∀x o,s.heap.get? x=some o->t.heap.get? x=some o)->Q' (.bool c) t->E8 (ED prog w) A.in1 (richCompare .Lt b a) Q' E' t)
 (h:∀h' tk,(∀x o,s.heap.get? x=some o->h'.get? x=some o)->Q (if c=true then b else a) { s with heap:=h',toks:=tk }) :
 E8 (ED prog w) A (call (.builtin "min") [a,b]) Q E s:=by
 have nm:(toString "min"++toString ".loop":String)="min.loop":=by decide
 refine call_function_tree F.kind_min F.plain_min F.entry_min (F.args_min2 _ _) ?_
 show E8 _ A.in1 (Builtin.Builtins.bindParams "min" ["key","default"] 0 ⟨[],[]⟩ >>= fun _=>_) _ _ s
 refine cc (wpAny_of_eq (a:=[none,none]) rfl ?_)
 show E8 _ A.in1 (newTuple [a,b] >>= fun _=>_) _ _ s
 refine cc (Fq ?_)
 generalize e1:s.heap.push { cls:=.type "tuple",dict:=none,data:=.seq ([a,b]:List E2).toArray }=h1
 have k1:∀x o,s.heap.get? x=some o->h1.get? x=some o:=fun x o q=>by rw[<-e1];exact E4 _ q
 have hT:h1.IsTuple s.heap.objs.size #[a,b]:=by rw[<-e1];exact⟨_,EC _ rfl,rfl,0,rfl⟩
 have z1:h1.objs.size=s.heap.objs.size+1:=by rw[<-e1,G8]
 refine cc (wpAny_pyIter_tuple (s:={ s with heap:=h1 }) hT ?_)
 refine cc (Fq ?_)
 dsimp only
 generalize eI:h1.objs.size=I
 generalize e2:h1.push _=h2
 have k2:∀x o,h1.get? x=some o->h2.get? x=some o:=fun x o q=>by rw[<-e2];exact E4 _ q
 have hI:h2.IsTupleIter I s.heap.objs.size 0:=by rw[<-e2,<-eI];exact⟨_,EC _ rfl,rfl,rfl⟩
 have z2:h2.objs.size=I+1:=by rw[<-e2,G8,eI]
 generalize eS:h2.objs.size=S
 generalize e3:h2.push _=h3
 have k3:∀x o,h2.get? x=some o->h3.get? x=some o:=fun x o q=>by rw[<-e3];exact E4 _ q
 have hS:h3.get? S=some { cls:=.type "list",dict:=none,data:=.seq #[] 0,slots:=#[] }:=by rw[<-e3,<-eS];exact EC _ rfl
 have SI:S≠I:=by omega
 have old:∀x o,s.heap.get? x=some o->x≠I/\x≠S:=fun x o q=>⟨EV (EK (E7 q) (by omega)),EV (EK (E7 q) (by omega))⟩
 have hT3:h3.IsTuple s.heap.objs.size #[a,b]:=by
  obtain⟨o,q,r⟩:=hT
  exact⟨o,k3 _ _ (k2 _ _ q),r⟩
 have hI3:h3.IsTupleIter I s.heap.objs.size 0:=hI.at fun o q=>k3 _ _ q
 have TI:s.heap.objs.size≠I:=by omega
 have TS:s.heap.objs.size≠S:=by omega
 have keep3:∀x o,s.heap.get? x=some o->h3.get? x=some o:=fun x o q=>k3 _ _ (k2 _ _ (k1 _ _ q))
 rw[nm]
 refine E5 ⟨Hr GX _,?_⟩
 have last:∀(t:E3) (v:E2) (n:Nat),t.heap.IsTupleIter I s.heap.objs.size 2->t.heap.IsTuple s.heap.objs.size #[a,b]->t.heap.get? S=some { cls:=.type "list",dict:=none,data:=.seq #[v,v] n,slots:=#[] }->
  (∃h' tk,t={ s with heap:=h',toks:=tk }/\∀x o,s.heap.get? x=some o->h'.get? x=some o)->v=(if c=true then b else a)->Hc (ED prog w) A (.builtin "min.loop" ⟨[.ref I,.none,.ref S],[]⟩) (fun r s'=>match r with|.ok (.ret v)=>Q v s'|.ok _=>False|.error e=>E e s') t:=by
  rintro t v n i2 tT lS ⟨h',tk,rfl,kt⟩ ev
  refine Hf F.entry_min_loop ?_
  rw[GI GX _]
  show E8 _ A.in1 (seqItems? (.ref S) >>= fun _=>_) _ _ _
  refine cc (Fx lS rfl ?_)
  show E8 _ A.in1 (tryCatch (pyNext (.ref I)) _ >>= fun _=>_) _ _ _
  refine cc (Ha (wpAny_pyNext_tuple_end (A:=A.in1) hh i2 tT (by simp) fun h4 q4=>?_))
  have lS4:h4.get? S=some _:=q4 _ _ SI lS
  show E8 _ A.in1 (updateSeq S (fun _=>#[]) >>= fun _=>_) _ _ _
  refine cc (wpAny_updateSeq lS4 rfl (cc (Gw (E5 ?_))))
  show Q v _
  rw[ev]
  exact h _ _ fun x o q=>(EW _ _ (old x o q).2.symm).trans (q4 x o (old x o q).1 (kt x o q))
 refine Hf F.entry_min_loop ?_
 rw[GI GX _]
 show E8 _ A.in1 (seqItems? (.ref S) >>= fun _=>_) _ _ _
 refine cc (Fx (s:={ s with heap:=h3 }) hS rfl ?_)
 show E8 _ A.in1 (tryCatch (pyNext (.ref I)) _ >>= fun _=>_) _ _ _
 refine cc (Ha (GK (s:={ s with heap:=h3 }) hI3 hT3 (x:=a) (by simp) fun h4 i4 q4=>?_))
 have hS4:h4.get? S=some _:=(q4.2 _ SI).trans hS
 have hT4:h4.IsTuple s.heap.objs.size #[a,b]:=by
  obtain⟨o,q,r⟩:=hT3
  exact⟨o,(q4.2 _ TI).trans q,r⟩
 show E8 _ A.in1 (updateSeq S (fun _=>#[a,a]) >>= fun _=>_) _ _ _
 refine cc (wpAny_updateSeq hS4 rfl ?_)
 rw[nm]
 refine E5 ⟨Hr GX _,?_⟩
 generalize e5:h4.update S _=h5
 have o5:∀x,x≠S->h5.get? x=h4.get? x:=fun x q=>by rw[<-e5];exact EW _ _ q.symm
 have hS5:∃n,h5.get? S=some { cls:=.type "list",dict:=none,data:=.seq #[a,a] n,slots:=#[] }:=⟨_,by rw[<-e5];exact Fy _ hS4 rfl⟩
 obtain⟨n5,hS5⟩:=hS5
 have i5:h5.IsTupleIter I s.heap.objs.size 1:=i4.at fun o q=>(o5 _ SI.symm).trans q
 have hT5:h5.IsTuple s.heap.objs.size #[a,b]:=by
  obtain⟨o,q,r⟩:=hT4
  exact⟨o,(o5 _ TS).trans q,r⟩
 have keep5:∀x o,s.heap.get? x=some o->h5.get? x=some o:=fun x o q=>(o5 _ (old x o q).2).trans ((q4.2 _ (old x o q).1).trans (keep3 x o q))
 refine Hf F.entry_min_loop ?_
 rw[GI GX _]
 show E8 _ A.in1 (seqItems? (.ref S) >>= fun _=>_) _ _ _
 refine cc (Fx (s:={ s with heap:=h5 }) hS5 rfl ?_)
 show E8 _ A.in1 (tryCatch (pyNext (.ref I)) _ >>= fun _=>_) _ _ _
 refine cc (Ha (GK (s:={ s with heap:=h5 }) i5 hT5 (x:=b) (by simp) fun h6 i6 q6=>?_))
 have hS6:h6.get? S=some _:=(q6.2 _ SI).trans hS5
 have hT6:h6.IsTuple s.heap.objs.size #[a,b]:=by
  obtain⟨o,q,r⟩:=hT5
  exact⟨o,(q6.2 _ TI).trans q,r⟩
 have keep6:∀x o,s.heap.get? x=some o->h6.get? x=some o:=fun x o q=>(q6.2 _ (old x o q).1).trans (keep5 x o q)
 show E8 _ A.in1 (tryCatch (holding [b,b] (richCompare .Lt b a >>= fun _=>_)) _ >>= fun _=>_) _ _ _
 refine cc (Ha (Fs (cc (cmp _ _ _ keep6 ?_))))
 refine cc (Fs (Hj ?_))
 refine cc (Gw (E5 ?_))
 cases c with
 |true=>
  simp only[if_true]at last ⊢
  refine cc (wpAny_updateSeq hS6 rfl (cc (Gw ?_)))
  rw[nm]
  refine E5 ⟨Hr GX _,last _ b _ (i6.at fun o q=>(EW _ _ SI).trans q) ?_ (Fy _ hS6 rfl) ⟨_,_,rfl,fun x o q=>(EW _ _ (old x o q).2.symm).trans (keep6 x o q)⟩ rfl⟩
  obtain⟨o,q,r⟩:=hT6
  exact⟨o,(EW _ _ TS.symm).trans q,r⟩
 |false=>
  simp only[EO,if_false]at last ⊢
  refine cc (Gw ?_)
  rw[nm]
  exact E5 ⟨Hr GX _,last _ a _ i6 hT6 hS6 ⟨_,_,rfl,keep6⟩ rfl⟩
end
end SD
namespace HT
open PySem PyProof.Rows
def aU:List Int->List Int->Bool
 |[],[]=>false
 |[],_::_=>false
 |_::_,[]=>true
 |x::xs,y::ys=>if x=y then aU xs ys else decide (y<x)
theorem p8(x y:Int)(xs ys:List Int):aU (x::xs) (y::ys)=if x=y then aU xs ys else decide (y<x):=rfl
theorem j9:aU [] []=false:=rfl
theorem jz(y:Int)(ys:List Int):aU [] (y::ys)=false:=rfl
theorem iT(x:Int)(xs:List Int):aU (x::xs) []=true:=rfl
theorem uK(A:EX)(s:E3)(a:Int)(t:Tok)(c:Int)(u:Tok)(prog:EF)(w:EZ)(E:E2->E3->Prop)(Q:E2->E3->Prop)(h:Q (.bool (decide (c<a))) s) : E8 (ED prog w) A (richCompare .Gt (.int a t) (.int c u)) Q E s:=(PyProof.Rows.gt_int h:E8 (ED prog w) A (Fm .Gt (.int a t) (.int c u)) Q E s)
section
open PySem.SeqAt
open PySem.AutoSeq1 (wpAny_loadPart')
open PySem.MeetsSeq PySem.MeetsSeq2 PySem.MeetsSeq3
theorem j6(l b:Addr)(items items2:Array E2)(n n2:Nat)(dd dd2:Option Addr)(sl sl2:Array (Option E2))(ns ms:List Int)(hi:Gb items.toList ns)(hj:Gb items2.toList ms) :
 Meets (Hm.«tuple.__gt__» ⟨[.ref l,.ref b],[]⟩)
  (fun _ R s=>s.heap.get? l=some { cls:=.type "tuple",dict:=dd,data:=.seq items n,slots:=sl }/\s.heap.get? b=some { cls:=.type "tuple",dict:=dd2,data:=.seq items2 n2,slots:=sl2 }/\
   R (.ok (.ret (.bool (aU ns ms)))) s):=
 .of_wp fun prog w A R s h=>by
  obtain⟨hp,g,d,tk,os⟩:=s;obtain⟨hl,hb,h⟩:=h
  have f2:=AutoSeq1.sub_tuple_tuple
  have z1:items.size=ns.length:=by rw[<-hi.length];simp
  have z2:items2.size=ms.length:=by rw[<-hj.length];simp
  wp_walk using Gv hl,Gv hb,wpAny_forIn_list _ (fun rest b s'=>b.1=none/\s'=⟨hp,g,d,tk,os⟩/\∃(vs ws:List E2) (ns' ms':List Int),rest=vs.zip ws/\
   Gb vs ns'/\Gb ws ms'/\ns'.length+items2.size=ms'.length+items.size/\R (.ok (.ret (.bool (aU ns' ms')))) ⟨hp,g,d,tk,os⟩) _
  case turn=>
   rintro⟨y,x⟩ rest b s' ⟨hb',rfl,vs,ws,ns',ms',hz,hvi,hwi,hlen,hR⟩
   cases hvi with
   |nil=>rw[List.zip_nil_left]at hz;cases hz
   |cons a t hvi'=>
    cases hwi with
    |nil=>rw[List.zip_nil_right]at hz;cases hz
    |cons c u hwi'=>
     rw[GA]at hz
     injection hz with hyx hrest
     injection hyx with hy hx
     subst hy hx
     rw[p8]at hR
     simp only[F8]at hlen
     obtain⟨e,he,hiff⟩:=i8 A.in1 ⟨hp,g,d,tk,os⟩ a t c u
     refine cc (he prog w _ _ ?_)
     cases e with
     |true=>
      rw[if_pos (hiff.mp rfl)]at hR
      wp_walk
      exact⟨rfl,rfl,_,_,_,_,hrest,hvi',hwi',by omega,hR⟩
     |false=>
      rw[if_neg (fun q=>absurd (hiff.mpr q) ET)]at hR
      have hri:=uK A.in1 ⟨hp,g,d,tk,os⟩ a t c u prog w
      wp_walk using hri
      exact⟨_,rfl,by simpa using hR⟩
  case fin=>
   rintro⟨b1,b2⟩ s' ⟨hb',rfl,vs,ws,ns',ms',hz,hvi,hwi,hlen,hR⟩
   simp only at hb'
   subst hb'
   have hv:aU ns' ms'=decide (items.size>items2.size):=by
    cases hvi with
    |nil=>
     cases hwi with
     |nil=>
      simp only[Gd]at hlen
      rw[j9]
      exact(decide_eq_false (by omega)).symm
     |cons c u hw=>
      simp only[Gd,F8]at hlen
      rw[jz]
      exact(decide_eq_false (by omega)).symm
    |cons a t hv=>
     cases hwi with
     |nil=>
      simp only[Gd,F8]at hlen
      rw[iT]
      exact(decide_eq_true (by omega)).symm
     |cons c u hw=>
      rw[GA]at hz
      cases hz
   rw[hv]at hR
   wp_walk
   exact⟨_,rfl,by simpa[Builtin.Tuple.tupleCompareSizes]using hR⟩
  case h=>
   exact⟨rfl,rfl,items.toList,items2.toList,ns,ms,rfl,hi,hj,by omega,h⟩
end
section
variable{prog:EF}{w:EZ}{A:EX}{E:E2->E3->Prop}{s:E3}
theorem jL{l b:Addr}{items items2:Array E2}{ns ms:List Int}{Q:E2->E3->Prop}(hl:IsTup s.heap l items)(hb:IsTup s.heap b items2)(hi:Gb items.toList ns)(hj:Gb items2.toList ms) (hu:A.units<FQ) (h:Q (.bool (aU ns ms)) s):E8 (ED prog w) A (Fm .Gt (.ref l) (.ref b)) Q E s:=by obtain⟨⟨cls,dd,data,sl⟩,ho,hc,n,hd⟩:=id hl;obtain⟨⟨cls2,dd2,data2,sl2⟩,ho2,hc2,n2,hd2⟩:=id hb;simp only at hc hd hc2 hd2;subst hc hd hc2 hd2;exact richCompare_meets_room (op:=.Gt) ⟨_,ho,rfl⟩ ⟨_,ho2,rfl⟩ PySem.F.slot_tuple_gt PySem.F.entry_tuple_gt (PySem.F.args_tuple_gt_2 _ _) (j6 l b items items2 n n2 dd dd2 sl sl2 ns ms hi hj) ⟨ho,ho2,show FY (aU ns ms)≠Value.notImplemented/\Q (.bool (aU ns ms)) s from⟨(fun x=>nomatch x),h⟩⟩ hu
end
end HT
namespace SD
open PySem PySem.Spec PyProof.Rows L2
section
variable{X:Cx}
theorem dB{K:E1}{H:Hp}:∀{ns:List Int} {xs:List V},aB K H (ns.map D.int) xs->xs=ns.map V.int
 |[],xs,h=>by rw[Gq,aB]at h;exact h
 |n::ns,xs,h=>by
  rw[EJ,aB]at h
  obtain⟨x,r,rfl,h1,h2⟩:=h
  rw[Rep]at h1
  rw[h1,dB h2];rfl
theorem AH(hu:X.A.units<FQ):OpR X (Fm .Gt) (fun x y H Q=>∃a b ns ms,x=.ref a/\y=.ref b/\SqT X.K H a (ns.map V.int)/\SqT X.K H b (ms.map V.int)/\Q (.bl (HT.aU ns ms)) H):=by intro pins s σ H x y v u Q I rx ry h;obtain⟨a,b,ns,ms,rfl,rfl,ha,hb,q⟩:=h;cases rx;cases ry;obtain⟨its,r1,p1,_⟩:=I.tuple ha;obtain⟨its2,r2,p2,_⟩:=I.tuple hb;exact HT.jL p1 p2 (intsAre_of r1) (intsAre_of r2) hu ⟨.bl (HT.aU ns ms),H,I,rfl,q⟩
def oZ(f:Int->Int->Bool)(g:List Int->List Int->Bool):R2D:=fun x y M Q=>match x,y with
 |.int i,.int j=>True/\Q (.bl (f i j)) M
 |.tup a,.tup b=>∃ns ms,a=Gr D.int ns/\b=Gr D.int ms/\Q (.bl (g ns ms)) M
 |_,_=>False
theorem ux{op:CmpOp}{f:Int->Int->Bool}{g:List Int->List Int->Bool}(h1:OpD X (Fm op) (rI2 (fun _ _=>True) fun i j=>.bl (f i j))) (h2:OpR X (Fm op) (fun x y H Q=>∃a b ns ms,x=.ref a/\y=.ref b/\SqT X.K H a (ns.map V.int)/\SqT X.K H b (ms.map V.int)/\Q (.bl (g ns ms)) H)):OpD X (Fm op) (oZ f g):=by
 refine gV (h1.or h2) fun v u H Q zz1_0=>?_;obtain⟨x,y,M,R,r1,r2,a,q,fin⟩:=zz1_0;unfold oZ at q;split at q
 ·exact .inl ⟨_,_,M,R,r1,r2,a,q,fin⟩
 ·obtain⟨ns,ms,rfl,rfl,q⟩:=q;rw[Rep]at r1;obtain⟨p,xs,rfl,hx,rx⟩:=r1;obtain⟨p',ys,rfl,hy,ry⟩:∃a xs,u=V.ref a/\SqT X.K H a xs/\aB X.K H (Gr D.int ms) xs:=by rw[Rep]at r2;exact r2
  rw[dB rx]at hx;rw[dB ry]at hy;exact .inr ⟨p,p',ns,ms,rfl,rfl,hx,hy,fin _ _ _ _ .refl (by rw[Rep]) a q⟩
 ·exact q.elim
theorem c7(hu:X.A.units+64<FQ):OpD X (Fm .Lt) (oZ (fun i j=>decide (i<j)) HT.lexLt):=ux C2 (AE (by omega))
theorem eV(hu:X.A.units+64<FQ):OpD X (Fm .Gt) (oZ (fun i j=>decide (j<i)) HT.aU):=ux DB (AH (by omega))
theorem sJ(hc:X.calm=true)(hu:X.A.units+64<FQ):bE X (.builtin "max") (fun xs H Q=>∃p q ns ms,xs=[.ref p,.ref q]/\SqT X.K H p (ns.map V.int)/\SqT X.K H q (ms.map V.int)/\Q (if HT.aU ms ns=true then .ref q else .ref p) H):=by
 intro pins s σ H xs us Q I r z0;obtain⟨p,q,ns,ms,e,hp,hq,k⟩:=z0;subst e;obtain⟨u,v,rfl,ru,rv⟩:=vals2 r;cases ru;cases rv;obtain⟨its,r1,p1,_⟩:=I.tuple hp;obtain⟨its2,r2,p2,_⟩:=I.tuple hq;refine max_two (c:=HT.aU ms ns) (I.ok.hd hc) (fun t Q' E' kt q'=>?_) fun h' tk kt=>⟨_,H,I.kept kt,?_,k⟩
 ·obtain⟨o1,a1,b1⟩:=p1;obtain⟨o2,a2,b2⟩:=p2;exact HT.jL (A:=X.A.in1) (s:=t) ⟨o2,kt _ _ a2,b2⟩ ⟨o1,kt _ _ a1,b1⟩ (intsAre_of r2) (intsAre_of r1) (by show X.A.units+1<FQ;omega) q'
 ·cases HT.aU ms ns<;>rfl
theorem tJ(hc:X.calm=true)(hu:X.A.units+64<FQ):bE X (.builtin "min") (fun xs H Q=>∃p q ns ms,xs=[.ref p,.ref q]/\SqT X.K H p (ns.map V.int)/\SqT X.K H q (ms.map V.int)/\Q (if HT.lexLt ms ns=true then .ref q else .ref p) H):=by
 intro pins s σ H xs us Q I r z0;obtain⟨p,q,ns,ms,e,hp,hq,k⟩:=z0;subst e;obtain⟨u,v,rfl,ru,rv⟩:=vals2 r;cases ru;cases rv;obtain⟨its,r1,p1,_⟩:=I.tuple hp;obtain⟨its2,r2,p2,_⟩:=I.tuple hq;refine min_two (c:=HT.lexLt ms ns) (I.ok.hd hc) (fun t Q' E' kt q'=>?_) fun h' tk kt=>⟨_,H,I.kept kt,?_,k⟩
 ·obtain⟨o1,a1,b1⟩:=p1;obtain⟨o2,a2,b2⟩:=p2;exact HT.iX (A:=X.A.in1) (s:=t) ⟨o2,kt _ _ a2,b2⟩ ⟨o1,kt _ _ a1,b1⟩ (intsAre_of r2) (intsAre_of r1) (by show X.A.units+1<FQ;omega) q'
 ·cases HT.lexLt ms ns<;>rfl
def xf:RC:=fun ds M Q=>match ds with
 |[.int i,.int j]=>Q (.int (max i j)) M
 |[.tup a,.tup b]=>∃ns ms,a=Gr D.int ns/\b=Gr D.int ms/\Q (.tup (Gr D.int (if HT.aU ms ns=true then ms else ns))) M
 |_=>False
def vM:RC:=fun ds M Q=>match ds with
 |[.int i,.int j]=>Q (.int (min i j)) M
 |[.tup a,.tup b]=>∃ns ms,a=Gr D.int ns/\b=Gr D.int ms/\Q (.tup (Gr D.int (if HT.lexLt ms ns=true then ms else ns))) M
 |_=>False
theorem lV(hc:X.calm=true)(hu:X.A.units+64<FQ):cu X (.builtin "max") xf:=bI (bE.or (BU hc) (sJ hc hu)) fun vs H Q z9=>by
 obtain⟨ds,M,R,rs,a,q,fin⟩:=z9;unfold xf at q;split at q
 ·exact .inl ⟨_,M,R,rs,a,q,fin⟩
 ·obtain⟨ns,ms,rfl,rfl,q⟩:=q;obtain⟨v,u,rfl,r1,r2⟩:=dJ rs;rw[Rep]at r1;obtain⟨p,xs,rfl,hx,rx⟩:=r1;obtain⟨p',ys,rfl,hy,ry⟩:∃a xs,u=V.ref a/\SqT X.K H a xs/\aB X.K H (Gr D.int ms) xs:=by rw[Rep]at r2;exact r2
  have hx':=hx;have hy':=hy;rw[dB rx]at hx';rw[dB ry]at hy';refine .inr ⟨p,p',ns,ms,rfl,hx',hy',fin _ _ _ _ .refl ?_ a q⟩;by_cases z:HT.aU ms ns=true
  ·rw[if_pos z,if_pos z,Rep];exact⟨_,_,rfl,hy,ry⟩
  ·rw[if_neg z,if_neg z,Rep];exact⟨_,_,rfl,hx,rx⟩
 ·exact q.elim
theorem mv(hc:X.calm=true)(hu:X.A.units+64<FQ):cu X (.builtin "min") vM:=bI (bE.or (Bv hc) (tJ hc hu)) fun vs H Q z9=>by
 obtain⟨ds,M,R,rs,a,q,fin⟩:=z9;unfold vM at q;split at q
 ·exact .inl ⟨_,M,R,rs,a,q,fin⟩
 ·obtain⟨ns,ms,rfl,rfl,q⟩:=q;obtain⟨v,u,rfl,r1,r2⟩:=dJ rs;rw[Rep]at r1;obtain⟨p,xs,rfl,hx,rx⟩:=r1;obtain⟨p',ys,rfl,hy,ry⟩:∃a xs,u=V.ref a/\SqT X.K H a xs/\aB X.K H (Gr D.int ms) xs:=by rw[Rep]at r2;exact r2
  have hx':=hx;have hy':=hy;rw[dB rx]at hx';rw[dB ry]at hy';refine .inr ⟨p,p',ns,ms,rfl,hx',hy',fin _ _ _ _ .refl ?_ a q⟩;by_cases z:HT.lexLt ms ns=true
  ·rw[if_pos z,if_pos z,Rep];exact⟨_,_,rfl,hy,ry⟩
  ·rw[if_neg z,if_neg z,Rep];exact⟨_,_,rfl,hx,rx⟩
 ·exact q.elim
end
end SD
namespace Ma
open SD
theorem xk{p z:Int}(h:0<p):0<p*z↔0<z:=by
 constructor
 ·intro q;by_cases hz:0<z
  ·exact hz
  ·have:p*z<=0:=Int.mul_nonpos_of_nonneg_of_nonpos (by omega) (by omega);omega
 ·exact fun q=>Gx h q
theorem sU{a b c d:Int}(hb:0<b)(hd:0<d):Rat.divInt a b<Rat.divInt c d↔a*d<c*b:=by
 have e:=Rat.divInt_sub_divInt c a (d₁:=d) (d₂:=b) (by omega) (by omega);have h1:Rat.divInt a b<Rat.divInt c d↔0<Rat.divInt c d-Rat.divInt a b:=by constructor<;>intro z<;>grind
 rw[h1,e,iW (Gx hd hb)];omega
def ut(t b X m x:Int):Rat:=Rat.divInt (x*t+X*m) (b*m)
theorem rQ{t b X m n x y:Int}(ht:0<t)(hb:0<b)(hm:0<m)(hn:0<n):ut t b X m x<ut t b X n y↔n*x<m*y:=by
 unfold ut;rw[sU (Gx hb hm) (Gx hb hn)];have e:(y*t+X*n)*(b*m)-(x*t+X*m)*(b*n)=(b*t)*(m*y-n*x):=by grind
 have:=xk (z:=m*y-n*x) (Gx hb ht);omega
theorem zO{t b X m n x y:Int}(ht:0<t)(hb:0<b)(hm:0<m)(hn:0<n):ut t b X m x=ut t b X n y↔n*x=m*y:=by
 have h1:=rQ (X:=X) (x:=x) (y:=y) ht hb hm hn;have h2:=rQ (X:=X) (x:=y) (y:=x) ht hb hn hm;constructor
 ·intro e;have a:¬ut t b X m x<ut t b X n y:=by rw[e];exact Rat.lt_irrefl
  have c:¬ut t b X n y<ut t b X m x:=by rw[e];exact Rat.lt_irrefl
  rw[h1]at a;rw[h2]at c;omega
 ·intro e;have a:¬ut t b X m x<ut t b X n y:=by rw[h1];omega
  have c:¬ut t b X n y<ut t b X m x:=by rw[h2];omega
  grind
theorem vp{t b X x:Int}:Rat.divInt (x*t+X) b=ut t b X 1 x:=by unfold ut;rw[Int.mul_one,Int.mul_one]
theorem CA{t b X Y m n x y u v:Int}(ht:0<t)(hb:0<b)(hm:0<m)(hn:0<n) : ah (ut t b X m x) (ut t b Y m y) (ut t b X n u) (ut t b Y n v)↔HT.lexLt [n*x,n*y] [m*u,m*v]=true:=by
 unfold ah;rw[rQ ht hb hm hn,zO ht hb hm hn,rQ ht hb hm hn];simp only[HT.lexLt];by_cases h:n*x=m*u
 ·rw[if_pos h];by_cases h2:n*y=m*v
  ·rw[if_pos h2];simp;omega
  ·rw[if_neg h2];simp;omega
 ·rw[if_neg h];simp;omega
theorem bN(a b c d:Int):HT.aU [a,b] [c,d]=HT.lexLt [c,d] [a,b]:=by
 simp only[HT.aU,HT.lexLt];by_cases h:a=c
 ·subst h;rw[if_pos rfl,if_pos rfl];by_cases h2:b=d
  ·subst h2;simp
  ·rw[if_neg h2,if_neg (fun e=>h2 e.symm)]
 ·rw[if_neg h,if_neg (fun e=>h e.symm)]
theorem aR{a b c d:Int}:HT.lexLt [a,b] [c,d]=true↔a<c\/(a=c/\b<d):=by
 simp only[HT.lexLt];by_cases h:a=c
 ·subst h;rw[if_pos rfl];by_cases h2:b=d
  ·subst h2;rw[if_pos rfl];simp
  ·rw[if_neg h2];simp
 ·rw[if_neg h];simp;omega
end Ma
namespace SD
open PySem PySem.Spec PyProof.Rows L2
theorem av{M:MH}{a p:PySem.Addr}{o:MO}(h:M a=some o)(hp:M p=none):a≠p:=fun e=>by subst e;rw[h]at hp;cases hp
def scl(t b x y:Int):D:=.tup [.int t,.int b,.int x,.int y]
structure Scl(t b x y:Int):Prop where
 t0:0<t
 t1:t<=10^9
 b0:0<b
 b1:b<=10^9
 x0:-(10^17)<=x
 x1:x<=10^17
 y0:-(10^17)<=y
 y1:y<=10^17
def uw(w:Int×Int×Int×Int):D:=.tup [.tup [.int w.1,.int w.2.1],.tup [.int w.2.2.1,.int w.2.2.2]]
def rwl(t b x y:Int)(w:Int×Int×Int×Int):D:=Ma.wll (Ma.ut t b x 1 w.1) (Ma.ut t b y 1 w.2.1) (Ma.ut t b x 1 w.2.2.1) (Ma.ut t b y 1 w.2.2.2)
def Uok(n:Int)(w:Int×Int×Int×Int):Prop:=(-n<=w.1/\w.1<=n)/\(-n<=w.2.1/\w.2.1<=n)/\(-n<=w.2.2.1/\w.2.2.1<=n)/\(-n<=w.2.2.2/\w.2.2.2<=n)
theorem range_getD(l:List D):(Fl l.length).map (fun i=>(l[i]?).getD .non)=l:=by refine List.ext_getElem (by simp) fun i h1 h2=>?_;simp[h2]
theorem getD_map{α:Type}{f:α->D}{l:List α}{i:Nat}{a:α}(h:l[i]?=some a):((l.map f)[i]?).getD .non=f a:=by rw[EN,h];rfl
theorem rj(a b c d:Int):Ff (.tuple [.int a,.int b]) (.tuple [.int c,.int d])=decide (a=c/\b=d):=by simp only[Ff,FP,mh,Bool.and_true,Bool.decide_and]
section
variable{X:Cx}
theorem oA{i j:Int}{its:List E2}(h:Vals [.int i,.int j] its):∃t u,its=[.int i t,.int j u]:=by obtain⟨u,v,rfl,⟨t,rfl⟩,⟨t',rfl⟩⟩:=vals2 h;exact⟨_,_,rfl⟩
theorem tX(hc:X.calm=true):bE X (.builtin "max") (fun xs H Q=>∃p i j,xs=[.ref p]/\SqL X.K H p [.int i,.int j]/\Q (.int (max i j)) H):=by
 intro pins s σ H xs us Q I r z0;obtain⟨p,i,j,e,hp,k⟩:=z0;subst e;obtain⟨u,rfl,ru⟩:=vals1 r;cases ru;obtain⟨its,r1,p1,_⟩:=I.list hp;obtain⟨t,u,rfl⟩:=oA r1;refine max_intList (xs:=#[(i,t),(j,u)]) (I.ok.hd hc) (by simpa[intItems]using p1.isList) (by simp) fun v h' tk hv kt=>⟨.int (max i j),H,I.kept kt,?_,k⟩;have hv':(intItems #[(i,t),(j,u)])[argBest (fun x y=>decide (numAt #[(i,t),(j,u)] x>numAt #[(i,t),(j,u)] y)) 1]?=some v:=hv;by_cases hb:j>i
 ·have e:argBest (fun x y=>decide (numAt #[(i,t),(j,u)] x>numAt #[(i,t),(j,u)] y)) 1=1:=by simp[argBest,numAt,hb]
  rw[e]at hv';have z:Value.int j u=v:=by simpa[intItems]using hv'
  rw[<-z,show max i j=j from by omega];exact⟨_,rfl⟩
 ·have e:argBest (fun x y=>decide (numAt #[(i,t),(j,u)] x>numAt #[(i,t),(j,u)] y)) 1=0:=by simp[argBest,numAt,hb]
  rw[e]at hv';have z:Value.int i t=v:=by simpa[intItems]using hv'
  rw[<-z,show max i j=i from by omega];exact⟨_,rfl⟩
theorem sY(hc:X.calm=true):bE X (.builtin "min") (fun xs H Q=>∃p i j,xs=[.ref p]/\SqL X.K H p [.int i,.int j]/\Q (.int (min i j)) H):=by
 intro pins s σ H xs us Q I r z0;obtain⟨p,i,j,e,hp,k⟩:=z0;subst e;obtain⟨u,rfl,ru⟩:=vals1 r;cases ru;obtain⟨its,r1,p1,_⟩:=I.list hp;obtain⟨t,u,rfl⟩:=oA r1;refine min_intList (xs:=#[(i,t),(j,u)]) (I.ok.hd hc) (by simpa[intItems]using p1.isList) (by simp) fun v h' tk hv kt=>⟨.int (min i j),H,I.kept kt,?_,k⟩;have hv':(intItems #[(i,t),(j,u)])[argBest (fun x y=>decide (numAt #[(i,t),(j,u)] x<numAt #[(i,t),(j,u)] y)) 1]?=some v:=hv;by_cases hb:j<i
 ·have e:argBest (fun x y=>decide (numAt #[(i,t),(j,u)] x<numAt #[(i,t),(j,u)] y)) 1=1:=by simp[argBest,numAt,hb]
  rw[e]at hv';have z:Value.int j u=v:=by simpa[intItems]using hv'
  rw[<-z,show min i j=j from by omega];exact⟨_,rfl⟩
 ·have e:argBest (fun x y=>decide (numAt #[(i,t),(j,u)] x<numAt #[(i,t),(j,u)] y)) 1=0:=by simp[argBest,numAt,hb]
  rw[e]at hv';have z:Value.int i t=v:=by simpa[intItems]using hv'
  rw[<-z,show min i j=i from by omega];exact⟨_,rfl⟩
def zH:RC:=fun ds M Q=>match ds with
 |[.ref l]=>∃i j,M l=some (.lst [.int i,.int j])/\Q (.int (max i j)) M
 |ds=>xf ds M Q
def zR:RC:=fun ds M Q=>match ds with
 |[.ref l]=>∃i j,M l=some (.lst [.int i,.int j])/\Q (.int (min i j)) M
 |ds=>vM ds M Q
theorem oj{K:E1}{H:Hp}{M:MH}{l:Addr}{i j:Int}(a:Abs K H M)(e:M l=some (.lst [.int i,.int j])):SqL K H l [.int i,.int j]:=by obtain⟨xs,hx,rx⟩:=a _ _ e;rw[dB (ns:=[i,j]) rx]at hx;exact SqL.of hx
theorem ra(hc:X.calm=true)(hu:X.A.units+64<FQ):cu X (.builtin "max") zH:=bI (bE.or (lV hc hu) (tX hc)) fun vs H Q z9=>by
 obtain⟨ds,M,R,rs,a,q,fin⟩:=z9;unfold zH at q;split at q
 ·obtain⟨i,j,e,q⟩:=q;obtain⟨v,rfl,r⟩:=bF rs;rw[Rep]at r;subst r;exact .inr ⟨_,i,j,rfl,oj a e,fin _ _ _ _ .refl (by rw[Rep]) a q⟩
 ·exact .inl ⟨_,M,R,rs,a,q,fin⟩
theorem rp(hc:X.calm=true)(hu:X.A.units+64<FQ):cu X (.builtin "min") zR:=bI (bE.or (mv hc hu) (sY hc)) fun vs H Q z9=>by
 obtain⟨ds,M,R,rs,a,q,fin⟩:=z9;unfold zR at q;split at q
 ·obtain⟨i,j,e,q⟩:=q;obtain⟨v,rfl,r⟩:=bF rs;rw[Rep]at r;subst r;exact .inr ⟨_,i,j,rfl,oj a e,fin _ _ _ _ .refl (by rw[Rep]) a q⟩
 ·exact .inl ⟨_,M,R,rs,a,q,fin⟩
end
open PySem PySem.Spec PyProof.Rows L2 Ma
instance(a b c d:Rat):Decidable (Ma.ah a b c d):=inferInstanceAs (Decidable (_\/_))
def zi(a b c d e f g h:Rat):D:=
 let s:=if Ma.ah e f a b then(a,b)else(e,f)
 let n:=if Ma.ah c d g h then(c,d)else(g,h)
 if Ma.ah s.1 s.2 n.1 n.2 then .tup [.str "stretch",Ma.wll s.1 s.2 n.1 n.2]else if Ma.ah n.1 n.2 s.1 s.2 then .non else .tup [.str "spot",Ma.spt s.1 s.2]
def btw(x y s:Rat):Rat:=x+s*(y-x)
def oh(a b c d e f g h:Rat):D:=
 if Ma.sgn (Ma.cr a b c d e f)=0/\Ma.sgn (Ma.cr a b c d g h)=0 then zi a b c d e f g h
 else if 0<Ma.sgn (Ma.cr a b c d e f)*Ma.sgn (Ma.cr a b c d g h)\/0<Ma.sgn (Ma.cr e f g h a b)*Ma.sgn (Ma.cr e f g h c d)then .non
 else .tup [.str "spot",Ma.spt (btw e g (Ma.cr a b c d e f/(Ma.cr a b c d e f-Ma.cr a b c d g h))) (btw f h (Ma.cr a b c d e f/(Ma.cr a b c d e f-Ma.cr a b c d g h)))]
def crs(a b c d:Int):Int:=a*d-b*c
def bA(p q e f:Int):Int×Int:=if HT.aU [e,f] [p,q]=true then(e,f)else(p,q)
def bD(r s g h:Int):Int×Int:=if HT.lexLt [g,h] [r,s]=true then(g,h)else(r,s)
def d5(p q r s e f g h:Int):D:=
 let w:=crs (r-p) (s-q) (g-e) (h-f)
 if w=0 then
  if crs (r-p) (s-q) (e-p) (f-q)≠0\/HT.aU [(bA p q e f).1,(bA p q e f).2] [(bD r s g h).1,(bD r s g h).2]=true then .non
  else if(bA p q e f).1=(bD r s g h).1/\(bA p q e f).2=(bD r s g h).2 then .tup [.int (bA p q e f).1,.int (bA p q e f).2,.int 1]
  else .tup [.tup [.int (bA p q e f).1,.int (bA p q e f).2],.tup [.int (bD r s g h).1,.int (bD r s g h).2]]
 else
  let k:=if w<0 then -crs (e-p) (f-q) (g-e) (h-f)else crs (e-p) (f-q) (g-e) (h-f)
  let m:=if w<0 then -crs (e-p) (f-q) (r-p) (s-q)else crs (e-p) (f-q) (r-p) (s-q)
  if min k m<0\/(w.natAbs:Int)<max k m then .non else .tup [.int (p*(w.natAbs:Int)+k*(r-p)),.int (q*(w.natAbs:Int)+k*(s-q)),.int (w.natAbs:Int)]
def AB(t b X Y:Int):D->D
 |.tup [.int x,.int y,.int m]=>.tup [.str "spot",Ma.spt (Ma.ut t b X m x) (Ma.ut t b Y m y)]
 |.tup [.tup [.int x,.int y],.tup [.int u,.int v]]=>.tup [.str "stretch",Ma.wll (Ma.ut t b X 1 x) (Ma.ut t b Y 1 y) (Ma.ut t b X 1 u) (Ma.ut t b Y 1 v)]
 |_=>.non
theorem vE{t b X m x:Int}(hb:0<b)(hm:0<m):Ma.ut t b X m x=((t:Rat)/b)*((x:Rat)/m)+(X:Rat)/b:=by
 unfold Ma.ut;rw[Rat.divInt_eq_div];have h1:(b:Rat)≠0:=by have:=Ma.pos_int hb;grind
 have h2:(m:Rat)≠0:=by have:=Ma.pos_int hm;grind
 rw[Rat.intCast_add,GO,GO,GO];grind
theorem dN{t b X x:Int}(hb:0<b):Ma.ut t b X 1 x=((t:Rat)/b)*(x:Rat)+(X:Rat)/b:=by rw[vE hb (by decide)];have:((1:Int):Rat)=1:=rfl;rw[this];grind
theorem A3(k x y p q r s e f:Rat):Ma.cr (k*p+x) (k*q+y) (k*r+x) (k*s+y) (k*e+x) (k*f+y)=k*k*((r-p)*(f-q)-(s-q)*(e-p)):=by unfold Ma.cr;grind
theorem nZ{t b X Y p q r s e f:Int}(hb:0<b):Ma.cr (Ma.ut t b X 1 p) (Ma.ut t b Y 1 q) (Ma.ut t b X 1 r) (Ma.ut t b Y 1 s) (Ma.ut t b X 1 e) (Ma.ut t b Y 1 f)=((t:Rat)/b)*((t:Rat)/b)*((crs (r-p) (s-q) (e-p) (f-q):Int):Rat):=by rw[dN hb,dN hb,dN hb,dN hb,dN hb,dN hb,A3];unfold crs;rw[Hg,GO,GO,Hg,Hg,Hg,Hg]
theorem sgn_mul{k:Rat}(hk:0<k)(z:Int):Ma.sgn (k*(z:Rat))=Int.sign z:=by
 unfold Ma.sgn;by_cases h1:0<z
 ·rw[if_pos (Rat.mul_pos hk (Ma.pos_int h1)),G3 h1]
 ·by_cases h2:z<0
  ·have h3:0<k*((-z:Int):Rat):=Rat.mul_pos hk (Ma.pos_int (by omega));rw[Rat.intCast_neg]at h3;rw[if_neg (by grind),if_pos (by grind),FN h2]
  ·obtain rfl:z=0:=by omega
   have:((0:Int):Rat)=0:=rfl;rw[this];simp
theorem mZ{k:Rat}(hk:0<k)(z:Int):k*(z:Rat)=0↔z=0:=by have h:=sgn_mul hk z;rw[<-Ma.oz,h];exact Int.sign_eq_zero_iff_zero
theorem fh{x y:Int}:0<Int.sign x*Int.sign y↔(0<x/\0<y)\/(x<0/\y<0):=by
 rcases Int.lt_trichotomy x 0 with h|h|h<;>rcases Int.lt_trichotomy y 0 with h'|h'|h'
 ·rw[FN h,FN h'];omega
 ·subst h';simp
 ·rw[FN h,G3 h'];omega
 ·subst h;simp
 ·subst h;simp
 ·subst h;simp
 ·rw[G3 h,FN h'];omega
 ·subst h';simp
 ·rw[G3 h,G3 h'];omega
theorem ip{t b X Y p q e f:Int}(ht:0<t)(hb:0<b):Ma.ah (Ma.ut t b X 1 p) (Ma.ut t b Y 1 q) (Ma.ut t b X 1 e) (Ma.ut t b Y 1 f)↔(p<e\/(p=e/\q<f)):=by rw[Ma.CA ht hb (by decide) (by decide),Ma.aR];omega
theorem mB(p q r s e f g h:Int):crs (r-p) (s-q) (g-p) (h-q)=crs (r-p) (s-q) (e-p) (f-q)+crs (r-p) (s-q) (g-e) (h-f):=by unfold crs;grind
theorem yY(p q e f g h:Int):crs (g-e) (h-f) (p-e) (q-f)=crs (e-p) (f-q) (g-e) (h-f):=by unfold crs;grind
theorem yU(p q r s e f g h:Int):crs (g-e) (h-f) (r-e) (s-f)=crs (e-p) (f-q) (g-e) (h-f)-crs (r-p) (s-q) (g-e) (h-f):=by unfold crs;grind
theorem my(p q r s e f:Int):crs (e-p) (f-q) (r-p) (s-q)=-crs (r-p) (s-q) (e-p) (f-q):=by unfold crs;grind
theorem vq(p q r s e f g h:Int):crs (r-p) (s-q) (g-e) (h-f)*(e-p)=crs (e-p) (f-q) (g-e) (h-f)*(r-p)+crs (r-p) (s-q) (e-p) (f-q)*(g-e):=by unfold crs;grind
theorem wm(p q r s e f g h:Int):crs (r-p) (s-q) (g-e) (h-f)*(f-q)=crs (e-p) (f-q) (g-e) (h-f)*(s-q)+crs (r-p) (s-q) (e-p) (f-q)*(h-f):=by unfold crs;grind
theorem BN{k c W G H e g p r:Rat}(hk:k≠0)(hW:W≠0)(id:W*(e-p)=H*(r-p)+G*(g-e)) :
 btw (k*e+c) (k*g+c) (k*k*G/(k*k*G-k*k*(G+W)))=k*(p+H*(r-p)/W)+c:=by
 unfold btw
 have e1:k*k*G-k*k*(G+W)=-(k*k*W):=by grind
 rw[e1]
 grind
theorem nQ{t b X Y p q r s e f g h:Int}(ht:0<t)(hb:0<b) :
 oh (Ma.ut t b X 1 p) (Ma.ut t b Y 1 q) (Ma.ut t b X 1 r) (Ma.ut t b Y 1 s) (Ma.ut t b X 1 e) (Ma.ut t b Y 1 f) (Ma.ut t b X 1 g) (Ma.ut t b Y 1 h)=AB t b X Y (d5 p q r s e f g h):=by
 have htb:0<(t:Rat)/b:=by
  have h1:=Ma.pos_int ht
  have h2:=Ma.pos_int hb
  rw[Rat.div_def]
  exact Rat.mul_pos h1 (Rat.inv_pos.mpr h2)
 have hk:=Rat.mul_pos htb htb
 unfold oh d5
 rw[nZ hb,nZ hb,nZ hb,nZ hb,sgn_mul hk,sgn_mul hk,sgn_mul hk,sgn_mul hk,mB p q r s e f g h,yY p q e f g h,yU p q r s e f g h,my p q r s e f]
 have ix:=vq p q r s e f g h
 have iy:=wm p q r s e f g h
 generalize crs (r-p) (s-q) (g-e) (h-f)=W at ix iy
 generalize crs (r-p) (s-q) (e-p) (f-q)=G at ix iy
 generalize crs (e-p) (f-q) (g-e) (h-f)=H at ix iy
 dsimp only
 by_cases hW:W=0
 ·subst hW
  rw[if_pos rfl]
  by_cases hG:G=0
  ·subst hG
   rw[if_pos (by simp)]
   unfold zi
   have hs:(if Ma.ah (Ma.ut t b X 1 e) (Ma.ut t b Y 1 f) (Ma.ut t b X 1 p) (Ma.ut t b Y 1 q)then(Ma.ut t b X 1 p,Ma.ut t b Y 1 q)else(Ma.ut t b X 1 e,Ma.ut t b Y 1 f))=(Ma.ut t b X 1 (bA p q e f).1,Ma.ut t b Y 1 (bA p q e f).2):=by
    unfold bA
    rw[Ma.bN]
    by_cases z:HT.lexLt [p,q] [e,f]=true
    ·rw[if_pos z,if_neg]
     rw[ip ht hb]
     rw[Ma.aR]at z
     omega
    ·rw[if_neg z]
     rw[Ma.aR]at z
     by_cases y:Ma.ah (Ma.ut t b X 1 e) (Ma.ut t b Y 1 f) (Ma.ut t b X 1 p) (Ma.ut t b Y 1 q)
     ·rw[if_pos y]
     ·rw[if_neg y]
      rw[ip ht hb]at y
      obtain⟨rfl,rfl⟩:e=p/\f=q:=by omega
      rfl
   have hn:(if Ma.ah (Ma.ut t b X 1 r) (Ma.ut t b Y 1 s) (Ma.ut t b X 1 g) (Ma.ut t b Y 1 h)then(Ma.ut t b X 1 r,Ma.ut t b Y 1 s)else(Ma.ut t b X 1 g,Ma.ut t b Y 1 h))=(Ma.ut t b X 1 (bD r s g h).1,Ma.ut t b Y 1 (bD r s g h).2):=by
    unfold bD
    by_cases z:HT.lexLt [g,h] [r,s]=true
    ·rw[if_pos z,if_neg]
     rw[ip ht hb]
     rw[Ma.aR]at z
     omega
    ·rw[if_neg z]
     rw[Ma.aR]at z
     by_cases y:Ma.ah (Ma.ut t b X 1 r) (Ma.ut t b Y 1 s) (Ma.ut t b X 1 g) (Ma.ut t b Y 1 h)
     ·rw[if_pos y]
     ·rw[if_neg y]
      rw[ip ht hb]at y
      obtain⟨rfl,rfl⟩:g=r/\h=s:=by omega
      rfl
   rw[hs,hn]
   dsimp only
   generalize (bA p q e f).1=x1
   generalize (bA p q e f).2=y1
   generalize (bD r s g h).1=x2
   generalize (bD r s g h).2=y2
   rw[Ma.bN]
   have a1:=ip (X:=X) (Y:=Y) (p:=x1) (q:=y1) (e:=x2) (f:=y2) ht hb
   have a2:=ip (X:=X) (Y:=Y) (p:=x2) (q:=y2) (e:=x1) (f:=y1) ht hb
   have l1:=Ma.aR (a:=x2) (b:=y2) (c:=x1) (d:=y1)
   by_cases z1:Ma.ah (Ma.ut t b X 1 x1) (Ma.ut t b Y 1 y1) (Ma.ut t b X 1 x2) (Ma.ut t b Y 1 y2)
   ·rw[if_pos z1]
    rw[a1]at z1
    rw[if_neg (by rw[l1];omega),if_neg (by omega)]
    rfl
   ·rw[if_neg z1]
    rw[a1]at z1
    by_cases z2:Ma.ah (Ma.ut t b X 1 x2) (Ma.ut t b Y 1 y2) (Ma.ut t b X 1 x1) (Ma.ut t b Y 1 y1)
    ·rw[if_pos z2]
     rw[a2]at z2
     rw[if_pos (by rw[l1];omega)]
     rfl
    ·rw[if_neg z2]
     rw[a2]at z2
     rw[if_neg (by rw[l1];omega),if_pos (by omega)]
     rfl
  ·rw[if_neg (by simp only[Int.sign_eq_zero_iff_zero];omega),if_pos (.inl (by rw[fh];omega)),if_pos (.inl hG)]
   rfl
 ·rw[if_neg (by simp only[Int.sign_eq_zero_iff_zero];omega),if_neg hW]
  by_cases hc:0<Int.sign G*Int.sign (G+W)\/0<Int.sign H*Int.sign (H-W)
  ·rw[if_pos hc]
   rw[fh,fh]at hc
   rw[if_pos]
   ·rfl
   ·by_cases hn:W<0
    ·rw[if_pos hn,if_pos hn];omega
    ·rw[if_neg hn,if_neg hn];omega
  ·rw[if_neg hc]
   rw[fh,fh]at hc
   rw[if_neg]
   ·show D.tup _=D.tup _
    have hWa:0<(W.natAbs:Int):=by omega
    have hWr:(W:Rat)≠0:=fun z=>hW (by have:=Rat.intCast_inj (a:=W) (b:=0);exact this.mp z)
    have hN:((W.natAbs:Int):Rat)≠0:=fun z=>by have:=(Rat.intCast_inj (a:=(W.natAbs:Int)) (b:=0)).mp z;omega
    have co:∀(Z a g' e' r':Int),W*(e'-a)=H*(r'-a)+G*(g'-e')->
     btw (Ma.ut t b Z 1 e') (Ma.ut t b Z 1 g') ((t:Rat)/b*((t:Rat)/b)*(G:Rat)/((t:Rat)/b*((t:Rat)/b)*(G:Rat)-(t:Rat)/b*((t:Rat)/b)*((G+W:Int):Rat))) =
      Ma.ut t b Z (W.natAbs:Int) (a*(W.natAbs:Int)+(if W<0 then -H else H)*(r'-a)):=fun Z a g' e' r' id=>by
     have idq:(W:Rat)*((e':Rat)-a)=H*((r':Rat)-a)+G*((g':Rat)-e'):=by
      have:=congrArg (fun z:Int=>(z:Rat)) id
      simpa[Rat.intCast_add,GO,Hg]using this
     rw[dN hb,dN hb,vE hb hWa,Rat.intCast_add,BN (by grind) hWr idq,Rat.intCast_add,GO,GO,Hg]
     have hq:(((if W<0 then -H else H:Int):Rat))/((W.natAbs:Int):Rat)=(H:Rat)/(W:Rat):=by
      by_cases hn:W<0
      ·rw[if_pos hn,show(W.natAbs:Int)=-W from by omega,Rat.intCast_neg,Rat.intCast_neg]
       grind
      ·rw[if_neg hn,show(W.natAbs:Int)=W from by omega]
     generalize (((if W<0 then -H else H:Int):Rat))=K at hq
     generalize ((W.natAbs:Int):Rat)=N at hq hN
     grind
    rw[co X p g e r ix,co Y q h f s iy]
   ·by_cases hn:W<0
    ·rw[if_pos hn,if_pos hn];omega
    ·rw[if_neg hn,if_neg hn];omega
theorem tM(p q e f:Int):bA e f p q=bA p q e f:=by
 unfold bA;rw[Ma.bN,Ma.bN];have l1:=Ma.aR (a:=e) (b:=f) (c:=p) (d:=q);have l2:=Ma.aR (a:=p) (b:=q) (c:=e) (d:=f);by_cases z1:HT.lexLt [e,f] [p,q]=true
 ·rw[if_pos z1,if_neg (by rw[l2];rw[l1]at z1;omega)]
 ·rw[if_neg z1];by_cases z2:HT.lexLt [p,q] [e,f]=true
  ·rw[if_pos z2]
  ·rw[if_neg z2];rw[l1]at z1;rw[l2]at z2;obtain⟨rfl,rfl⟩:e=p/\f=q:=by omega
   rfl
theorem sA(r s g h:Int):bD g h r s=bD r s g h:=by
 unfold bD;have l1:=Ma.aR (a:=r) (b:=s) (c:=g) (d:=h);have l2:=Ma.aR (a:=g) (b:=h) (c:=r) (d:=s);by_cases z1:HT.lexLt [r,s] [g,h]=true
 ·rw[if_pos z1,if_neg (by rw[l2];rw[l1]at z1;omega)]
 ·rw[if_neg z1];by_cases z2:HT.lexLt [g,h] [r,s]=true
  ·rw[if_pos z2]
  ·rw[if_neg z2];rw[l1]at z1;rw[l2]at z2;obtain⟨rfl,rfl⟩:g=r/\h=s:=by omega
   rfl
theorem qO(x:Str):Ff (.str x) (.str x)=true:=by simp[Ff]
theorem lX:PyData.strOk (F9 "spot")=true:=by decide +kernel
theorem pG:PyData.strOk (F9 "stretch")=true:=by decide +kernel
theorem jv{n:Nat}{a b c d:Int}(ha:Bd n a)(hb:Bd n b)(hc:Bd n c)(hd:Bd n d):Bd (n+n+1) (crs a b c d):=(ha.mul hd).sub (hb.mul hc)
theorem vI{n:Nat}{i:Int}(h:Bd n i):Bd n (i.natAbs:Int):=h.of_le (by simp)
theorem qh{p q r s e f g h:Int}(hp:Bd 6 p)(hq:Bd 6 q)(hr:Bd 6 r)(hs:Bd 6 s)(he:Bd 6 e)(hf:Bd 6 f)(hg:Bd 6 g)(hh:Bd 6 h) :
 d5 p q r s e f g h=.non\/(∃x y m,d5 p q r s e f g h=.tup [.int x,.int y,.int m]/\Bd 30 x/\Bd 30 y/\Bd 30 m/\0<m)\/
  ∃x y u v,d5 p q r s e f g h=.tup [.tup [.int x,.int y],.tup [.int u,.int v]]/\Bd 6 x/\Bd 6 y/\Bd 6 u/\Bd 6 v:=by
 have mx:Bd 6 (bA p q e f).1/\Bd 6 (bA p q e f).2:=by
  unfold bA
  split
  ·exact⟨he,hf⟩
  ·exact⟨hp,hq⟩
 have mn:Bd 6 (bD r s g h).1/\Bd 6 (bD r s g h).2:=by
  unfold bD
  split
  ·exact⟨hg,hh⟩
  ·exact⟨hr,hs⟩
 have bw:=jv (hr.sub hp) (hs.sub hq) (hg.sub he) (hh.sub hf)
 have bk:=jv (he.sub hp) (hf.sub hq) (hg.sub he) (hh.sub hf)
 unfold d5
 dsimp only
 generalize crs (r-p) (s-q) (g-e) (h-f)=W at bw
 generalize crs (e-p) (f-q) (g-e) (h-f)=K at bk
 by_cases hW:W=0
 ·rw[if_pos hW]
  split
  ·exact .inl rfl
  ·split
   ·exact .inr (.inl ⟨_,_,_,rfl,mx.1.mono (by decide),mx.2.mono (by decide),by decide,by decide⟩)
   ·exact .inr (.inr ⟨_,_,_,_,rfl,mx.1,mx.2,mn.1,mn.2⟩)
 ·rw[if_neg hW]
  have bk':Bd 15 (if W<0 then -K else K):=by
   split
   ·exact bk.neg
   ·exact bk
  have ba:=vI bw
  generalize (if W<0 then -K else K)=k at bk'
  generalize (if W<0 then -crs (e-p) (f-q) (r-p) (s-q)else crs (e-p) (f-q) (r-p) (s-q))=m
  by_cases hc:min k m<0\/(W.natAbs:Int)<max k m
  ·rw[if_pos hc]
   exact .inl rfl
  ·rw[if_neg hc]
   refine .inr (.inl ⟨_,_,_,rfl,?_,?_,ba.mono (by decide),by omega⟩)
   ·exact(((hp.mul ba).mono (show 6+15<=22 by decide)).add ((bk'.mul (hr.sub hp)).mono (show 15+7<=22 by decide))).mono (by decide)
   ·exact(((hq.mul ba).mono (show 6+15<=22 by decide)).add ((bk'.mul (hs.sub hq)).mono (show 15+7<=22 by decide))).mono (by decide)
theorem lH(z:Rat):Ma.sgn z=1\/Ma.sgn z=-1\/Ma.sgn z=0:=by
 unfold Ma.sgn;split
 ·exact .inl rfl
 ·split
  ·exact .inr (.inl rfl)
  ·exact .inr (.inr rfl)
theorem Av(z:Rat):Bd 64 (Ma.sgn z):=by rcases lH z with h|h|h<;>rw[h]<;>decide
theorem max_list(p q e f:Int):(if HT.aU [e,f] [p,q]=true then[e,f]else[p,q])=[(bA p q e f).1,(bA p q e f).2]:=by unfold bA;split<;>rfl
theorem min_list(r s g h:Int):(if HT.lexLt [g,h] [r,s]=true then[g,h]else[r,s])=[(bD r s g h).1,(bD r s g h).2]:=by unfold bD;split<;>rfl
end SD
namespace HT
open PySem PyProof.Rows
def c9:List Int->List Int->Bool
 |[],[]=>true
 |[],_::_=>false
 |_::_,[]=>true
 |x::xs,y::ys=>if x=y then c9 xs ys else decide (y<=x)
theorem ph(x y:Int)(xs ys:List Int):c9 (x::xs) (y::ys)=if x=y then c9 xs ys else decide (y<=x):=rfl
theorem j3:c9 [] []=true:=rfl
theorem jU(y:Int)(ys:List Int):c9 [] (y::ys)=false:=rfl
theorem jA(x:Int)(xs:List Int):c9 (x::xs) []=true:=rfl
theorem vP(A:EX)(s:E3)(a:Int)(t:Tok)(c:Int)(u:Tok)(prog:EF)(w:EZ)(E:E2->E3->Prop)(Q:E2->E3->Prop)(h:Q (.bool (decide (c<=a))) s) : E8 (ED prog w) A (richCompare .GtE (.int a t) (.int c u)) Q E s:=(PyProof.Rows.ge_int h:E8 (ED prog w) A (Fm .GtE (.int a t) (.int c u)) Q E s)
section
open PySem.SeqAt
open PySem.AutoSeq1 (wpAny_loadPart')
open PySem.MeetsSeq PySem.MeetsSeq2 PySem.MeetsSeq3
theorem jY(l b:Addr)(items items2:Array E2)(n n2:Nat)(dd dd2:Option Addr)(sl sl2:Array (Option E2))(ns ms:List Int)(hi:Gb items.toList ns)(hj:Gb items2.toList ms) :
 Meets (Hm.«tuple.__ge__» ⟨[.ref l,.ref b],[]⟩)
  (fun _ R s=>s.heap.get? l=some { cls:=.type "tuple",dict:=dd,data:=.seq items n,slots:=sl }/\s.heap.get? b=some { cls:=.type "tuple",dict:=dd2,data:=.seq items2 n2,slots:=sl2 }/\
   R (.ok (.ret (.bool (c9 ns ms)))) s):=
 .of_wp fun prog w A R s h=>by
  obtain⟨hp,g,d,tk,os⟩:=s;obtain⟨hl,hb,h⟩:=h
  have f2:=AutoSeq1.sub_tuple_tuple
  have z1:items.size=ns.length:=by rw[<-hi.length];simp
  have z2:items2.size=ms.length:=by rw[<-hj.length];simp
  wp_walk using Gv hl,Gv hb,wpAny_forIn_list _ (fun rest b s'=>b.1=none/\s'=⟨hp,g,d,tk,os⟩/\∃(vs ws:List E2) (ns' ms':List Int),rest=vs.zip ws/\
   Gb vs ns'/\Gb ws ms'/\ns'.length+items2.size=ms'.length+items.size/\R (.ok (.ret (.bool (c9 ns' ms')))) ⟨hp,g,d,tk,os⟩) _
  case turn=>
   rintro⟨y,x⟩ rest b s' ⟨hb',rfl,vs,ws,ns',ms',hz,hvi,hwi,hlen,hR⟩
   cases hvi with
   |nil=>rw[List.zip_nil_left]at hz;cases hz
   |cons a t hvi'=>
    cases hwi with
    |nil=>rw[List.zip_nil_right]at hz;cases hz
    |cons c u hwi'=>
     rw[GA]at hz
     injection hz with hyx hrest
     injection hyx with hy hx
     subst hy hx
     rw[ph]at hR
     simp only[F8]at hlen
     obtain⟨e,he,hiff⟩:=i8 A.in1 ⟨hp,g,d,tk,os⟩ a t c u
     refine cc (he prog w _ _ ?_)
     cases e with
     |true=>
      rw[if_pos (hiff.mp rfl)]at hR
      wp_walk
      exact⟨rfl,rfl,_,_,_,_,hrest,hvi',hwi',by omega,hR⟩
     |false=>
      rw[if_neg (fun q=>absurd (hiff.mpr q) ET)]at hR
      have hri:=vP A.in1 ⟨hp,g,d,tk,os⟩ a t c u prog w
      wp_walk using hri
      exact⟨_,rfl,by simpa using hR⟩
  case fin=>
   rintro⟨b1,b2⟩ s' ⟨hb',rfl,vs,ws,ns',ms',hz,hvi,hwi,hlen,hR⟩
   simp only at hb'
   subst hb'
   have hv:c9 ns' ms'=decide (items.size≥items2.size):=by
    cases hvi with
    |nil=>
     cases hwi with
     |nil=>
      simp only[Gd]at hlen
      rw[j3]
      exact(decide_eq_true (by omega)).symm
     |cons c u hw=>
      simp only[Gd,F8]at hlen
      rw[jU]
      exact(decide_eq_false (by omega)).symm
    |cons a t hv=>
     cases hwi with
     |nil=>
      simp only[Gd,F8]at hlen
      rw[jA]
      exact(decide_eq_true (by omega)).symm
     |cons c u hw=>
      rw[GA]at hz
      cases hz
   rw[hv]at hR
   wp_walk
   exact⟨_,rfl,by simpa[Builtin.Tuple.tupleCompareSizes]using hR⟩
  case h=>
   exact⟨rfl,rfl,items.toList,items2.toList,ns,ms,rfl,hi,hj,by omega,h⟩
end
section
variable{prog:EF}{w:EZ}{A:EX}{E:E2->E3->Prop}{s:E3}
theorem pd{l b:Addr}{items items2:Array E2}{ns ms:List Int}{Q:E2->E3->Prop}(hl:IsTup s.heap l items)(hb:IsTup s.heap b items2)(hi:Gb items.toList ns)(hj:Gb items2.toList ms) (hu:A.units<FQ) (h:Q (.bool (c9 ns ms)) s):E8 (ED prog w) A (Fm .GtE (.ref l) (.ref b)) Q E s:=by obtain⟨⟨cls,dd,data,sl⟩,ho,hc,n,hd⟩:=id hl;obtain⟨⟨cls2,dd2,data2,sl2⟩,ho2,hc2,n2,hd2⟩:=id hb;simp only at hc hd hc2 hd2;subst hc hd hc2 hd2;exact richCompare_meets_room (op:=.GtE) ⟨_,ho,rfl⟩ ⟨_,ho2,rfl⟩ PySem.F.slot_tuple_ge PySem.F.entry_tuple_ge (PySem.F.args_tuple_ge_2 _ _) (jY l b items items2 n n2 dd dd2 sl sl2 ns ms hi hj) ⟨ho,ho2,show FY (c9 ns ms)≠Value.notImplemented/\Q (.bool (c9 ns ms)) s from⟨(fun x=>nomatch x),h⟩⟩ hu
end
end HT
namespace SD
open PySem PySem.Spec PyProof.Rows L2
section
variable{X:Cx}
theorem Ae(hu:X.A.units<FQ):OpR X (Fm .GtE) (fun x y H Q=>∃a b ns ms,x=.ref a/\y=.ref b/\SqT X.K H a (ns.map V.int)/\SqT X.K H b (ms.map V.int)/\Q (.bl (HT.c9 ns ms)) H):=by intro pins s σ H x y v u Q I rx ry h;obtain⟨a,b,ns,ms,rfl,rfl,ha,hb,q⟩:=h;cases rx;cases ry;obtain⟨its,r1,p1,_⟩:=I.tuple ha;obtain⟨its2,r2,p2,_⟩:=I.tuple hb;exact HT.pd p1 p2 (intsAre_of r1) (intsAre_of r2) hu ⟨.bl (HT.c9 ns ms),H,I,rfl,q⟩
theorem Az(hu:X.A.units+64<FQ):OpD X (Fm .GtE) (oZ (fun i j=>decide (j<=i)) HT.c9):=ux CD (Ae (by omega))
def Es(g:Bool->Bool):R2D:=fun x y M Q=>∃p ps,Pd M x p/\(Pd M y (.list ps)\/Pd M y (.tuple ps))/\G2 p=true/\G5 ps=true/\Q (.bl (g (ps.any fun q=>Ff q p))) M
theorem qo{p:GZ}{n:Nat}(h:G2 p=true):min n p.depth<=63+1:=Fh (Nat.min_le_right _ _) (SeqAt.depth_of_shaped h)
theorem uj(hu:X.A.units+66<FQ):OpD X (Fm .NotIn) (Es fun b=>!b):=by
 intro pins s σ H v u v' u' Q I rv ru h;obtain⟨x,y,M,R,r1,r2,a,⟨p,ps,p1,p2,s1,s2,hq⟩,fin⟩:=h;obtain⟨as,q1⟩:=cJ I a p1 r1 rv;have hm:=qo (n:=Gy ps) s1;rcases p2 with p2|p2
 ·obtain⟨bs,q2⟩:=cJ I a p2 r2 ru;exact SeqAt.notIn_list_reads q2 q1 s2 (SeqAt.canLay_of_shaped s1) (by omega) ⟨.bl _,H,I,rfl,fin _ _ _ _ .refl (by rw[Rep]) a hq⟩
 ·obtain⟨bs,q2⟩:=cJ I a p2 r2 ru;exact SeqAt.notIn_tuple_reads q2 q1 s2 (SeqAt.canLay_of_shaped s1) (by omega) ⟨.bl _,H,I,rfl,fin _ _ _ _ .refl (by rw[Rep]) a hq⟩
theorem jW:∀{bs:List Bool} {us:List E2},Vals (bs.map V.bl) us->us=bs.map FY
 |[],_,.nil=>rfl
 |b::bs,_,.cons r t=>by
  cases (show _=FY b from r)
  rw[jW t];rfl
def Ca(to:TD)(t:TAD):TD:=fun δ M Q=>to δ M fun x M1=>∃l ys,x=.ref l/\M1 l=some (.lst ys)/\t δ M1 fun ds M2=>∃xs d,ds=[d]/\M2 l=some (.lst xs)/\xs.length<1000000/\Q .non (ax M2 l (.lst (xs++[d])))
variable{o e:Expr}{to:TD}{t:TAD}{apos cpos:Pos}
theorem dA(ho:DE X o to)(ha:DA X [e] t)
 (hbase:attributeBase o "append" X.env (eval o X.env)=eval o X.env:=by rfl)
 (hfew:((G6 cpos (EH [e] X.env)).all (fun x=>!x.1)&&(backToKw cpos (keywordEach [] X.env)).all (fun x=>x.1.isSome)
  && decide ([e].length+([]:List Keyword).length+(if([]:List Keyword).isEmpty then 0 else 1)<30))=true:=by rfl)
 (hline:(apos.endLine==cpos.line)=true:=by rfl) (hs:EH [e] X.env=(false,eval e X.env)::EH [] X.env:=by rfl) (hplain:(G6 cpos (EH [] X.env)).any (·.1)=false:=by rfl) :
 DE X (.Call (.Attribute o "append" apos) [e] [] cpos) (Ca to t):=
 aV (xb PySem.F.plainAttrs_list PySem.F.slot_list_append PySem.F.type_list_append kL ho ha hbase hfew hline hs hplain) fun σ H Q z9=>by
  obtain⟨δ,M,R,hsl,hM,q,fin⟩:=z9
  refine⟨δ,M,_,hsl,hM,q,fun x M1 v H1 g1 r1 a1 zz1_0=>?_⟩
  obtain⟨l,ys,ex,hl,q1⟩:=zz1_0
  subst ex
  rw[Rep]at r1
  subst r1
  obtain⟨vs,hvs,_⟩:=a1 _ _ hl
  refine⟨.inl ⟨rfl,vs,SqL.of hvs⟩,δ,M1,_,hsl.mono g1,a1,q1,fun ds M2 us H2 g2 r2 a2 zz2_0=>?_⟩
  obtain⟨xs,d,ed,hx,hn,q2⟩:=zz2_0
  subst ed
  obtain⟨u,rfl,ru⟩:=bF r2
  obtain⟨ws,hws,rws⟩:=a2 _ _ hx
  have hlen:=rws.length
  refine⟨l,ws,u,rfl,rfl,hws,EK (by omega) (show 1000000<=ER from nbL rfl),?_⟩
  exact fin _ _ _ _ (g1.trans (g2.trans (.lst hws))) (by rw[Rep]) (a2.xZ hws (rws.append (.cons ru .nil))) q2
end
theorem lY{k:Nat}{A:EX}(r:Room k A):A.units+66<FQ:=by have:=r.un;omega
abbrev Wl:=Int×Int×Int×Int
def la(x y:Int):Int:=100*x+y
def l1(w:Wl):Int:=la w.1 w.2.1
def l2(w:Wl):Int:=la w.2.2.1 w.2.2.2
structure Un5(w:Wl):Prop where
 a:0<=w.1/\w.1<=20
 b:0<=w.2.1/\w.2.1<=20
 c:0<=w.2.2.1/\w.2.2.1<=20
 d:0<=w.2.2.2/\w.2.2.2<=20
 lt:l1 w<l2 w
theorem zE{a b c d:Int}(hb:0<=b/\b<=20)(hd:0<=d/\d<=20):HT.lexLt [a,b] [c,d]=decide (la a b<la c d):=by have h:=Ma.aR (a:=a) (b:=b) (c:=c) (d:=d);rw[Bool.eq_iff_iff,h,decide_eq_true_eq];unfold la;omega
theorem Cf{a b c d:Int}(hb:0<=b/\b<=20)(hd:0<=d/\d<=20):HT.aU [a,b] [c,d]=decide (la c d<la a b):=by rw[Ma.bN,zE hd hb]
theorem Dh{x y u v:Int}(h1:0<=y/\y<=20)(h2:0<=v/\v<=20):(x=u/\y=v)↔la x y=la u v:=by unfold la;omega
theorem rV{I:ItD}{tk:Tgt}{js:List Nat}{tc:TTD}{te:TD}{δ:DS}{M1:MH}{Q:DK}(f:Nat->Option D)(hn:I.n<=1000000)(hC:∀p ys,M1 p=none->I.C (ax M1 p (.lst ys))) (h:∀i d M,i<I.n->I.item i=some d->Sub M1 M->∃os,vQ tk d os/\(∀K:Bool->MH->Prop,K (f i).isSome M->tc (cδ os js δ) M K)/\∀e,f i=some e->∀K:DK,(∀M',Sub M M'->K e M')->te (cδ os js δ) M K) (hq:∀p,M1 p=none->Q (.ref p) (ax M1 p (.lst ((Fl I.n).filterMap f)))):vb I tk js tc te δ M1 Q:=by
 refine⟨hn,fun p hp=>⟨fun i ys M=>ys=(Fl i).filterMap f/\M=ax M1 p (.lst ys),⟨rfl,rfl⟩,?_,?_,?_⟩⟩
 ·rintro i ys M _ ⟨_,rfl⟩;exact hC p ys hp
 ·rintro i ys d M hi hd ⟨rfl,rfl⟩;obtain⟨os,ow,kt,ke⟩:=h i d _ hi hd (.new hp .refl);refine⟨os,ow,kt _ ?_⟩;cases e:f i with
  |none=>
   refine dQ rfl ⟨_,.refl,?_,?_⟩
   ·rw[List.range_succ,List.filterMap_append];simp[e]
   ·rfl
  |some v=>
   refine gz rfl (ke v e _ fun M' s'=>⟨_,s',ai,?_,by rw[b5]⟩)
   rw[List.range_succ,List.filterMap_append];simp[e]
 ·rintro ys M ⟨rfl,rfl⟩;exact hq p hp
def uwP(w:Wl):GZ:=.tuple [.tuple [.int w.1,.int w.2.1],.tuple [.int w.2.2.1,.int w.2.2.2]]
theorem pY{M:MH}:∀ws:List Wl,Pds M (ws.map uw) (ws.map uwP)
 |[]=>.nil
 |w::ws=>.cons (Pd.of rfl) (pY ws)
theorem uG:∀ws:List Wl,G5 (ws.map uwP)=true
 |[]=>rfl
 |w::ws=>by rw[EJ,G5,uG ws];rfl
theorem wV:∀ws:List Wl,Gy (ws.map uwP)<=10
 |[]=>nbL rfl
 |w::ws=>by
  rw[EJ,Gy]
  exact Nat.max_le.mpr ⟨nbL rfl,wV ws⟩
theorem kH(ws:List Wl):G2 (.list (ws.map uwP))=true:=by unfold G2;have h1:=uG ws;have h2:=wV ws;rw[FF];refine⟨by rw[PyData.canLay0];exact h1,decide_eq_true ?_⟩;rw[PyData.depth];omega
theorem jx:∀ws:List Wl,Ff (.list (ws.map uwP)) (.list [])=ws.isEmpty
 |[]=>by simp[Ff,FP]
 |w::ws=>by simp[Ff,FP]
theorem wG{w:Wl}(h:Un5 w){v:Int}(h0:0<=v)(h1:v<2):∃x y,atI [D.tup [.int w.1,.int w.2.1],.tup [.int w.2.2.1,.int w.2.2.2]] v=some (.tup [.int x,.int y])/\(0<=x/\x<=20)/\(0<=y/\y<=20):=by
 rcases(show v=0\/v=1 by omega)with rfl|rfl
 ·exact⟨_,_,rfl,h.a,h.b⟩
 ·exact⟨_,_,rfl,h.c,h.d⟩
theorem qQ{ws:List Wl}{v:Int}(h0:0<=v)(h1:v<ws.length):∃w,w∈ws/\atI (ws.map uw) v=some (uw w):=by
 obtain⟨j,rfl⟩:∃j:Nat,v=(j:Int):=⟨v.toNat,by omega⟩;have hj:j<ws.length:=by omega
 exact⟨ws[j],List.getElem_mem hj,iQ (by simp[hj])⟩
theorem sQ{p q e f:Int}(hp:0<=p/\p<=20)(hq:0<=q/\q<=20)(he:0<=e/\e<=20)(hf:0<=f/\f<=20)(ne:¬(p=e/\q=f)) :
 ∃w:Wl,(if HT.lexLt [e,f] [p,q]=true then[e,f]else[p,q])=[w.1,w.2.1]/\(if HT.aU [e,f] [p,q]=true then[e,f]else[p,q])=[w.2.2.1,w.2.2.2]/\Un5 w:=by
 rw[zE hf hq,Cf hf hq]
 have nl:la p q≠la e f:=fun z=>ne ((Dh hq hf).mpr z)
 by_cases h:la e f<la p q
 ·exact⟨(e,f,p,q),by rw[if_pos (decide_eq_true h)],by rw[if_neg (by simp;omega)],⟨he,hf,hp,hq,h⟩⟩
 ·have h':la p q<la e f:=by omega
  exact⟨(p,q,e,f),by rw[if_neg (by simpa using h)],by rw[if_pos (decide_eq_true h')],⟨hp,hq,he,hf,h'⟩⟩
section
variable{X:Cx}
def fP{α:Type}(xs:List α)(j:Nat)(y:α):List α:=xs.take j++y::xs.drop j
def ze:V->List V->Hp->VK->Prop:=fun x vs H Q=>∃l xs y,∃(k:Int) (j:Nat),x=.ref l/\vs=[.int k,y]/\k=(j:Int)/\H l=some (.lst xs)/\j<=xs.length/\xs.length<1000000/\Q .non (upd H l (.lst (fP xs j y)))
theorem xF(its:List E2)(k:Int)(j:Nat)(u:E2)(hk:k=(j:Int))(hj:j<=its.length) :
 (its.toArray.extract 0 (if k<0 then(k+((its.toArray.size:Nat):Int)).toNat else min k.toNat its.toArray.size)).push u++its.toArray.extract (if k<0 then(k+((its.toArray.size:Nat):Int)).toNat else min k.toNat its.toArray.size)=(fP its j u).toArray:=by
 have e:(if k<0 then(k+((its.toArray.size:Nat):Int)).toNat else min k.toNat its.toArray.size)=j:=by
  rw[if_neg (by omega),EI];omega
 rw[e]
 apply Array.toList_inj.mp
 simp[fP]
 exact List.take_of_length_le (by simp)
theorem t9:MtM X "list.insert" ze:=by
 intro pins s σ H x vs v us Q I rx rv z0;obtain⟨l,xs,y,k,j,ex,ev,hk,hH,hj,hz,q⟩:=z0;subst ex ev;cases rx;obtain⟨u1,u2,rfl,r1,r2⟩:=rv.two;obtain⟨t,rfl⟩:=r1;obtain⟨z,its,n,r,hl,e⟩:=I.kh hH;have fits:Builtin.List.listFitsIndex k=true:=by unfold Builtin.List.listFitsIndex;simp;omega
 have hsz:its.toArray.size<=ER:=by rw[EI,<-hl];exact z
 refine call_meets PySem.F.slot_list_insert ⟨_,e,rfl⟩ PySem.F.entry_list_insert (PySem.F.args_list_insert_3 _ _ _) (PySem.AutoSeq1.list_insert_list_int_val_1 l its.toArray n k t u2 (by rw[fits];decide) hsz) ⟨e,?_⟩;refine⟨.non,_,I.CC (its':=fP its j u2) hH e (xF its k j u2 hk (by omega)) ((Vals.take j r).append (.cons r2 (Vals.drop j r))) ?_,rfl,q⟩;show(xs.take j++y::xs.drop j).length<=ER;simp only[Gh,FJ,F8,List.length_drop];have:1000000<=ER:=nbL rfl;omega
def Dp(to:TD)(t:TAD):TD:=fun δ M Q=>to δ M fun x M1=>∃l ys,x=.ref l/\M1 l=some (.lst ys)/\t δ M1 fun ds M2=>∃xs d,∃j:Nat,ds=[.int (j:Int),d]/\M2 l=some (.lst xs)/\j<=xs.length/\xs.length<1000000/\Q .non (ax M2 l (.lst (fP xs j d)))
variable{o e1 e2:Expr}{to:TD}{t:TAD}{apos cpos:Pos}
theorem iE(ho:DE X o to)(ha:DA X [e1,e2] t)
 (hbase:attributeBase o "insert" X.env (eval o X.env)=eval o X.env:=by rfl)
 (hfew:((G6 cpos (EH [e1,e2] X.env)).all (fun x=>!x.1)&&(backToKw cpos (keywordEach [] X.env)).all (fun x=>x.1.isSome)
  && decide ([e1,e2].length+([]:List Keyword).length+(if([]:List Keyword).isEmpty then 0 else 1)<30))=true:=by rfl)
 (hline:(apos.endLine==cpos.line)=true:=by rfl) (hs:EH [e1,e2] X.env=(false,eval e1 X.env)::EH [e2] X.env:=by rfl) (hplain:(G6 cpos (EH [e2] X.env)).any (·.1)=false:=by rfl) :
 DE X (.Call (.Attribute o "insert" apos) [e1,e2] [] cpos) (Dp to t):=
 aV (xb PySem.F.plainAttrs_list PySem.F.slot_list_insert PySem.F.type_list_insert t9 ho ha hbase hfew hline hs hplain) fun σ H Q z9=>by
  obtain⟨δ,M,R,hsl,hM,q,fin⟩:=z9
  refine⟨δ,M,_,hsl,hM,q,fun x M1 v H1 g1 r1 a1 zz1_0=>?_⟩
  obtain⟨l,ys,ex,hl,q1⟩:=zz1_0
  subst ex
  rw[Rep]at r1
  subst r1
  obtain⟨vs,hvs,_⟩:=a1 _ _ hl
  refine⟨.inl ⟨rfl,vs,SqL.of hvs⟩,δ,M1,_,hsl.mono g1,a1,q1,fun ds M2 us H2 g2 r2 a2 zz2_0=>?_⟩
  obtain⟨xs,d,j,ed,hx,hj,hn,q2⟩:=zz2_0
  subst ed
  obtain⟨u1,u2,rfl,ru1,ru2⟩:=dJ r2
  rw[Rep]at ru1
  subst ru1
  obtain⟨ws,hws,rws⟩:=a2 _ _ hx
  have hlen:=rws.length
  exact⟨l,ws,u2,_,j,rfl,rfl,rfl,hws,by omega,by omega,fin _ _ _ _ (g1.trans (g2.trans (.lst hws))) (by rw[Rep]) (a2.xZ hws ((rws.take j).append (.cons ru2 (rws.drop j)))) q2⟩
def vm:RC:=fun ds M Q=>match ds with
 |[.ref l]=>∃xs,M l=some (.lst xs)/\∀p,M p=none->Q (.ref p) (ax M p (.lst xs))
 |[.tup xs]=>∀p,M p=none->Q (.ref p) (ax M p (.lst xs))
 |_=>False
theorem yy:cu X (.type "list") vm:=bI mG fun vs H Q z9=>by
 obtain⟨ds,M,R,rs,a,q,fin⟩:=z9;unfold vm at q;split at q
 ·obtain⟨ys,e,q⟩:=q;obtain⟨v,rfl,r⟩:=bF rs;rw[Rep]at r;subst r;obtain⟨xs,hx,rx⟩:=a _ _ e;exact⟨_,xs,rfl,.inl (SqL.of hx),fun z hz=>fin _ _ _ _ (.new hz) (by rw[Rep]) (a.km hz rx) (q z (a.fresh hz))⟩
 ·obtain⟨v,rfl,r⟩:=bF rs;rw[Rep]at r;obtain⟨p,xs,rfl,hx,rx⟩:=r;exact⟨_,xs,rfl,.inr hx,fun z hz=>fin _ _ _ _ (.new hz) (by rw[Rep]) (a.km hz rx) (q z (a.fresh hz))⟩
 ·exact q.elim
end
theorem iD{ps:List GZ}(h1:G5 ps=true)(h2:Gy ps<=10):G2 (.list ps)=true:=by unfold G2;rw[FF];refine⟨by rw[PyData.canLay0];exact h1,decide_eq_true ?_⟩;rw[PyData.depth];omega
theorem nB{α β:Type}(g:α->Option β):∀l:List α,(Fl l.length).filterMap (fun i=>(l[i]?).bind g)=l.filterMap g:=by
 intro l
 induction l with
 |nil=>rfl
 |cons a l ih=>
  rw[F8,List.range_succ_eq_map,G4,G4,List.filterMap_map]
  have e:((fun i=>((a::l)[i]?).bind g)∘Nat.succ)=fun i=>(l[i]?).bind g:=by funext i;simp
  rw[e,ih]
  simp
def frP(q:Rat):GZ:=.tuple [.int q.num,.int (q.den:Int)]
def rwP(t b x y:Int)(w:Wl):GZ:=.tuple [.tuple [frP (Ma.ut t b x 1 w.1),frP (Ma.ut t b y 1 w.2.1)],.tuple [frP (Ma.ut t b x 1 w.2.2.1),frP (Ma.ut t b y 1 w.2.2.2)]]
theorem uL(t b x y:Int)(w:Wl):Ff (rwP t b x y w) (rwP t b x y w)=true:=by simp[rwP,frP,Ff,FP]
theorem pU{M:MH}(t b x y:Int):∀ws:List Wl,Pds M (ws.map (rwl t b x y)) (ws.map (rwP t b x y))
 |[]=>.nil
 |w::ws=>.cons (Pd.of rfl) (pU t b x y ws)
theorem qk(t b x y:Int):∀ws:List Wl,G5 (ws.map (rwP t b x y))=true
 |[]=>rfl
 |w::ws=>by rw[EJ,G5,qk t b x y ws];rfl
theorem pQ(t b x y:Int):∀ws:List Wl,Gy (ws.map (rwP t b x y))<=10
 |[]=>nbL rfl
 |w::ws=>by
  rw[EJ,Gy]
  exact Nat.max_le.mpr ⟨nbL rfl,pQ t b x y ws⟩
theorem lg(t b x y:Int):∀ws:List Wl,FP (ws.map (rwP t b x y)) (ws.map (rwP t b x y))=true
 |[]=>by simp[FP]
 |w::ws=>by rw[EJ,FP,uL,lg t b x y ws];rfl
theorem BY(t b x y:Int)(ws:List Wl)(M:MH)(p p':Addr)(Q:DK)(h1:M p=some (.lst (ws.map (rwl t b x y))))(h2:M p'=some (.lst (ws.map (rwl t b x y))))(q:Q (.bl false) M):zq (.ref p) (.ref p') M Q:=by
 refine⟨_,_,.lst h1 (pU t b x y ws),.lst h2 (pU t b x y ws),iD (qk ..) (pQ ..),iD (qk ..) (pQ ..),?_⟩;have e:Ff (.list (ws.map (rwP t b x y))) (.list (ws.map (rwP t b x y)))=true:=by simp only[Ff,lg]
 rw[e];exact q
section
variable{X:Cx}{pins:List (Addr×Obj)}{σ:L2.St}{H:Hp}{s:E3}
theorem pZ{h':Heap}{t':Nat}{e it:Addr}(I:Inv X pins σ H s)(k:∀b o,b≠e->b≠it->s.heap.get? b=some o->h'.get? b=some o)(fe:cI X pins H e)(fi:cI X pins H it):Inv X pins σ H { s with heap:=h',toks:=t' }:=by
 obtain⟨e0,e1,_,e3,e4,e5⟩:=fe;obtain⟨i0,i1,_,i3,i4,i5⟩:=fi;have ne:∀b u,H b=some u->b≠e/\b≠it:=fun b u q=>⟨fun z=>(by rw[z,e0]at q;cases q),fun z=>(by rw[z,i0]at q;cases q)⟩;have nc:∀{b:Addr},b∉[e,it]->b≠e/\b≠it:=fun{b} hc=>⟨fun z=>hc (by simp[z]),fun z=>hc (by simp[z])⟩;refine I.step (g':=s.gens) (d':=s.drawn) (ch:=[e,it]) (fun b hb=>?_) (fun b o _ _ hc q _=>k b o (nc hc).1 (nc hc).2 q) (fun b o _ _ hc q _=>⟨o.slots,k b o (nc hc).1 (nc hc).2 q⟩) (fun _ _ _ _ n=>n) (fun b o hc q=>⟨o,k b o (nc hc).1 (nc hc).2 q⟩) (fun _ _ q=>q) (fun _ _ _ q=>q) (fun b ps q=>⟨#[],by rw[q];simp⟩) (fun m hm=>?_) (fun b u q=>?_) I.bare
 ·rcases(show b=e\/b=it by simpa using hb)with rfl|rfl
  ·exact⟨e3,e1,e4,e5⟩
  ·exact⟨i3,i1,i4,i5⟩
 ·obtain⟨o,es,ep,ho,r⟩:=hm;exact⟨o,es,ep,k _ o (Ne.symm e1) (Ne.symm i1) ho,r⟩
 ·refine(I.hok b u q).dq (fun c v hc z=>?_) (fun _ z=>z) fun _ _ z=>z;rcases hc with y|y
  ·subst y;exact k _ v (ne _ u q).1 (ne _ u q).2 z
  ·exact k c v (ne c _ y).1 (ne c _ y).2 z
end
def Ite(K:E1)(a:Addr):It:=
 ⟨fun i H=>∃xs x,SqL K H a xs/\xs[i]?=some x,fun i H x H'=>∃T y,x=.ref T/\H T=none/\H'=upd H T (.tup [.int (i:Int),y])/\∀xs,SqL K H a xs->xs[i]?=some y,fun i H=>∃xs,SqL K H a xs/\xs.length<=i⟩
theorem sP{P:EF}{w:EZ}{K:E1}{elts:List Expr}{kt}{pt:Pos}(a e it:Addr)(hei:e≠it):Turn P w K (.Tuple elts kt pt) (Ite K a) [e,it] e (fun i h=>(∃old,IsEnum h e it (i:Int) old)/\h.IsListIter it a i) where
 mem:=by simp
 obj:=fun i h st b hb=>by
  rcases(show b=e\/b=it by simpa using hb)with rfl|rfl
  ·obtain⟨⟨old,q⟩,_⟩:=st
   exact⟨_,q,fun v z=>by
    have z':Data.fields _=Data.cell v:=z
    cases z'⟩
  ·obtain⟨o,q,c,d⟩:=st.2
   exact⟨o,q,fun v z=>by rw[d]at z;cases z⟩
 keep:=fun i h h' st k=>by
  obtain⟨⟨old,q⟩,st⟩:=st
  exact⟨⟨old,k e (by simp) _ q⟩,st.at fun o z=>k it (by simp) o z⟩
 item:=by
  intro X hP hw hK hc i pins s σ H E I hf st hg
  subst hP hw hK
  obtain⟨xs,x,hq,hx⟩:=hg
  obtain⟨its,rv,p,hz⟩:=I.list hq
  obtain⟨u,hu,ru⟩:=rv.get hx
  obtain⟨⟨old,he⟩,hit⟩:=st
  have le:e<s.heap.objs.size:=E7 he
  have li:it<s.heap.objs.size:=by obtain⟨o,q,_⟩:=hit;exact E7 q
  refine wpAny_pyNext_enum_item he hit p.isList (x:=u) (by simpa using hu) hei fun h1 ho hit1 hT hsz hk=>⟨_,rfl,wpAny_letOwnedTupleGo_enum (s:={ s with heap:=h1,toks:=s.toks+1 }) ho fun h2 he2 hs2=>?_⟩
  have hs2:Hi e h1 h2:=hs2
  have fr:=I.fresh
  have I1:Inv X pins σ (upd H s.heap.objs.size (.tup [.int (i:Int),x])) { s with heap:=s.heap.push { cls:=.type "tuple",data:=.seq #[.int (i:Int) s.toks,u] },toks:=s.toks }:=
   I.laid (fun b v q=>E4 _ q) (E9 _) ⟨nbL rfl,[.int (i:Int) s.toks,u],.cons ⟨_,rfl⟩ (.cons ru .nil),⟨_,EC _ rfl,rfl,_,rfl⟩⟩
  have fk:∀{b:Addr},b<s.heap.objs.size->cI X pins H b->cI X pins (upd H s.heap.objs.size (.tup [.int (i:Int),x])) b:=fun{b} lt f=>⟨by rw[az (EV lt)];exact f.1,f.2⟩
  have fe:=fk le (hf e (by simp))
  have fi:=fk li (hf it (by simp))
  have I2:Inv X pins σ (upd H s.heap.objs.size (.tup [.int (i:Int),x])) { s with heap:=h2,toks:=s.toks+1 }:=by
   refine pZ (s:={ s with heap:=s.heap.push { cls:=.type "tuple",data:=.seq #[.int (i:Int) s.toks,u] },toks:=s.toks }) I1 (fun b o ne ni q=>?_) fe fi
   have q:(s.heap.push { cls:=.type "tuple",data:=.seq #[.int (i:Int) s.toks,u] }).get? b=some o:=q
   refine(hs2.2 b ne).trans ?_
   rcases Heap.get?_push_cases q with⟨rfl,rfl⟩|q
   ·exact hT
   ·exact hk b o ne ni q
  refine⟨.ref s.heap.objs.size,_,I2,rfl,⟨_,x,rfl,fr,rfl,fun ys hy=>by rw[I.d0 hy hq];exact hx⟩,⟨⟨u,?_⟩,hit1.at fun o z=>(hs2.2 it hei.symm).trans z⟩,fun b hb=>?_⟩
  ·have:(((i+1:Nat):Int))=(i:Int)+1:=by omega
   rw[this];exact he2
  ·rcases(show b=e\/b=it by simpa using hb)with rfl|rfl
   ·exact fe.1
   ·exact fi.1
 done:=by
  intro X hP hw hK hc i pins s σ H E I hf st hg
  subst hP hw hK
  obtain⟨xs,hq,hx⟩:=hg
  obtain⟨its,rv,p,hz⟩:=I.list hq
  obtain⟨⟨old,he⟩,hit⟩:=st
  obtain⟨f0,f1,f2,f3,f4,f5⟩:=hf it (by simp)
  have hl:=rv.length
  exact wpAny_pyNext_enum_end (I.ok.hd hc) he hit p.isList (by simp;omega) fun h' eb=>⟨rfl,I.turned (t':=s.toks) (fun b o hb q=>eb b o hb q) f0 f1 f3 f4 f5⟩
 self:=fun _ _ _ _ _ st h=>let⟨⟨_,he⟩,_⟩:=st;wpAny_pyIter_enum he h
theorem mq:Fp "enumerate"=some (.type "enumerate"):=by decide +kernel
section
variable{X:Cx}{elts:List Expr}{kt:Nat}{pt:Pos}
def Cy(K:E1)(ta:TA):TI:=fun σ H R=>ta σ H fun vs H1=>∃a xs,vs=[.ref a]/\H1 a=some (.lst xs)/\R (Ite K a) H1
theorem xJ{a:Expr}{ta:TA}{p pos:Pos}(hg:Gl X "enumerate")(hm:X.mg "enumerate"=none)(ha:PA X [a] ta)(hs:EH [a] X.env=[(false,eval a X.env)]:=by rfl):PI X (.Tuple elts kt pt) (.Call (.Name "enumerate" p) [a] [] pos) (Cy X.K ta):=by
 intro pins s σ H R I h;refine Call_ (fx I hg hm mq (Gn (thn (ha pos pins s σ H _ I h) fun us s1 zz1_0=>?_) hs rfl));obtain⟨vs,H1,I1,r1,q1⟩:=zz1_0;obtain⟨l,xs,ev,hH,q⟩:=q1;subst ev;obtain⟨u,rfl,ru⟩:=r1.one;cases ru;obtain⟨z,its,n,r,hl,e⟩:=I1.kh hH;refine call_enumerate_1 e fun h' he hit hsz hk=>wpAny_pyIter_enum he ?_
 have fp:∀b∈[s1.heap.objs.size+1,s1.heap.objs.size],cI X pins H1 b:=fun b hb=>by
  have hb':s1.heap.objs.size<=b:=by
   rcases(show b=s1.heap.objs.size+1\/b=s1.heap.objs.size by simpa using hb)with rfl|rfl
   ·exact Nat.le_succ _
   ·exact E9 _
  exact I1.p5 hb' (I1.hok.fresh hb')
 exact⟨_,[s1.heap.objs.size+1,s1.heap.objs.size],_,_,H1,rfl,I1.kept (t':=s1.toks) hk,sP l _ _ (Nat.succ_ne_self _),⟨⟨_,he⟩,hit⟩,fp,q⟩
def CQ(ta:TAD):TID:=fun δ M R=>ta δ M fun ds M1=>∃l es,ds=[.ref l]/\M1 l=some (.lst es)/\R ⟨es.length,fun i=>(es[i]?).map fun d=>.tup [.int (i:Int),d],fun M=>M l=some (.lst es)⟩ M1
theorem xO{a:Expr}{ta:TAD}{p pos:Pos}(hg:Gl X "enumerate")(hm:X.mg "enumerate"=none)(ha:DA X [a] ta)(hs:EH [a] X.env=[(false,eval a X.env)]:=by rfl):DI X (.Tuple elts kt pt) (.Call (.Name "enumerate" p) [a] [] pos) (CQ ta):=
 jN (xJ hg hm ha hs) fun σ H R ⟨δ,M,RD,hs,hM,q,fin⟩=>⟨δ,M,_,hs,hM,q,fun ds M1 vs H1 g1 r1 a1 z9=>by
  obtain⟨l,es,e,hl,q1⟩:=z9
  subst e
  obtain⟨v,rfl,r⟩:=bF r1
  rw[Rep]at r;subst r
  obtain⟨xs,hx,rs⟩:=a1 _ _ hl
  refine⟨l,xs,rfl,hx,fin _ M1 H1 _ g1 a1 q1 ⟨fun H2 M2 g2 a2 c2=>?_,fun i H2 M2 hi g2 a2 c2=>?_,?_⟩⟩
  ·obtain⟨ys,hy,ry⟩:=a2 _ _ (show M2 l=some (.lst es)from c2)
   exact⟨ys,SqL.of hy,by rw[<-ry.length];exact E9 _⟩
  ·obtain⟨ys,hy,ry⟩:=a2 _ _ (show M2 l=some (.lst es)from c2)
   have hi':i<ys.length:=by rw[<-ry.length];exact hi
   exact⟨ys,ys[i],SqL.of hy,by simp[hi']⟩
  ·rintro i H2 M2 v H3 hi g2 a2 c2 ⟨T,y,rfl,hT,rfl,hy⟩
   have hi:i<es.length:=hi
   obtain⟨ys,hys,ry⟩:=a2 _ _ (show M2 l=some (.lst es)from c2)
   obtain⟨x,e1,e2⟩:=ry.get (show es[i]?=some es[i] by simp[hi])
   have:=hy ys (SqL.of hys)
   rw[e1]at this;cases this
   exact⟨.new hT,a2.new hT,.tup [.int (i:Int),es[i]],by simp[hi],by rw[Rep];exact⟨T,_,rfl,SqT.of ay,.cons (by rw[Rep]) (.cons (e2.mono (.new hT)) .nil)⟩⟩⟩
end
section
variable{X:Cx}
theorem oW{x:Str}{i:Int}{pos:Pos}(hg:Gl X x)(hm:∃t,X.mg x=some (.int i t))(hd:(x==("__debug__":Str))=false:=by decide):DE X (.Name x pos) (tCD (.int i)):=by obtain⟨t,hm⟩:=hm;exact dc (qH (v:=.int i) hg hm ⟨t,rfl⟩ hd) fun _=>by rw[Rep]
theorem DH{K:E1}{mg:Str->Option E2}{h:Heap}{x:Str}{i:Int}{t:Tok}(X:K.In h)(G:h.Ns EY mg)(a:Fo K EY x=some (some (.int i t))):∃t,mg x=some (.int i t):=⟨t,PySem.W.mg_of X G a⟩
theorem aB.rev{K:E1}{H:Hp}:∀{ds:List D} {xs:List V},aB K H ds xs->aB K H ds.reverse xs.reverse
 |[],_,h=>by rw[aB]at h;subst h;exact .nil
 |d::ds,_,h=>by
  rw[aB]at h
  obtain⟨x,r,rfl,h1,h2⟩:=h
  rw[List.reverse_cons,List.reverse_cons]
  exact(aB.rev h2).append (.cons h1 .nil)
variable{o:Expr}{to:TD}{apos cpos:Pos}
end
open PySem PySem.W PySem.Spec PySem.Calls PyProof.Rows Builtin Builtin.ObjectAttr Builtin.Getset_descriptor
section
variable{prog:EF}{w:EZ}{A:EX}{E:E2->E3->Prop}{h:Heap}{g:Array GenState}{d:Drawn}{t:Nat}{os:OsState}{K:Frag}{a C:Addr}{o:Obj}
structure ErrC(K:Frag)(C:Addr):Prop where
 ga:findIn K (.ref C) "__getattribute__"=some (some (.builtin "BaseException.__getattribute__"))
 gt:findIn K (.ref C) "__getattr__"=some none
 cl:findIn K (.ref C) "__class__"=some (some (.builtin "object.__class__"))
 sub:subIn K (.ref C) (.type "BaseException")=some true
 mro:mroIn K C (.type "object")=some true
theorem cY{M:Model}(hx:h.get? a=some o)(hc:o.cls=.ref C):Looks M h (typeOf (.ref a)) (.ref C):=hc▸(Looks.ld hx).andThen .now
theorem j0{R:Result->E3->Prop}{tp:E2}(X:K.In h)(Z:ErrC K C)(hx:h.get? a=some o)(hc:o.cls=.ref C)(hq:R (.ok (.ret (.ref C))) ⟨h,g,d,t,os⟩) :
 Hc (ED prog w) A (.call (.builtin "getset_descriptor.__get__") ⟨[.builtin "object.__class__",.ref a,tp],[]⟩) R ⟨h,g,d,t,os⟩:=by
 have L0:=cY (M:=ED prog w) hx hc
 have L1:=looks_mroIn (M:=ED prog w) X Z.mro
 refine Hn KF.slot_gs.plain KF.entry_gs (KF.slot_gs.check _ _ _ _ _ _ _ _ KF.type_class (KF.args_gs _ _ tp) ?_)
 unfold Hm.«getset_descriptor.__get__» descrGet;rw[dga_obj];refine cc (E5 ?_);unfold descrGetter descrCheckInstance;unfold descrNameAndClass isInstance
 simp only[KF.owner_class]
 repeat lk
 refine And.intro (Code.quiet_builtin _ (by decide +kernel)) (Hf KF.entry_class ?_);unfold Hm.«object.__class__» shownTypeOf;(repeat lk)
 exact hq
theorem tN{tk:Tok}{Q:PySem.Fin->E3->Prop}(X:K.In h)(Z:ErrC K C)(hx:h.get? a=some o)(hc:o.cls=.ref C)(hq:Q (.done (.ret (.ref C))) ⟨h,g,d,t,os⟩) :
 E8 (ED prog w) A (Hm.«object.__getattribute__» ⟨[.ref a,.str "__class__" tk],[]⟩) Q E ⟨h,g,d,t,os⟩:=by
 have L0:=cY (M:=ED prog w) (a:=a) hx hc
 have L3:=looks_findIn (M:=ED prog w) X Z.cl
 have hT5:(⟨h,g,d,t,os⟩:E3).TypeIs (.builtin "object.__class__") "getset_descriptor":=KF.type_class
 have f5:=KF.type_class
 have gsGet:=F.slot_gs_get.lookup;have gsSet:=F.slot_gs_set.lookup
 repeat (any_goals (first|assumption|with_reducible refine Looks.at L0 ?_|with_reducible refine Looks.at L3 ?_|wp_step))
 refine j0 X Z hx hc ?_
 repeat (any_goals (first|wp_step|assumption))
theorem lu{M:Model}{nameV:E2}{Q:Unit->E3->Prop}(X:K.In h)(Z:ErrC K C)(hx:h.get? a=some o)(hc:o.cls=.ref C)(hq:Q () ⟨h,g,d,t,os⟩):E8 M A (checkBuiltinCall "BaseException.__getattribute__" ⟨[.ref a,nameV],[]⟩) Q E ⟨h,g,d,t,os⟩:=by
 have kd:builtinKind "BaseException.__getattribute__"=some .slot:=by decide +kernel
 have sp:splitId "BaseException.__getattribute__"=some ("BaseException","__getattribute__"):=by decide +kernel
 have okArgs:=F.args_bexc_ga (.ref a) nameV;have L0:=cY (M:=M) hx hc;have L1:=looks_subIn (M:=M) X Z.sub;have LI:Looks M h (isInstance (.ref a) (.type "BaseException")) true:=L0.andThen L1;simp only[checkBuiltinCall,kd,sp];refine cc (LI.at ?_)
 repeat (first|assumption|wp_step)
theorem uB{tk:Tok}{R:Result->E3->Prop}(sl:Slot "ValueError" "__getattribute__" "BaseException.__getattribute__")(X:K.In h)(Z:ErrC K C)(hx:h.get? a=some o)(hc:o.cls=.ref C)(hq:R (.ok (.ret (.ref C))) ⟨h,g,d,t,os⟩) : Hc (ED prog w) A (.call (.builtin "BaseException.__getattribute__") ⟨[.ref a,.str "__class__" tk],[]⟩) R ⟨h,g,d,t,os⟩:=Hn sl.plain F.entry_bexc_ga (lu X Z hx hc (tN X Z hx hc hq))
theorem tm{Q:Option E2->E3->Prop}(sl:Slot "ValueError" "__getattribute__" "BaseException.__getattribute__")(X:K.In h)(Z:ErrC K C)(hx:h.get? a=some o)(hc:o.cls=.ref C)(hq:Q (some (.ref C)) ⟨h,g,d,t+1,os⟩):E8 (ED prog w) A (getAttr? (.ref a) "__class__") Q E ⟨h,g,d,t,os⟩:=by
 have L0:=cY (M:=ED prog w) hx hc;have L1:=looks_findIn (M:=ED prog w) X Z.ga;have L2:=looks_findIn (M:=ED prog w) X Z.gt;have f3:=sl.bind (.ref a);have hx0:(false&&onTheHeap (GF "BaseException.__getattribute__"))=false:=rfl;have ne2:(GF "BaseException.__getattribute__"==GF "object.__getattribute__")=false:=by decide +kernel
 have ne1:(onTheHeap (F6 C)&&GF "BaseException.__getattribute__"==GF "object.__getattribute__")=false:=by rw[ne2];rfl
 unfold getAttr? getAttrBy?
 repeat (any_goals (first|assumption|with_reducible refine Looks.at L0 ?_|with_reducible refine Looks.at L1 ?_|with_reducible refine Looks.at L2 ?_|wp_step))
 refine uB sl X Z hx hc ?_
 repeat (any_goals (first|wp_step|assumption))
theorem yi(sl:Slot "ValueError" "__getattribute__" "BaseException.__getattribute__")(Z:ErrC K C)(hcls:(clsIn K C).isSome=true):KitX K (.ref a) (.ref C) (fun h=>∃o,h.get? a=some o/\o.cls=.ref C) where
 ty:=fun M h X ⟨o,hx,hc⟩=>cY hx hc
 it:=fun M h X _=>by
  unfold clsIn at hcls
  split at hcls
  ·rename_i c' d' cd' sl' ho
   intro A' Q' E' s' k q
   unfold isType loadHead
   refine cc ?_;exact wpAny_loadPart (k _ _ (X _ _ ho)) (E5 q)
  ·cases hcls
 ne:=fun h tp dd its n sl X ht=>by
  unfold clsIn at hcls
  split at hcls
  ·rename_i c' d' cd' sl' ho
   refine Bool.eq_false_iff.mpr fun q=>?_;have e:C=tp:=F6.inj (beq_iff_eq.mp q)
   subst e
   have:=X _ _ ho
   rw[ht]at this
   cases this
  ·cases hcls
 ca:=fun{prog w A E Q s} X zz1_0 hq=>by
  obtain⟨o,hx,hc⟩:=zz1_0
  obtain⟨hh,g,d,t,os⟩:=s
  exact tm sl X Z hx hc hq
end
def iz(h:Heap):List Addr->Heap
 |[]=>h
 |a::l=>(iz h l).hide a
theorem d6{h:Heap}{b:Addr}:∀{l:List Addr},b∉l->(iz h l).get? b=h.get? b
 |[],_=>rfl
 |a::l,n=>by
  unfold iz
  rw[Heap.hide_ne _ (fun e=>n (by rw[e];exact Fb))]
  exact d6 fun z=>n (EU _ z)
theorem ff{h:Heap}{b:Addr}:∀{l:List Addr},b∈l->(iz h l).get? b=none
 |a::l,m=>by
  unfold iz
  by_cases e:b=a
  ·subst e;exact Heap.hide_self _ _
  ·rw[Heap.hide_ne _ e]
   exact ff ((Fc.mp m).resolve_left e)
theorem qg{h:Heap}{b:Addr}{o:Obj}{l:List Addr}(e:(iz h l).get? b=some o):b∉l/\h.get? b=some o:=by
 by_cases m:b∈l
 ·rw[ff m]at e;cases e
 ·rw[d6 m]at e;exact⟨m,e⟩
theorem gK{env:Env}{l:List Env}{L:Addr}(h:env.frame=some L):frs (env::l)=L::frs l:=by unfold frs;rw[G4,h]
theorem oU{h base base':Heap}:∀{l:List Env},h.FunFrames base l->(∀b∈frs l,base'.get? b=none)->h.FunFrames base' l
 |[],_,_=>trivial
 |env::r,⟨hk,⟨L,o,hf,hn,ho,hd⟩,hr⟩,n=>⟨hk,⟨L,o,hf,n L (by rw[gK hf];exact Fb),ho,hd⟩,oU hr fun b hb=>n b (by rw[gK hf];exact EU _ hb)⟩
theorem iS{h base:Heap}:∀{l:List Env} {b:Addr},h.FunFrames base l->b∈frs l->∃o,h.get? b=some o/\∀vs:Array E2,o.data≠.fields vs
 |[],_,_,m=>by unfold frs at m;simp at m
 |env::r,b,⟨hk,⟨L,o,hf,hn,ho,hd⟩,hr⟩,m=>by
  rw[gK hf]at m
  rcases Fc.mp m with e|m
  ·exact⟨o,by rw[e];exact ho,hd⟩
  ·exact iS hr m
theorem xu{P:EF}{w:EZ}{H:Hp}{h:Heap}{a:Addr}{o:HO}(x:bB P w H h a o):∃u,h.get? a=some u:=by
 cases o with
 |lst xs=>obtain⟨_,_,_,_,e⟩:=x;exact⟨_,e⟩
 |tup xs=>obtain⟨_,_,_,⟨_,e,_⟩⟩:=x;exact⟨_,e⟩
 |dK kvs=>obtain⟨_,_,_,_,o,_,_,e,_⟩:=x;exact⟨_,e⟩
 |dT kvs=>obtain⟨_,_,_,_,o,_,_,e,_⟩:=x;exact⟨_,e⟩
 |set S n=>obtain⟨o,_,_,_,e,_⟩:=x;exact⟨_,e⟩
 |ins C dx fs=>obtain⟨_,_,_,e,_⟩:=x;exact⟨_,e⟩
 |own y=>obtain⟨_,e⟩:=x;exact⟨_,e⟩
 |xd fs=>obtain⟨_,⟨_,_,_,e,_⟩,_⟩:=x;exact⟨_,e⟩
 |rng lo hi=>obtain⟨_,_,_,e⟩:=x;exact⟨_,e⟩
 |frz ob u=>obtain⟨e,_⟩:=x;exact⟨_,e⟩
 |tbl ps=>exact⟨_,(show h.get? a=some _ from x)⟩
 |met f y=>exact⟨_,(show h.get? a=some _ from x)⟩
 |ext φ=>obtain⟨_,e,_⟩:=x;exact e
structure Fly(P:EF)(w:EZ)(outer:List Env)(H H':Hp)(s s':E3)(a C:Addr):Prop where
 os:s'.os=s.os
 bare:AllBare s'.gens
 bs:∃(b:Heap) (a0:E2),b.FlyingW outer a (.ref C) a0 s'.heap/\HOk P w H' b/\
  (∀x o,s.heap.get? x=some o->H x=none->x∉frs outer->b.get? x=some o)/\(∀x o,s.heap.get? x=some o->x∉frs outer->∃o',b.get? x=some o')
 slot:∀x o,s.heap.get? x=some o->H x=none->x∈frs outer->∃sl,s'.heap.get? x=some { o with slots:=sl }
 free:∀x o,s.heap.get? x=some o->H x=none->H' x=none
 tups:∀b xs,H b=some (.tup xs)->H' b=some (.tup xs)
 frzs:∀b o u,H b=some (.frz o u)->H' b=some (.frz o u)
 tbls:∀b ps,H b=some (.tbl ps)->∃more,H' b=some (.tbl (ps++more))
section
variable{P:EF}{w:EZ}{outer:List Env}{H H':Hp}{s s':E3}{a C:Addr}
theorem Fly.un(F:Fly P w outer H H' s s' a C)(hf:∀x∈frs outer,H x=none):Un (frs outer) [] H H' s.heap s'.heap:=by
 obtain⟨b,a0,fl,hok,kp,th⟩:=F.bs;refine⟨fun x o e n nf _=>fl.1 x o (kp x o e n nf),fun x o e n m _=>F.slot x o e n m,fun x o e n _=>F.free x o e n,fun x o e _=>?_,F.tups,F.frzs,F.tbls⟩;by_cases m:x∈frs outer
 ·obtain⟨sl,q⟩:=F.slot x o e (hf x m) m;exact⟨_,q⟩
 ·obtain⟨o',q⟩:=th x o e m;exact⟨o',fl.1 x o' q⟩
theorem Fly.hok(F:Fly P w outer H H' s s' a C):HOk P w H' s'.heap:=by obtain⟨b,a0,fl,hok,_,_⟩:=F.bs;exact hok.kept fl.1
theorem Fly.new(F:Fly P w outer H H' s s' a C):H' a=none:=by
 obtain⟨b,a0,fl,hok,_,_⟩:=F.bs;cases e:H' a with
 |none=>rfl
 |some o=>
  obtain⟨u,q⟩:=xu (hok a o e)
  rw[fl.2.1]at q;cases q
theorem Fly.apart(F:Fly P w outer H H' s s' a C){x:Addr}{o:Obj}(e:s.heap.get? x=some o)(n:H x=none):x≠a:=by
 rintro rfl;obtain⟨b,a0,fl,hok,kp,_⟩:=F.bs;by_cases m:x∈frs outer
 ·obtain⟨o',e',d⟩:=iS fl.2.2.1 m;obtain⟨oe,vs,T,oT,ts,h1,_,h2,_⟩:=fl.2.2.2;rw[h1]at e';cases e';exact d vs h2
 ·have:=kp x o e n m;rw[fl.2.1]at this;cases this
end
theorem xA{K:E1}{fs ex:List Addr}{H H':Hp}{h h':Heap}(u:Un fs ex H H' h h'):Grow K H H':=by
 refine⟨fun a xs q=>?_,fun a xs q=>?_⟩
 ·rcases q with(q|⟨o,q⟩)|q
  ·exact .inl (.inl (u.tups _ _ q))
  ·exact .inl (.inr ⟨o,u.frzs _ _ _ q⟩)
  ·exact .inr q
 ·rcases q with⟨o,q⟩|q
  ·exact .inl ⟨o,u.frzs _ _ _ q⟩
  ·exact .inr q
def CXE(P:EF)(w:EZ):CXT:=fun outer H s E e s'=>∃a C H',e=.ref a/\Fly P w outer H H' s s' a C/\E (.ref C) none H'
section
variable{P:EF}{w:EZ}{K:E1}{mg:Str->Option E2}{base:Heap}{N:List Str}{qual:Str}{scope:Gz}{f:Addr}{cd:E2}{A:EX}{outer:List Env}{s:E3}{H:Hp}{E:XK}
theorem ym{pins:List (Addr×Obj)}{σ:L2.St}{H1:Hp}{s1:E3}(I:Inv (aW (CXE P w) P w K mg base N qual scope f cd A outer s H E) pins σ H1 s1){x:Addr}{o:Obj}(e:s.heap.get? x=some o)(n:x∉frs outer):x∉frs (aW (CXE P w) P w K mg base N qual scope f cd A outer s H E).stack:=by
 show x∉frs ((aW (CXE P w) P w K mg base N qual scope f cd A outer s H E).env::outer);rw[gK (L:=(aW (CXE P w) P w K mg base N qual scope f cd A outer s H E).env.locals) rfl];intro m;rcases Fc.mp m with z|z
 ·have h1:s.heap.objs.size<=(aW (CXE P w) P w K mg base N qual scope f cd A outer s H E).env.locals:=I.ok.above;have h2:=E7 e;rw[z]at h2;exact absurd (EK h2 h1) (G0 _)
 ·exact n z
end
abbrev veM:List E2:=[Value.type "ValueError",Value.type "Exception",Value.type "BaseException",Value.type "object"]
structure ClsE(K:E1)(x:Str)(C:Addr):Prop where
 nm:Fo K EY x=some (some (.ref C))
 ex:Hs K C veM "ValueError.__new__"=true
section
variable{P:EF}{w:EZ}{K:E1}{mg:Str->Option E2}{base:Heap}{N:List Str}{qual:Str}{scope:Gz}{f:Addr}{cd:E2}{A:EX}{outer:List Env}{s:E3}{H:Hp}{E:XK}
end
abbrev hold(X:Cx)(a:Addr):Cx:={ X with A:=X.A.mark (some (.ref a)),calm:=false }
section
variable{X:Cx}{pins:List (Addr×Obj)}{σ:L2.St}{H:Hp}{s:E3}{a:Addr}
theorem oM(I:Inv X pins σ H s):Inv (hold X a) pins σ H s:=⟨⟨I.ok.mod,I.ok.kind,I.ok.glob,I.ok.blt,I.ok.above,I.ok.inj,I.ok.has,I.ok.cab,(fun z=>Bool.noConfusion z),I.ok.frames,I.ok.stk,I.ok.exf,I.ok.bs,I.ok.bsz,I.ok.noex,I.ok.exfs,I.ok.eL,I.ok.frf⟩,I.os,I.bare,I.base,I.loc,I.cell,I.free,I.freeC,I.pin,I.hok,I.len⟩
theorem eD(ok:X.Ok)(I:Inv (hold X a) pins σ H s):Inv X pins σ H s:=⟨ok,I.os,I.bare,I.base,I.loc,I.cell,I.free,I.freeC,I.pin,I.hok,I.len⟩
theorem fF{M:Model}{A:EX}{E:E2->E3->Prop}{j:Nat}{n:Str}{pos:Pos}{Q:Unit->E3->Prop}(I:Inv X pins σ H s)(hN:X.N.Nodup)(hj:X.N[j]?=some n)(hk:X.env.scope.names.lookup n=some .local)
 (h:∀s',Inv X pins (σ.set j none) H s'->Q () s'):E8 M A (do bindName X.env n Fi;unbindBehindTheSuite X.env n pos) Q E s:=by
 obtain⟨m,hn,hl⟩:=id I.loc
 have hcls:(X.env.scope.kind==.class||(X.env.scope.kind==.module&&X.env.locals != X.env.globals))=false:=by rw[I.ok.kind];rfl
 have hjσ:j<σ.length:=by rw[I.len];exact(EB.mp hj).1
 have cne:=I.cne
 obtain⟨oL,_,_,hoL,_⟩:=id hn
 refine wpAny_nameGoes_keeps hk hn hcls fun h' v hn' hs=>?_
 refine h { s with heap:=h',toks:=s.toks+1 } ⟨I.ok,I.os,I.bare,⟨fun b o e n hb hx=>?_,fun b o e n hb hx=>?_,I.base.free,fun b o e hx=>?_,I.base.tups,I.base.frzs,I.base.tbls⟩,⟨_,hn',fun i y v' e1 e2 e3=>?_⟩,fun y c e=>?_,I.free,I.freeC,fun p hp=>?_,fun b ob e=>?_,by simpa using I.len⟩
 ·exact(hs.2 b (EV (EK (E7 e) I.ok.above))).trans (I.base.keep b o e n hb hx)
 ·obtain⟨sl,e1⟩:=I.base.slot b o e n hb hx
  exact⟨sl,(hs.2 b (EV (EK (E7 e) I.ok.above))).trans e1⟩
 ·obtain⟨o',e1⟩:=I.base.there b o e hx
  exact⟨o',(hs.2 b (EV (EK (E7 e) I.ok.above))).trans e1⟩
 ·by_cases hij:i=j
  ·subst hij
   rw[List.getElem?_set_self hjσ]at e2
   cases e2
  ·rw[List.getElem?_set_ne (Ne.symm hij)]at e2
   obtain⟨u',r',q⟩:=hl i y v' e1 e2 e3
   refine⟨u',r',?_⟩
   rcases q with⟨k,e⟩|⟨k,c,e,z⟩
   ·refine .inl ⟨k,?_⟩
    have:y≠n:=fun e=>hij (jj hN e1 (e▸hj))
    simp[this,e]
   ·exact .inr ⟨k,c,e,z.sameBut hs (cne y c e)⟩
 ·obtain⟨w',z⟩:=I.cell y c e
  exact⟨w',z.sameBut hs (cne y c e)⟩
 ·obtain⟨e,n,ne,nf,d⟩:=I.pin p hp
  exact⟨(hs.2 p.1 ne).trans e,n,ne,nf,d⟩
 ·refine(I.hok b ob e).dq (fun c w' hc q=>(hs.2 c ?_).trans q) (fun _ q=>q) fun _ _ q=>q
  rintro rfl
  rcases hc with rfl|hc
  ·rw[I.free]at e;cases e
  ·rw[I.free]at hc;cases hc
end
theorem oB{M:Model}{A:EX}{E:E2->E3->Prop}{K:E1}{s:E3}{a C S:Addr}{o:Obj}{Q:Bool->E3->Prop}(X:K.In s.heap)(ho:s.heap.get? a=some o)(hc:o.cls=.ref C) (hS:Hs K S veM "ValueError.__new__"=true) (hB:Fd K (.ref S) (.type "BaseException")=some true) {b:Bool} (hs:Fd K (.ref C) (.ref S)=some b) (q:Q b s):E8 M A (excMatches (.ref a) (.ref S)) Q E s:=by
 unfold Hs at hS;split at hS
 ·rename_i dct cd sl hl;have gS:s.heap.get? S=some _:=X _ _ hl
  have L0:HB M s.heap (isInstance (.ref S) (.type "tuple")) false:=by
   have t0:HB M s.heap (typeOf (.ref S)) (.type "type"):=(PySem.W.Looks.ld gS).andThen .now
   exact t0.andThen (PySem.W.looks_subIn X (show Option.map _ (fastBuiltinMro "type")=_ by decide +kernel))
  have L1:HB M s.heap (isType (.ref S)) true:=by intro A' Q' E' s' k q;unfold isType loadHead;refine cc ?_;exact wpAny_loadPart (k _ _ gS) (E5 q)
  have L2:=PySem.W.looks_subIn (M:=M) X hB;have L3:HB M s.heap (typeOf (.ref a)) (.ref C):=hc▸(PySem.W.Looks.ld ho).andThen .now;have L4:=PySem.W.looks_subIn (M:=M) X hs;have kk:∀(b:Addr) (o:Obj),s.heap.get? b=some o->s.heap.get? b=some o:=fun _ _ z=>z;unfold excMatches isExcClass;refine cc (L0 _ _ _ _ kk ?_);simp only[EO,if_false,FW,FZ,FT,Hb,G1];refine cc (L1 _ _ _ _ kk ?_);simp only[if_true];refine cc (L2 _ _ _ _ kk ?_);simp only[G1,EO,if_false,FT,Hb];refine cc (L3 _ _ _ _ kk ?_);refine cc (L4 _ _ _ _ kk ?_);cases b
  ·simp only[EO,if_false,FT,Hb];exact E5 q
  ·simp only[if_true,FT,Hb];exact E5 q
 ·cases hS
abbrev TR:=L2.St->Hp->(Hp->XK)->Prop
def gone(j:Nat)(D:Ends):Ends:={ nx:=fun σ H=>D.nx (σ.set j none) H,rt:=D.rt,bk:=fun σ H=>D.bk (σ.set j none) H,ct:=fun σ H=>D.ct (σ.set j none) H }
theorem Slots.gone{K:E1}{H:Hp}{δ:DS}{σ:L2.St}(h:Slots K H δ σ)(j:Nat):Slots K H (δ.set j none) (σ.set j none):=by
 refine⟨by simp[h.len],fun i d q=>?_⟩;rw[List.getElem?_set]at q;by_cases hij:j=i
 ·rw[if_pos hij]at q;split at q<;>cases q
 ·rw[if_neg hij]at q;obtain⟨v',e1,e2⟩:=h.at' i d q;exact⟨v',by rw[List.getElem?_set,if_neg hij];exact e1,e2⟩
def zB(j:Nat)(B:EndsD):EndsD:={ nx:=fun δ M=>B.nx (δ.set j none) M,rt:=B.rt,bk:=fun δ M=>B.bk (δ.set j none) M,ct:=fun δ M=>B.ct (δ.set j none) M }
open PySem.Sem (wp)
def gG(h h':Heap):Prop:=∀a o,h.get? a=some o->∃o',h'.get? a=some o'/\o'.dict=o.dict
theorem gG.refl{h:Heap}:gG h h:=fun _ o e=>⟨o,e,rfl⟩
theorem gG.trans{h h1 h2:Heap}(a:gG h h1)(b:gG h1 h2):gG h h2:=fun x o e=>let⟨o1,e1,d1⟩:=a x o e;let⟨o2,e2,d2⟩:=b x o1 e1;⟨o2,e2,d2.trans d1⟩
def KpD{α:Type}(t:Sem α):Prop:=∀(M:Model) (Γ:PySem.Ctx) (Q:α->Pos->E3->Prop) (E:E2->Pos->E3->Prop) (p:Pos) (s:E3),
 wp M Γ t Q E p s->wp M Γ t (fun a p' s'=>Q a p' s'/\gG s.heap s'.heap) (fun _ _ _=>False) p s
section
variable{α β:Type}
theorem KpD.pure{a:α}:KpD (Pure.pure a:Sem α):=fun M Γ Q E p s h=>⟨h,.refl⟩
theorem KpD.uns{w:String}:KpD (unsupported w:Sem α):=fun M Γ Q E p s h=>(show False from h).elim
theorem KpD.bind{t:Sem α}{f:α->Sem β}(h1:KpD t)(h2:∀a,KpD (f a)):KpD (t >>= f):=fun M Γ Q E p s h=>by rw[Fv]at h ⊢;refine Sem.wp_mono M Γ t (fun a p1 s1 zz1_0=>?_) (fun _ _ _ z=>z) p s (h1 M Γ _ E p s h);obtain⟨q,k⟩:=zz1_0;exact Sem.wp_mono M Γ (f a) (fun b p2 s2 zz2_0=>by obtain⟨q2,k2⟩:=zz2_0;exact(⟨q2,k.trans k2⟩)) (fun _ _ _ z=>z) p1 s1 (h2 a M Γ Q E p1 s1 q)
theorem KpD.load{a:Addr}:KpD (PySem.load a):=fun M Γ Q E p s h=>by obtain⟨o,e,q⟩:=(show ∃o,s.heap.get? a=some o/\Q o p s from h);exact⟨o,e,q,.refl⟩
theorem KpD.stack:KpD PySem.stack:=fun M Γ Q E p s h=>⟨h,.refl⟩
theorem xY{h:Heap}{a b:Addr}{f:Obj->Obj}{o:Obj}(hf:∀o,(f o).dict=o.dict/\(f o).isFreed=o.isFreed)(e:h.get? b=some o):∃o',(h.update a f).get? b=some o'/\o'.dict=o.dict:=by
 by_cases z:a=b
 ·subst z;exact⟨f o,Fy f e ((hf o).2.trans (Heap.get?_some_iff.mp e).2),(hf o).1⟩
 ·exact⟨o,(EW h f z).trans e,rfl⟩
theorem KpD.update{a:Addr}{f:Obj->Obj}(hf:∀o,(f o).dict=o.dict/\(f o).isFreed=o.isFreed):KpD (PySem.update a f):=fun M Γ Q E p s h=>
 have h':(s.heap.get? a).isSome/\Q () p { s with heap:=s.heap.update a f }:=h
 show(s.heap.get? a).isSome/\_ from⟨h'.1,h'.2,fun b o e=>xY hf e⟩
theorem KpD.alloc{o:Obj}:KpD (PySem.alloc o):=fun M Γ Q E p s h=>⟨h,fun a u e=>⟨u,E4 _ e,rfl⟩⟩
theorem KpD.ite{c:Prop}[Decidable c]{t u:Sem α}(h1:KpD t)(h2:KpD u):KpD (if c then t else u):=by
 split
 ·exact h1
 ·exact h2
end
theorem sZ(g:Array E2->Array E2)(o:Obj):(o.mapFields g).dict=o.dict/\(o.mapFields g).isFreed=o.isFreed:=by obtain⟨c,d,dt,sl⟩:=o;cases dt<;>exact⟨rfl,rfl⟩
theorem tP{v:E2}:KpD (fieldsOf v):=by
 unfold fieldsOf;cases v<;>first|exact .uns|skip
 refine .bind .load fun o=>?_;cases o.data<;>first|exact .uns|exact .pure
theorem gv{v:E2}{i:Nat}:KpD (field v i):=by unfold field;refine .bind tP fun vs=>?_;cases vs[i]?<;>first|exact .uns|exact .pure
theorem fw{v x:E2}{i:Nat}:KpD (Hz v i x):=by
 unfold Hz;cases v<;>first|exact .uns|skip
 unfold updateField;refine .bind .load fun o=>?_;cases o.data<;>first|exact .uns|skip
 exact .ite (.update fun o=>sZ _ o) .uns
theorem eB{e:E2}{f:Option Addr}:KpD (setFlight e f):=by unfold setFlight;refine .bind gv fun tb=>?_;exact .ite fw .pure
theorem wx:KpD underTheClaimsCaller:=by unfold underTheClaimsCaller;exact .bind .stack fun _=>.pure
theorem oQ{env:Env}{b:Bool}:∀{l:List Env},KpD (keptBack env b l)
 |[]=>by
  unfold keptBack
  exact .ite .pure (.bind wx fun _=>.pure)
 |_::_=>.pure
theorem tF{env:Env}{l:List Env}:KpD (behindIsImport env l):=by unfold behindIsImport;refine .ite .pure (.ite .pure (.bind gv fun _=>.pure))
theorem nI:∀{l:List Env},KpD (readyFrames l)
 |[]=>.pure
 |env::outer=>by
  unfold readyFrames
  cases env.frame with
  |none=>exact .uns
  |some f=>
   refine .bind .load fun o=>.ite .pure (.bind tF fun b=>.bind oQ fun v=>.bind (.update fun o=>?_) fun _=>nI)
   obtain⟨c,d,dt,sl⟩:=o
   cases dt<;>exact⟨rfl,rfl⟩
theorem pP{env:Env}:KpD (PySem.frameOf env):=by
 unfold PySem.frameOf frameEnvs;refine .bind (.bind .stack fun _=>.pure) fun l=>.bind ?_ fun r=>?_
 ·generalize List.dropWhile _ l=l';cases l' with
  |nil=>exact .pure
  |cons e r=>exact .bind nI fun _=>.pure
 ·cases r<;>first|exact .uns|exact .pure
theorem vN{f:Addr}{b:Bool}:KpD (entryPlaceOf f b):=by
 unfold entryPlaceOf;refine .bind .stack fun acts=>?_;split
 ·exact .pure
 ·exact .pure
theorem uo{a b c d e:E2}{pl:List E2}:KpD (GP a b c d e pl):=by unfold GP newFields newObj;dsimp only;refine .ite .uns ?_;unfold newObjAsIs;exact .bind .alloc fun _=>.pure
theorem rb{e:E2}{env:Env}:KpD (noteFrame e env):=by
 unfold noteFrame;cases env.frame with
 |none=>exact .uns
 |some f=>
  have last:∀head:E2,KpD (do Hz e 1 (<-GP head (<-PySem.frameOf env) .none (Gg f) .none (<-entryPlaceOf f (head != .none)))):=fun head=>.bind pP fun _=>.bind vN fun _=>.bind uo fun _=>fw
  refine .bind gv fun head=>.ite (.bind gv fun x=>.ite .pure (.bind fw fun _=>last head)) (last head)
theorem jg{e:E2}{env:Env}:KpD (leaving env e):=.bind rb fun _=>eB
theorem KpD.any{α:Type}{t:Sem α}(k:KpD t){M:Model}{A:EX}{Q:α->E3->Prop}{E:E2->E3->Prop}{s:E3}(h:E8 M A t Q E s):E8 M A t (fun a s'=>Q a s'/\gG s.heap s'.heap) (fun _ _=>False) s:=fun Γ p hΓ=>k M Γ _ _ p s (h Γ p hΓ)
def vd(e:E2)(f:Addr)(h:Heap):Prop:=∃a oe vs T oT ts,e=.ref a/\h.get? a=some oe/\oe.data=.fields vs/\vs[1]?=some (.ref T)/\h.get? T=some oT/\oT.data=.fields ts/\ts[3]?=some (Gg f)
section
variable{M:Model}{Γ:PySem.Ctx}{E:E2->Pos->E3->Prop}{p:Pos}{s:E3}
theorem hU{v:E2}{i:Nat}{Q:E2->Pos->E3->Prop}(h:wp M Γ (field v i) Q E p s):∃a o vs x,v=.ref a/\s.heap.get? a=some o/\o.data=.fields vs/\vs[i]?=some x/\Q x p s:=by
 unfold field fieldsOf at h;rw[Fv]at h;cases v<;>first|exact(show False from h).elim|skip
 rename_i a;rw[Fv]at h;obtain⟨o,e,h⟩:=(show ∃o,s.heap.get? a=some o/\_ from h);rw[Sem.wp_pure]at h;cases hd:o.data<;>rw[hd]at h<;>first|exact(show False from h).elim|skip
 rename_i vs;have h:wp M Γ (match vs[i]? with|some x=>(pure x:Sem E2)|none=>unsupported "internal:no-such-field") Q E p s:=h;cases hx:vs[i]? with
 |none=>rw[hx]at h;exact(show False from h).elim
 |some x=>rw[hx]at h;exact⟨a,o,vs,x,rfl,e,hd,hx,h⟩
theorem cA{a:Addr}{i:Nat}{o:Obj}{vs:Array E2}{x:E2}{Q:E2->Pos->E3->Prop}(e:s.heap.get? a=some o)(hd:o.data=.fields vs)(hx:vs[i]?=some x)(h:Q x p s):wp M Γ (field (.ref a) i) Q E p s:=by unfold field fieldsOf;rw[Fv,Fv];refine⟨o,e,?_⟩;rw[Sem.wp_pure,hd];show wp M Γ (match vs[i]? with|some x=>(pure x:Sem E2)|none=>unsupported "internal:no-such-field") Q E p s;rw[hx];exact h
theorem eN{v x:E2}{i:Nat}{Q:Unit->Pos->E3->Prop}(h:wp M Γ (Hz v i x) Q E p s):∃a o vs,v=.ref a/\s.heap.get? a=some o/\o.data=.fields vs/\i<vs.size/\Q () p { s with heap:=s.heap.update a (Obj.mapFields (·.setIfInBounds i x)) }:=by
 unfold Hz at h;cases v<;>first|exact(show False from h).elim|skip
 rename_i a;unfold updateField at h;rw[Fv]at h;obtain⟨o,e,h⟩:=(show ∃o,s.heap.get? a=some o/\_ from h);rw[Sem.wp_pure]at h;cases hd:o.data<;>rw[hd]at h<;>first|exact(show False from h).elim|skip
 rename_i vs;dsimp only at h;by_cases hi:i<vs.size
 ·rw[if_pos hi]at h;exact⟨a,o,vs,rfl,e,hd,hi,(show(s.heap.get? a).isSome/\_ from h).2⟩
 ·rw[if_neg hi]at h;exact(show False from h).elim
theorem cW{a:Addr}{x:E2}{i:Nat}{o:Obj}{vs:Array E2}{Q:Unit->Pos->E3->Prop}(e:s.heap.get? a=some o)(hd:o.data=.fields vs)(hi:i<vs.size)(h:Q () p { s with heap:=s.heap.update a (Obj.mapFields (·.setIfInBounds i x)) }):wp M Γ (Hz (.ref a) i x) Q E p s:=by unfold Hz updateField;show wp M Γ (PySem.load a >>= _) Q E p s;rw[Fv];refine⟨o,e,?_⟩;rw[Sem.wp_pure,hd];dsimp only;rw[if_pos hi];exact⟨by rw[e];rfl,h⟩
theorem j7{h:Heap}{a:Addr}{o:Obj}{g:Obj->Obj}(e:h.get? a=some o)(hg:g o=o):h.update a g=h:=by
 obtain⟨e1,_⟩:=Heap.get?_some_iff.mp e;obtain⟨objs,l⟩:=h;show Heap.mk (objs.modify a g) l=_
 congr 1
 refine Array.ext_getElem? fun i=>?_;rw[Array.getElem?_modify];by_cases z:a=i
 ·subst z;rw[if_pos rfl];have e1:objs[a]?=some o:=e1;rw[e1,Option.map_some,hg]
 ·rw[if_neg z]
theorem pq{e:E2}{env:Env}{f:Addr}{Q:Unit->Pos->E3->Prop}(hf:env.frame=some f)(h:wp M Γ (leaving env e) Q E p s) :
 wp M Γ (noteFrame e env) (fun _ p1 s1=>vd e f s1.heap/\wp M Γ (setFlight e none) Q E p1 s1) E p s:=by
 unfold leaving at h
 rw[Fv]at h
 unfold noteFrame at h ⊢
 rw[hf]at h ⊢
 dsimp only at h ⊢
 have last:∀(head:E2) (p:Pos) (s:E3),wp M Γ (do Hz e 1 (<-GP head (<-PySem.frameOf env) .none (Gg f) .none (<-entryPlaceOf f (head != .none)))) (fun _ p1 s1=>wp M Γ (setFlight e none) Q E p1 s1) E p s->
  wp M Γ (do Hz e 1 (<-GP head (<-PySem.frameOf env) .none (Gg f) .none (<-entryPlaceOf f (head != .none)))) (fun _ p1 s1=>vd e f s1.heap/\wp M Γ (setFlight e none) Q E p1 s1) E p s:=fun head p s h=>by
  rw[Fv]at h ⊢
  refine Sem.wp_mono M Γ _ (fun fr p1 s1 h1=>?_) (fun _ _ _ z=>z) p s h
  rw[Fv]at h1 ⊢
  refine Sem.wp_mono M Γ _ (fun pl p2 s2 h2=>?_) (fun _ _ _ z=>z) p1 s1 h1
  rw[Fv]at h2 ⊢
  obtain⟨hh,g,d,t,os⟩:=s2
  unfold GP newFields newObj at h2 ⊢
  dsimp only at h2 ⊢
  generalize (if pl.isEmpty=true then Hu 6 Fi else pl)=r at h2 ⊢
  by_cases z:([head,fr,Fi,Gg f,Fi]++r).toArray.size>ER+2
  ·rw[if_pos z]at h2;exact(show False from h2).elim
  rw[if_neg z]at h2 ⊢
  have h2:wp M Γ (Hz e 1 (.ref hh.objs.size)) (fun _ p1 s1=>wp M Γ (setFlight e none) Q E p1 s1) E p2 ⟨hh.push { cls:=.type "traceback",data:=.fields ([head,fr,Fi,Gg f,Fi]++r).toArray },g,d,t,os⟩:=h2
  show wp M Γ (Hz e 1 (.ref hh.objs.size)) (fun _ p1 s1=>vd e f s1.heap/\wp M Γ (setFlight e none) Q E p1 s1) E p2 ⟨hh.push { cls:=.type "traceback",data:=.fields ([head,fr,Fi,Gg f,Fi]++r).toArray },g,d,t,os⟩
  obtain⟨a,o,vs,rfl,ea,hd,hi,q⟩:=eN h2
  refine cW ea hd hi ⟨?_,q⟩
  have eT:(hh.push { cls:=.type "traceback",data:=.fields ([head,fr,Fi,Gg f,Fi]++r).toArray }).get? hh.objs.size=some { cls:=.type "traceback",data:=.fields ([head,fr,Fi,Gg f,Fi]++r).toArray }:=EC _ rfl
  have dn:=Obj.data_mapFields hd (·.setIfInBounds 1 (F6 hh.objs.size))
  have ea':=Fy (Obj.mapFields (·.setIfInBounds 1 (F6 hh.objs.size))) ea (Obj.isFreed_of_fields dn)
  by_cases ne:a=hh.objs.size
  ·subst ne
   rw[eT]at ea;cases ea
   cases hd
   exact⟨_,_,_,_,_,_,rfl,ea',dn,by simp,ea',dn,by simp⟩
  ·exact⟨a,_,_,hh.objs.size,_,_,rfl,ea',dn,by simp[hi],(EW _ _ ne).trans eT,rfl,by simp⟩
 rw[Fv]at h ⊢
 obtain⟨a,o,vs,head,rfl,ea,hd,hx,h⟩:=hU h
 refine cA ea hd hx ?_
 by_cases z:(head != Fi)=true
 ·rw[if_pos z]at h ⊢
  rw[Fv]at h ⊢
  obtain⟨T,oT,ts,x3,rfl,eT,hT,h3,h⟩:=hU h
  refine cA eT hT h3 ?_
  by_cases y:(x3==Gg f)=true
  ·rw[if_pos y]at h ⊢
   exact⟨⟨a,o,vs,T,oT,ts,rfl,ea,hd,hx,eT,hT,by rw[h3,beq_iff_eq.mp y]⟩,h⟩
  ·rw[if_neg y]at h ⊢
   rw[Fv]at h ⊢
   obtain⟨a',o',vs',e',ea',hd',hi,h⟩:=eN h
   cases e'
   refine cW ea' hd' hi ?_
   exact last _ _ _ h
 ·rw[if_neg z]at h ⊢
  exact last _ _ _ h
end
theorem jh{M:Model}{A:EX}{env:Env}{f:Addr}{Po:E2->Unit->E3->Prop}{E0:E2->E2->E3->Prop}(hf:env.frame=some f):PassesOwn M A env (fun e s'=>E8 M A (leaving env e) (Po e) (E0 e) s'):=by
 intro e s' h Γ p hΓ;have base:=pq (E:=fun _ _ _=>False) (Q:=fun a _ s''=>Po e a s'') hf (Sem.wp_mono M Γ _ (fun _ _ _ z=>z.1) (fun _ _ _ z=>z) p s' (jg M Γ _ _ p s' (h Γ p hΓ)));refine Sem.wp_mono M Γ _ (fun _ p1 s1 z=>?_) (fun v p1 s1 z=>z.elim) p s' base;obtain⟨n,q⟩:=z;obtain⟨a,oe,vs,T,oT,ts,rfl,ea,hd,h1,eT,hT,h3⟩:=n;intro Γ' p' hΓ';have i3:3<ts.size:=(Array.getElem?_eq_some_iff.mp h3).1
 have same:s1.heap.update T (Obj.mapFields (·.setIfInBounds 3 (Gg f)))=s1.heap:=by
  refine j7 eT ?_;obtain⟨c,d,dt,sl⟩:=oT;cases hT;show Obj.mk c d (.fields (ts.setIfInBounds 3 (Gg f))) sl=_
  congr 2
  refine Array.ext_getElem? fun i=>?_;by_cases z:3=i
  ·subst z;rw[Array.getElem?_setIfInBounds_self_of_lt i3,h3]
  ·rw[Array.getElem?_setIfInBounds_ne z]
 rw[Fv];refine cA ea hd h1 ?_;rw[if_neg (by intro z;cases (beq_iff_eq.mp z))];unfold setFlight;rw[Fv];refine cA ea hd h1 ?_;rw[if_pos (by simp),hf];refine cW eT hT i3 ?_;show E8 M A (leaving env (.ref a)) (Po (.ref a)) (E0 (.ref a)) { s1 with heap:=s1.heap.update T (Obj.mapFields (·.setIfInBounds 3 (Gg f))) };rw[same];intro Γ2 p2 hΓ2;unfold leaving noteFrame;rw[Fv,hf];dsimp only;rw[Fv];refine cA ea hd h1 ?_;rw[if_pos (by simp),Fv];refine cA eT hT h3 ?_;rw[if_pos (by simp)];show wp M Γ2 (setFlight (.ref a) none) _ _ p2 s1;unfold setFlight at q ⊢;rw[Fv]at q ⊢;obtain⟨a',o',vs',x,e',ea',hd',hx,q⟩:=hU q;refine cA ea hd h1 ?_;cases e';rw[ea]at ea';cases ea';rw[hd]at hd';cases hd';rw[h1]at hx;cases hx;rw[if_pos (by simp)]at q ⊢;obtain⟨T',oT',ts',e',eT',hT',hi,q⟩:=eN q;cases e';exact cW eT hT i3 q
section
variable{prog:EF}{w:EZ}{A:EX}{E:E2->E3->Prop}{hp:Heap}{gs:Array GenState}{dr:Drawn}{tk:Nat}{sys:OsState}
variable{cn cq:Str}{C NS fI:Addr}{bss ups:List E2}{hdct:Bool}{sn:List Str}{sub:List E2}{ab:Bool}{col:Option Bool}{dd:Option Addr}{k0 k1 k2 k3 k5:Option E2}{mN:Str->Option E2}{us:List E2}{oI:Obj}
abbrev yS(us:List E2):Obj:={ cls:=.type "tuple",data:=.seq us.toArray }
abbrev eK(C t:Addr)(d:Option Addr):Obj:={ cls:=.ref C,dict:=d,data:=.fields #[.ref t,.none,.none,.none,.bool false,.none] }
theorem tH(T:OwnTail hp veM ups)(hC:hp.get? C=some (excClassObj cn cq C NS bss ups hdct sn sub ab col dd k0 k1 k2 k3 k5 "ValueError.__new__"))(hN:hp.Ns NS mN)(hi:mN "__init__"=some (.ref fI))(ho:hp.get? fI=some oI)(hf:oI.cls=.type "function")(hl:us.length<=ER)
 {Q:PySem.Fin->E3->Prop} (k:∀h',(∀b o,hp.get? b=some o->h'.get? b=some o)->h'=(hp.push (yS us)).push (eK C hp.objs.size none)->E8 (ED prog w) A (call (.ref fI) (.ref (hp.objs.size+1)::us)) (fun r s'=>r=.none/\Q (.done (.ret (.ref (hp.objs.size+1)))) s') E ⟨h',gs,dr,tk,sys⟩) :
 E8 (ED prog w) A (Hm.«type.__call__» ⟨.ref C::us,[]⟩) Q E ⟨hp,gs,dr,tk,sys⟩:=by
 have FB:=F.excBase_ValueError
 repeat (first|with_reducible refine wpAny_loadPart_at hC ?_|with_reducible refine wpAny_madeBy_exc hC ?_|wp_step)
 refine codeAny_call_builtin_code (Code.quiet_builtin _ FB.quiet) (wpAny_check_new_subU FB (by decide) T hC ?_)
 refine codeAny_exc_new_subU FB (by decide) FB T hC ?_ hl
 show E8 _ _ _ _ _ _
 have kp:∀b o,hp.get? b=some o->((hp.push (yS us)).push (eK C hp.objs.size none)).get? b=some o:=fun b o e=>E4 _ (E4 _ e)
 have hC1:=kp _ _ hC
 have hN1:=hN.keeps kp
 have T1:=T.keeps kp
 have he:((hp.push (yS us)).push (eK C hp.objs.size none)).get? (hp.objs.size+1)=some (eK C hp.objs.size none):=Heap.get?_push_at (by simp) rfl
 have hcC:(F6 C::ups).contains (.ref C)=true:=by simp
 unfold isInstance
 repeat (first|with_reducible refine wpAny_loadPart_at he ?_|(with_reducible refine wpAny_isSubtype_exc hC1 ?_;rw[hcC])|wp_step)
 show E8 _ _ (typeLookup (.ref C) _) _ _ _
 refine wpAny_typeLookup_tail hC1 hN1 T1 FB.mroIs FB.init.lookup ?_
 rw[hi]
 refine Fs (cc ?_)
 unfold bindSpecial
 refine cc (wpAny_typeOf (T:="function") ⟨_,kp _ _ ho,hf⟩ ?_)
 rw[if_pos (by decide)]
 refine E5 (cc (ES (k _ kp rfl) (fun r s' z=>?_) fun _ _ z=>z))
 obtain⟨rfl,q⟩:=z
 wp_walk
 exact q
theorem tG(T:OwnTail hp veM ups)(hC:hp.get? C=some (excClassObj cn cq C NS bss ups hdct sn sub ab col dd k0 k1 k2 k3 k5 "ValueError.__new__"))(hN:hp.Ns NS mN)(hi:mN "__init__"=some (.ref fI))(ho:hp.get? fI=some oI)(hf:oI.cls=.type "function")(hl:us.length<=ER)
 {Q:E2->E3->Prop} (k:∀h',(∀b o,hp.get? b=some o->h'.get? b=some o)->h'=(hp.push (yS us)).push (eK C hp.objs.size none)->E8 (ED prog w) (A.under (.builtin "type.__call__" ⟨.ref C::us,[]⟩)) (call (.ref fI) (.ref (hp.objs.size+1)::us)) (fun r s'=>r=.none/\Q (.ref (hp.objs.size+1)) s') E ⟨h',gs,dr,tk,sys⟩) :
 E8 (ED prog w) A (call (.ref C) us) Q E ⟨hp,gs,dr,tk,sys⟩:=by
 have f1:=tc_lookup
 have f2:=tc_bind (.ref C)
 have hT:(⟨hp,gs,dr,tk,sys⟩:E3).TypeIs (.ref C) "type":=⟨_,hC,rfl⟩
 refine wpAny_call (codeAny_of_tree ?_)
 show E8 _ _ (callAny (.ref C) _) _ _ _
 repeat (any_goals (first|assumption|with_reducible refine wpAny_loadPart_at hC ?_|wp_step))
 refine⟨rfl,codeAny_call_builtin_at (Code.quiet_builtin _ (by decide +kernel)) entry_typeCall (wpAny_check_type_call_sub hC (tH T hC hN hi ho hf hl fun h' a b=>?_))⟩
 exact k h' a b
end
open PySem.W (Frag findIn subIn clsIn nsIn typeIn keepIn looks_findIn looks_subIn looks_clsIn Looks)
theorem C0{K:Frag}{h:Heap}{N:Addr}{mg:Str->Option E2}{n:Str}{v:E2}(X:K.In h)(G:h.Ns N mg)(e:nsIn K N n=some (some v)):mg n=some v:=by
 obtain⟨o,es,ep,ho,hd,_,hf⟩:=G;unfold nsIn at e;split at e
 ·rename_i ks ks' n' _ hl;have:=X _ _ hl;rw[ho]at this;cases this;cases hd;rw[<-hf];unfold nsFind findBy;rw[<-Array.find?_toList];split at e
  ·rename_i en he;rw[he];cases e;rfl
  ·split at e<;>cases e
 ·cases e
structure ClsI(K:Frag)(C S fI:Addr):Prop where
 lk:∃cn cq NS bss hdct sn sub ab col dd k0 k1 k2 k3 k5,K.lookup C=some (excClassObj cn cq C NS bss (.ref S::veM) hdct sn sub ab col dd k0 k1 k2 k3 k5 "ValueError.__new__")/\PySem.W.nsOkIn K NS=true/\nsIn K NS "__init__"=some (some (.ref fI))
 tl:PySem.W.tailIn K veM (.ref S::veM)=true
 fn:typeIn K (.ref fI)=some (.type "function")
 kp:keepIn K (.ref C)=true
 hd:Gs K C=true
 sa:findIn K (.ref C) "__setattr__"=some (some (.builtin "object.__setattr__"))
 ob:subIn K (.ref C) (.type "object")=some true
theorem ClsI.at{K:Frag}{C S fI:Addr}(c:ClsI K C S fI){h:Heap}(X:K.In h):∃cn cq NS bss hdct sn sub ab col dd k0 k1 k2 k3 k5 mN oI,h.get? C=some (excClassObj cn cq C NS bss (.ref S::veM) hdct sn sub ab col dd k0 k1 k2 k3 k5 "ValueError.__new__")/\h.Ns NS mN/\mN "__init__"=some (.ref fI)/\h.get? fI=some oI/\oI.cls=.type "function"/\OwnTail h veM (.ref S::veM):=by
 obtain⟨cn,cq,NS,bss,hdct,sn,sub,ab,col,dd,k0,k1,k2,k3,k5,l,ok,ni⟩:=c.lk;have hN:h.Ns NS (h.nsMap NS):=.of_isNs (PySem.W.isNs_of_in X ok);have hf:=c.fn;unfold typeIn at hf;dsimp only at hf;cases ho:K.lookup fI with
 |none=>rw[ho]at hf;cases hf
 |some oI=>
  rw[ho]at hf
  exact⟨cn,cq,NS,bss,hdct,sn,sub,ab,col,dd,k0,k1,k2,k3,k5,_,oI,X _ _ l,hN,C0 X hN ni,X _ _ ho,Option.some.inj hf,PySem.W.tail_of_in X c.tl⟩
section
variable{prog:EF}{w:EZ}{A:EX}{E:E2->E3->Prop}{s:E3}{K:Frag}{C S fI a t dx:Addr}{dd:Option Addr}{x v:E2}{name:Str}{mA:Str->Option E2}{oe:Obj}
theorem si(c:ClsI K C S fI)(X:K.In s.heap)(ha:s.heap.get? a=some (eK C t dd)){Q:E2->E3->Prop}
 (k:∀h',(∀b o,b≠a->s.heap.get? b=some o->h'.get? b=some o)->h'.get? a=some (eK C s.heap.objs.size dd)->Q .none { s with heap:=h' }) :
 E8 (ED prog w) A (call (.builtin "ValueError.__init__") [.ref a,x]) Q E s:=by
 obtain⟨cn,cq,NS,bss,hdct,sn,sub,ab,col,dd',k0,k1,k2,k3,k5,mN,oI,hC,hN,hi,ho,hf,T⟩:=c.at X
 obtain⟨hp,gs,dr,tk,sys⟩:=s
 have FB:=F.excBase_ValueError
 refine wpAny_call (Hn FB.init.plain FB.initEntry (wpAny_check_init_subU FB T hC ha rfl ?_))
 wp_walk
 refine k _ (fun b o ne e=>?_) ?_
 ·rw[EW _ _ (Ne.symm ne)]
  exact E4 _ e
 ·rw[Fy _ (E4 _ ha) rfl]
  rfl
theorem nY(ha:s.heap.get? a=some (eK C t none)):PySem.W.InstAt s.heap a (eK C t none) C none:=⟨ha,rfl,rfl,trivial⟩
theorem rP{ox:Obj}{od:Option Obj}{tk:Tok}{R:Result->E3->Prop}(c:ClsI K C S fI)(X:K.In s.heap)(I:PySem.W.InstAt s.heap a ox C od)(hn:findIn K (.ref C) name=some none)
 (h:E8 (ED prog w) A.in1 (Builtin.ObjectAttr.storeInOwnDict (.ref a) (.ref C) (.str name tk) name v false)
  (fun fin s'=>match fin with|.done f=>R (.ok f) s'|.again c'=>c'.quiet=true/\Hc (ED prog w) A c' R s') (fun e s'=>R (.error e) s') s) :
 Hc (ED prog w) A (.call (.builtin "object.__setattr__") ⟨[.ref a,.str name tk,v],[]⟩) R s:=by
 have SF:=F.store_ValueError
 obtain⟨cn,cq,NS,bss,hdct,sn,sub,ab,col,dd',k0,k1,k2,k3,k5,mN,oI,hC,_⟩:=c.at X
 have LI:Looks (ED prog w) s.heap (isInstance (.ref a) (.type "object")) true:=I.type.andThen (looks_subIn X c.ob)
 refine Hn SF.slot.plain SF.entry (PySem.W.check_slot (M:=ED prog w) (s:=s) (i:="object.__setattr__") (owner:="object") (n:="__setattr__") (self:=.ref a) (rest:=[.str name tk,v]) (kw:=[]) SF.kind SF.split LI (SF.args (.ref a) (.str name tk) v) ?_)
 rw[PySem.W.osa_eq,refuse_eq]
 obtain⟨hp,gs,dr,tk',sys⟩:=s
 refine cc (cc (I.type.here (cc (wpAny_mroOf_exc hC ?_))))
 rw[refuseLoop_ref,refuseLoop_ref,SF.passes]
 refine E5 (cc (I.type.here (cc ((looks_findIn X hn).here (cc (E5 ?_))))))
 exact h
theorem yl{Q:Unit->E3->Prop}(c:ClsI K C S fI)(X:K.In s.heap)(ha:s.heap.get? a=some (eK C t none))(hn:findIn K (.ref C) name=some none)
 (k:∀h' tk',(∀b o,b≠a->s.heap.get? b=some o->h'.get? b=some o)->h'.get? a=some (eK C t (some s.heap.objs.size))->h'.Ns1 s.heap.objs.size (fun y=>if y=name then some v else none)->Q () { s with heap:=h',toks:=tk' }) :
 E8 (ED prog w) A (setAttr (.ref a) name v) Q E s:=by
 refine PySem.W.set_plain X (nY ha) c.sa (rP (s:={ s with toks:=s.toks+1 }) c X (nY ha) hn ?_)
 obtain⟨cd,hc,hd⟩:=PySem.W.any_some c.hd
 have L:=looks_clsIn (M:=ED prog w) X hc
 obtain⟨hp,gs,dr,tk,sys⟩:=s
 have hxs:a≠hp.objs.size:=EV (E7 ha)
 refine cc (E5 (cc (cc (wpAny_loadPart ha (cc (PySem.W.Looks.at L ?_))))))
 rw[hd]
 refine cc (wpAny_alloc' (cc (wpAny_update' (E4 _ ha) (E5 ?_))))
 have gd:((hp.push { cls:=.type "dict",data:=.dict #[] }).update a fun o=>{ cls:=o.cls,dict:=some hp.objs.size,data:=o.data,slots:=o.slots }).get? hp.objs.size=some { cls:=.type "dict",data:=.dict #[] }:=
  (EW _ _ hxs).trans (Heap.get?_push_at rfl rfl)
 have nd:((hp.push { cls:=.type "dict",data:=.dict #[] }).update a fun o=>{ cls:=o.cls,dict:=some hp.objs.size,data:=o.data,slots:=o.slots }).Ns hp.objs.size (fun _=>none):=⟨_,#[],_,gd,rfl,fun e he=>absurd he (by simp),fun _=>rfl⟩
 show E8 _ _ (GC hp.objs.size _ name v) _ _ _
 unfold GC Builtin.ObjectAttr.newKeyGuard
 refine cc (E5 (cc (wpAny_nsSet1 (Heap.Ns1.of_empty nd) fun h' n1 sb=>?_)))
 obtain⟨oD,esD,epD,hoD,hdD,hcD⟩:=n1.count (Within.cons name v Within.nil)
 refine cc (wpAny_lookBehind hoD (by rw[hdD];exact pastItsLine_dict (Fh hcD (by rw[F8,Gd,Gi];omega))) ?_)
 wp_walk
 refine k h' _ (fun b o ne e=>?_) ?_ n1
 ·exact(sb.2 b (EV (E7 e))).trans ((EW _ _ (Ne.symm ne)).trans (E4 _ e))
 ·exact(sb.2 a hxs).trans (Fy _ (E4 _ ha) rfl)
theorem ll{od:Obj}(ha:s.heap.get? a=some (eK C t (some dx)))(hd:s.heap.get? dx=some od):PySem.W.InstAt s.heap a (eK C t (some dx)) C (some od):=⟨ha,rfl,rfl,hd⟩
theorem wo{ns:List Str}{Q:Unit->E3->Prop}(c:ClsI K C S fI)(X:K.In s.heap)(ha:s.heap.get? a=some (eK C t (some dx)))(hm:s.heap.Ns1 dx mA)(hw:Within mA ns)(hz:ns.length<=1000)(hn:findIn K (.ref C) name=some none)
 (k:∀h' tk',(∀b o,b≠dx->s.heap.get? b=some o->h'.get? b=some o)->h'.Ns1 dx (fun y=>if y=name then some v else mA y)->Q () { s with heap:=h',toks:=tk' }) :
 E8 (ED prog w) A (setAttr (.ref a) name v) Q E s:=by
 obtain⟨od,hod,_⟩:=lE hm
 refine PySem.W.set_plain X (ll ha hod) c.sa (rP (s:={ s with toks:=s.toks+1 }) c X (ll ha hod) hn ?_)
 obtain⟨cd,hc,hd⟩:=PySem.W.any_some c.hd
 have L:=looks_clsIn (M:=ED prog w) X hc
 obtain⟨hp,gs,dr,tk,sys⟩:=s
 refine cc (E5 (cc (cc (wpAny_loadPart ha (cc (PySem.W.Looks.at L ?_))))))
 rw[hd]
 refine E5 (a:=some dx) ?_
 show E8 _ _ (GC dx _ name v) _ _ _
 unfold GC Builtin.ObjectAttr.newKeyGuard
 refine cc (E5 (cc (wpAny_nsSet1 hm fun h' n1 sb=>?_)))
 obtain⟨oD,esD,epD,hoD,hdD,hcD⟩:=n1.count (Within.cons name v hw)
 refine cc (wpAny_lookBehind hoD (by rw[hdD];exact pastItsLine_dict (Fh hcD (by rw[F8,Gi];omega))) ?_)
 wp_walk
 exact k h' _ (fun b o ne e=>(sb.2 b ne).trans e) n1
theorem xU{expr:Bool}{Q:E2->E3->Prop}(sl:Slot "ValueError" "__getattribute__" "BaseException.__getattribute__")(X:K.In s.heap)(Z:ErrC K C)(hh:Gs K C=true)(ha:s.heap.get? a=some oe)(hc:oe.cls=.ref C)(hnc:PySem.W.notCls oe=true)(hd:oe.dict=some dx)(hm:s.heap.Ns1 dx mA)(hv:mA name=some v)(hn:findIn K (.ref C) name=some none)(hvh:PySem.W.handedIn v=true)
 (h:Q v { s with toks:=s.toks+1 }):E8 (ED prog w) A (getAttr (.ref a) name expr) Q E s:=by
 obtain⟨od,hod,hl⟩:=lE hm
 have I:PySem.W.InstAt s.heap a oe C (some od):=⟨ha,hc,hnc,by rw[hd];exact hod⟩
 have hf:=PySem.W.findObj_own (K:=K) (C:=C) (od:=od) hh hn rfl (by rw[hl,hv])
 obtain⟨hp,gs,dr,tk,sys⟩:=s
 have L0:=cY (M:=ED prog w) ha hc
 have L1:=looks_findIn (M:=ED prog w) X Z.ga
 have L2:=looks_findIn (M:=ED prog w) X Z.gt
 have LF:=PySem.W.looks_find (M:=ED prog w) X I hf
 have f3:=sl.bind (.ref a)
 have hx0:(expr&&onTheHeap (GF "BaseException.__getattribute__"))=false:=by cases expr<;>rfl
 have ne2:(GF "BaseException.__getattribute__"==GF "object.__getattribute__")=false:=by decide +kernel
 have ne1:(onTheHeap (F6 C)&&GF "BaseException.__getattribute__"==GF "object.__getattribute__")=false:=by rw[ne2];rfl
 have ho:=PySem.W.handedOut_of hvh
 unfold getAttr
 repeat (any_goals (first|assumption|with_reducible refine Looks.at L0 ?_|with_reducible refine Looks.at L1 ?_|with_reducible refine Looks.at L2 ?_|wp_step))
 refine Hn sl.plain F.entry_bexc_ga (lu X Z ha hc ?_)
 unfold Hm.«object.__getattribute__»
 repeat (any_goals (first|assumption|with_reducible refine Looks.at L0 ?_|with_reducible refine Looks.at LF ?_|wp_step))
end
def eU(a C:Addr)(dd:Option Addr):Heap->Prop:=fun h=>∃t,h.get? a=some (eK C t dd)
def om(a C:Addr)(dd:Option Addr):Heap->Prop:=fun h=>∃o,h.get? a=some o/\o.cls=.ref C/\o.dict=dd/\PySem.W.notCls o=true
def jB(d:Addr)(fs:List (Str×V)):Heap->Prop:=fun h=>∃mA,h.Ns1 d mA/\(∀f,oo (fs.lookup f) (mA f))/\Within mA (fs.map (·.1))
theorem okG{P:EF}{w:EZ}{H:Hp}{h:Heap}{a C t:Addr}{dd:Option Addr}(e:h.get? a=some (eK C t dd)):bB P w H h a (.ext (eU a C dd)):=⟨⟨t,e⟩,⟨_,e⟩,fun h1 h2 z k=>let⟨t,q⟩:=z;⟨t,k _ q⟩⟩
theorem okX{P:EF}{w:EZ}{H:Hp}{h:Heap}{a C:Addr}{dd:Option Addr}(e:om a C dd h):bB P w H h a (.ext (om a C dd)):=⟨e,let⟨o,q,_⟩:=e;⟨o,q⟩,fun h1 h2 z k=>let⟨o,q,r⟩:=z;⟨o,k _ q,r⟩⟩
theorem okF{P:EF}{w:EZ}{H:Hp}{h:Heap}{d:Addr}{fs:List (Str×V)}(e:jB d fs h):bB P w H h d (.ext (jB d fs)):=⟨e,let⟨_,⟨o,_,_,q,_⟩,_⟩:=e;⟨o,q⟩,fun h1 h2 z k=>let⟨mA,⟨o,es,ep,q,r⟩,z⟩:=z;⟨mA,⟨o,es,ep,k _ q,r⟩,z⟩⟩
def bS(P:EF)(w:EZ):CXT:=fun outer H s E e s'=>∃a C dd H',e=.ref a/\Fly P w outer H H' s s' a C/\(∃o,s'.heap.get? a=some o/\o.dict=dd)/\E (.ref C) dd H'
def fj(H:Hp)(a:Addr):Hp:=fun b=>if b=a then none else H b
theorem c8{H:Hp}{a b:Addr}(h:b≠a):fj H a b=H b:=by unfold fj;rw[if_neg h]
theorem pD{H:Hp}{a:Addr}:fj H a a=none:=by unfold fj;rw[if_pos rfl]
theorem qa{H:Hp}{a b:Addr}{o:HO}(h:fj H a b=some o):b≠a/\H b=some o:=by
 unfold fj at h;split at h
 ·cases h
 ·rename_i n;exact⟨n,h⟩
section
variable{P:EF}{w:EZ}{K:E1}{mg:Str->Option E2}{base:Heap}{N:List Str}{qual:Str}{scope:Gz}{f:Addr}{cd:E2}{A:EX}{outer:List Env}{s:E3}{H:Hp}{E:XK}
theorem Am{CX CX':CXT}{E':XK}{pins:List (Addr×Obj)}{σ:L2.St}{H1:Hp}{s1:E3}(I:Inv (aW CX P w K mg base N qual scope f cd A outer s H E) pins σ H1 s1):Inv (aW CX' P w K mg base N qual scope f cd A outer s H E') pins σ H1 s1:=Inv.jm I (aW CX' P w K mg base N qual scope f cd A outer s H E').xe
theorem wD:PassesOwn (ED P w) (aW (bS P w) P w K mg base N qual scope f cd A outer s H E).A (aW (bS P w) P w K mg base N qual scope f cd A outer s H E).env (aW (bS P w) P w K mg base N qual scope f cd A outer s H E).xe:=jh (f:=s.heap.objs.size) (Po:=fun e _ s''=>bS P w outer H s E e s'') (E0:=fun e e' s''=>bS P w outer H s E e' s'') rfl
theorem sr{pins:List (Addr×Obj)}{σ:L2.St}{H2:Hp}{s2:E3}{a C t:Addr}{dd:Option Addr}{φ:Heap->Prop}(I:Inv (aW (bS P w) P w K mg base N qual scope f cd A outer s H E) pins σ H2 s2)(hx:H2 a=some (.ext φ))(ho:s2.heap.get? a=some (eK C t dd))(hn:s.heap.get? a=none)(q:E (.ref C) dd (fj H2 a)) :
 (aW (bS P w) P w K mg base N qual scope f cd A outer s H E).xe (.ref a) s2:=by
 have ex0:∀x:Addr,x∉(aW (bS P w) P w K mg base N qual scope f cd A outer s H E).ex:=fun x z=>absurd (show x∈([]:List Addr)from z) (by simp)
 have na:∀x,H2 x=none->x≠a:=fun x n z=>by rw[z,hx]at n;cases n
 have stays:(iz s2.heap (a::frs (aW (bS P w) P w K mg base N qual scope f cd A outer s H E).stack)).StaysIn s2.heap:=fun b o z=>(qg z).2
 have stk:∀{x:Addr} {o:Obj},s.heap.get? x=some o->x∉frs outer->x∉a::frs (aW (bS P w) P w K mg base N qual scope f cd A outer s H E).stack:=fun{x o} e n m=>by
  rcases Fc.mp m with z|z
  ·rw[z,hn]at e;cases e
  ·exact ym (E:=E) (Am I) e n z
 refine ES (KpD.any jg (wpAny_leaving_firstW (E:=fun _ _=>False) (base:=iz s2.heap (a::frs (aW (bS P w) P w K mg base N qual scope f cd A outer s H E).stack)) (outer:=outer) (L:=(aW (bS P w) P w K mg base N qual scope f cd A outer s H E).env.locals) (a0:=.ref t) I.ok.frames (oU I.stack fun b hb=>ff (EU _ hb)) rfl ho stays (ff Fb) rfl rfl rfl (Q:=fun _ s'=>Fly P w outer H (fj H2 a) s s' a C) fun h' L=>?_)) (fun _ s'' z=>?_) (fun _ _ z=>z.elim)
 ·obtain⟨k1,⟨_,_,k2⟩,k3,k4⟩:=L
  refine⟨I.os,I.bare,⟨_,_,⟨k1,ff Fb,k2,k3⟩,fun x o z=>?_,fun x o e1 n nf=>?_,fun x o e1 nf=>?_⟩,fun x o e1 n mf=>?_,fun x o e1 n=>?_,fun b xs z=>?_,fun b o u z=>?_,fun b ps z=>?_⟩
  ·obtain⟨nx,z⟩:=qa z
   refine(I.hok x o z).dq (fun b u hb g=>?_) (fun b z=>?_) fun b xs z=>?_
   ·rw[d6]
    ·exact g
    ·intro mm
     rcases Fc.mp mm with y|y
     ·rcases hb with hb|hb
      ·exact nx (hb.symm.trans y)
      ·rw[y,hx]at hb;cases hb
     ·have:=I.fH b y
      rcases hb with hb|hb
      ·rw[hb,z]at this;cases this
      ·rw[hb]at this;cases this
   ·rw[c8 (fun y=>by rw[y,hx]at z;cases z)];exact z
   ·rw[c8 (fun y=>by rw[y,hx]at z;cases z)];exact z
  ·rw[d6 (stk e1 nf)]
   exact I.base.keep x o e1 n nf (ex0 x)
  ·rw[d6 (stk e1 nf)]
   exact I.base.there x o e1 (ex0 x)
  ·obtain⟨sl,g⟩:=I.base.slot x o e1 n mf (ex0 x)
   obtain⟨o',g',d⟩:=iS I.eL mf
   rw[g]at g';cases g'
   obtain⟨sl',g2⟩:=k4 x _ g d
   exact⟨sl',g2⟩
  ·have:=I.base.free x o e1 n (ex0 x)
   rw[c8 (na x this)];exact this
  ·have:=I.base.tups b xs z
   rw[c8 (fun y=>by rw[y,hx]at this;cases this)];exact this
  ·have:=I.base.frzs b o u z
   rw[c8 (fun y=>by rw[y,hx]at this;cases this)];exact this
  ·obtain⟨more,this⟩:=I.base.tbls b ps z
   exact⟨more,by rw[c8 (fun y=>by rw[y,hx]at this;cases this)];exact this⟩
 ·obtain⟨F,sd⟩:=z
  obtain⟨o',g',d'⟩:=sd a _ ho
  exact⟨a,C,dd,_,rfl,F,⟨o',g',d'⟩,q⟩
end
section
variable{X:Cx}{k:Nat}{fI C S:Addr}{fd:Hl}{ps:List Str}{sp:Sp}{c:Str}{np cpos pos:Pos}{e:Expr}{es:List Expr}{t:TA}
theorem y8{pins:List (Addr×Obj)}{σ:L2.St}{H:Hp}{s:E3}{Q:VK}{us:List E2}{vs:List V}(M:ClsI X.K C S fI)(F:FnOk X.prog X.w X.K X.mg X.base CX0 k fI fd ps sp)(hr:Room (k+1) X.A)(hb:Binds X.K fd ps [])(I:Inv X pins σ H s)(r:Vals vs us)(hl:us.length<=ER)
 (h:∀a,H a=none->sp (.ref a::vs) (upd H a (.ext (eU a C none))) (fun v H2=>v=.non/\Q (.ref a) H2) E0) :
 E8 (ED X.prog X.w) X.A (call (.ref C) us) (fun u s'=>∃a H2,u=.ref a/\s.heap.get? a=none/\Inv X pins σ H2 s'/\Q (.ref a) H2) X.xe s:=by
 obtain⟨cn,cq,NS,bss,hdct,sn,sub,ab,col,dd,k0,k1,k2,k3,k5,mN,oI,hC,hN,hi,ho,hf,T⟩:=M.at I.kIn
 have hq:=h (s.heap.objs.size+1) (I.hok.fresh (Nat.le_succ _))
 obtain⟨hp,gs,dr,tk,sys⟩:=s
 refine tG T hC hN hi ho hf hl fun h' kp eh=>?_
 have he:h'.get? (hp.objs.size+1)=some (eK C hp.objs.size none):=by rw[eh];exact Heap.get?_push_at (by simp) rfl
 have I2:Inv X pins σ (upd H (hp.objs.size+1) (.ext (eU (hp.objs.size+1) C none))) ⟨h',gs,dr,tk,sys⟩:=I.laid (t':=tk) kp (Nat.le_succ _) (okG he)
 have r2:Vals (V.ref (hp.objs.size+1)::vs) (F6 (hp.objs.size+1)::us):=.cons rfl r
 have hl2:((F6 (hp.objs.size+1)::us)++[]).length=ps.length:=by rw[GL,<-r2.length];exact F.len _ _ _ _ hq
 have hbb:=hb ⟨h',gs,dr,tk,sys⟩ (F6 (hp.objs.size+1)::us) I2.kIn hl2
 rw[GL]at hbb
 refine wpAny_call (codeAny_mono (F.run _ X.stack _ _ ⟨F6 (hp.objs.size+1)::us,[]⟩ (F6 (hp.objs.size+1)::us) _ _ E0 (hr.make C us []) (I2.y6.make C us []) hbb r2 hq) fun r s' hq'=>?_)
 cases r with
 |error e=>exact FC hq'
 |ok fl=>
  cases fl with
  |ret u=>
   obtain⟨v,H',I3,rv,ev,q3⟩:=I2.after hq'
   subst ev
   exact⟨rv,_,H',rfl,Heap.get?_none_of_le (Nat.le_succ _),I3,q3⟩
  |next=>exact FC hq'
  |brk=>exact FC hq'
  |cont=>exact FC hq'
theorem yF(hex:X.ex=[]){pins:List (Addr×Obj)}{σ:L2.St}{H:Hp}{s:E3}{Q:VK}(M:ClsI X.K C S fI)(F:FnOk X.prog X.w X.K X.mg X.base CX0 k fI fd ps sp)(hr:Room (k+1) X.A)(hb:Binds X.K fd ps [])(hg:Gl X c)(hm:X.mg c=some (.ref C))(ha:PA X (e::es) t)(hdb:(c==("__debug__":Str))=false)(he:EH (e::es) X.env=(false,eval e X.env)::EH es X.env)(hpl:(G6 cpos (EH es X.env)).any (·.1)=false)(I:Inv X pins σ H s) (h:t σ H fun vs H1=>vs.length<=ER/\∀a,H1 a=none->sp (.ref a::vs) (upd H1 a (.ext (eU a C none))) (fun v H2=>v=.non/\Q (.ref a) H2) E0) : E8 (ED X.prog X.w) X.A (eval (.Call (.Name c np) (e::es) [] cpos) X.env) (fun u s'=>∃a H2,u=.ref a/\X.s₀.heap.get? a=none/\Inv X pins σ H2 s'/\Q (.ref a) H2) X.xe s:=by
 refine GY (fD I hg hm ?_ hdb);refine PySem.W.callWith_K (h₀:=X.base) I.ok.mod.kin M.kp (thn (ha cpos pins s σ H _ I h) fun us s1 ⟨vs,H1,I1,r,hl,q⟩=>⟨I1.kIn,?_⟩) he hpl;refine thn (y8 (us:=us) M F hr hb I1 r (by rw[<-r.length];exact hl) q) fun u s' ⟨a,H2,eu,en,I2,q2⟩=>⟨a,H2,eu,?_,I2,q2⟩;cases z:X.s₀.heap.get? a with
 |none=>rfl
 |some o=>
  obtain⟨o',g⟩:=I1.base.there a o z (by rw[hex];simp)
  rw[en]at g;cases g
def D0(C:Addr)(sp:Sp)(t:TA):TE:=fun σ H Q=>t σ H fun vs H1=>vs.length<=ER/\∀a,H1 a=none->sp (.ref a::vs) (upd H1 a (.ext (eU a C none))) (fun v H2=>v=.non/\Q (.ref a) H2) E0
end
section
variable{M:Model}{A:EX}{E:E2->E3->Prop}{s:E3}{env:Env}{K:E1}
theorem t6{x:Sem E2}{Q:Flow->E3->Prop}(hh:A.handled=none)
 (h:E8 M A x (fun v s1=>∃a C t dd oC,v=.ref a/\s1.heap.get? a=some (eK C t dd)/\(s1.heap.get? C=some oC/\oC.cls=.type "type")/\K.In s1.heap/\Fd K (.ref C) (.type "BaseException")=some true/\E (.ref a) s1) E s):E8 M A (raiseStmt env (some x) none) Q E s:=by
 unfold raiseStmt
 refine cc (ES h (fun v s1 z=>?_) fun _ _ z=>z)
 obtain⟨a,C,t,dd,oC,rfl,ha,⟨hC,hCc⟩,X,hB,q⟩:=z
 have L0:=cY (M:=M) ha rfl
 have L1:=PySem.W.looks_subIn (M:=M) X hB
 obtain⟨hp,gs,dr,tk,sys⟩:=s1
 unfold excFromValue isExcClass isType isInstance
 repeat (first|with_reducible refine wpAny_loadPart_at ha ?_|(with_reducible refine wpAny_loadPart_at hC ?_;rw[hCc])|with_reducible refine PySem.W.Looks.at L0 ?_|with_reducible refine PySem.W.Looks.at L1 ?_|wp_step)
 exact wpAny_raiseNew_none hh q
end
section
variable{P:EF}{w:EZ}{K:E1}{mg:Str->Option E2}{base:Heap}{N:List Str}{qual:Str}{scope:Gz}{f:Addr}{cd:E2}{A:EX}{outer:List Env}{s:E3}{H:Hp}{E:XK}
variable{k:Nat}{fI C S:Addr}{fd:Hl}{ps:List Str}{sp:Sp}{c:Str}{np cpos pos:Pos}{e:Expr}{es:List Expr}{t:TA}
theorem tL(M:ClsI K C S fI)(hB:Fd K (.ref C) (.type "BaseException")=some true)(F:FnOk P w K mg base CX0 k fI fd ps sp)(hr:Room (k+1) (aW (bS P w) P w K mg base N qual scope f cd A outer s H E).A)(hb:Binds K fd ps [])(hg:Gl (aW (bS P w) P w K mg base N qual scope f cd A outer s H E) c)(hm:mg c=some (.ref C))(ha:PA (aW (bS P w) P w K mg base N qual scope f cd A outer s H E) (e::es) t)(hdb:(c==("__debug__":Str))=false) (he:EH (e::es) (aW (bS P w) P w K mg base N qual scope f cd A outer s H E).env=(false,eval e (aW (bS P w) P w K mg base N qual scope f cd A outer s H E).env)::EH es (aW (bS P w) P w K mg base N qual scope f cd A outer s H E).env) (hpl:(G6 cpos (EH es (aW (bS P w) P w K mg base N qual scope f cd A outer s H E).env)).any (·.1)=false) : PS (aW (bS P w) P w K mg base N qual scope f cd A outer s H E) (.Raise (some (.Call (.Name c np) (e::es) [] cpos)) none pos) (fun D σ H1=>D0 C sp t σ H1 fun v H2=>∃a dd,v=.ref a/\H2 a=some (.ext (eU a C dd))/\E (.ref C) dd (fj H2 a)):=by intro pins s1 σ H1 D I q;rw[arm_exec_Raise];refine cc (Hq (t6 (K:=K) (I.ok.hd rfl) (cc (ES (yF (Q:=fun v H2=>∃a dd,v=.ref a/\H2 a=some (.ext (eU a C dd))/\E (.ref C) dd (fj H2 a)) rfl M F hr hb hg hm ha hdb he hpl I q) (fun u s' z=>cc (Hq (E5 ?_))) fun _ _ z=>z))));obtain⟨a,H2,rfl,en,I2,a',dd,ea,hx,q2⟩:=z;cases ea;obtain⟨⟨t0,g⟩,_⟩:=I2.hok a _ hx;obtain⟨_,_,_,_,_,_,_,_,_,_,_,_,_,_,_,_,_,hC,_⟩:=M.at I2.kIn;exact⟨a,C,t0,dd,_,rfl,g,⟨hC,rfl⟩,I2.kIn,hB,sr I2 hx g en q2⟩
end
structure ErrK(K:E1)(C:Addr):Prop where
 c:ErrC K C
 s:(PySem.W.clsIn K C).isSome=true
def D1:D->Option E2
 |.ty n=>some (.type n)
 |.ref d=>some (.ref d)
 |_=>none
section
variable{X:Cx}
def yJ:V->List V->Hp->VK->Prop:=fun x vs H Q=>∃l,∃bs:List Bool,x=.ref l/\vs=[.bl true]/\H l=some (.lst (bs.map V.bl))/\Q (.int ((bs.countP (·==true):Nat):Int)) H
theorem vA:MtM X "list.count" yJ:=by
 intro pins s σ H x vs v us Q I rx rv z0;obtain⟨l,bs,ex,ev,hH,q⟩:=z0;subst ex ev;cases rx;obtain⟨u1,rfl,r1⟩:=rv.one;cases (show u1=FY true from r1);obtain⟨z,its,n,r,hl,e⟩:=I.kh hH;have hits:=jW r;subst hits;refine call_meets PySem.F.slot_list_count ⟨_,e,rfl⟩ PySem.F.entry_list_count (PySem.F.args_list_count_2 _ _) (PySem.SeqAt.list_countAt l (bs.map FY).toArray n none #[] (.bool true) (fun y=>match y with|.bool b=>b==true|_=>false)) ⟨e,fun y hy=>?_,?_⟩
 ·simp only[List.mem_toArray,FH]at hy;obtain⟨b,_,rfl⟩:=hy;exact PySem.SeqAt.EqAt.bool_bool b true
 ·refine⟨.int _,H,I.tok _,⟨_,rfl⟩,?_⟩
  have:List.countP (fun y=>match y with|FY b=>b==true|_=>false) (bs.map FY)=bs.countP (·==true):=by
   rw[List.countP_map];rfl
  show Q (.int ((List.countP _ (bs.map FY):Nat):Int)) H;rw[this];exact q
def Ck(to:TD)(t:TAD):TD:=fun δ M Q=>to δ M fun x M1=>∃l ys,x=.ref l/\M1 l=some (.lst ys)/\t δ M1 fun ds M2=>∃bs:List Bool,ds=[.bl true]/\M2 l=some (.lst (bs.map D.bl))/\Q (.int ((bs.countP (·==true):Nat):Int)) M2
theorem kZ{K:E1}{H:Hp}:∀{bs:List Bool} {xs:List V},aB K H (bs.map D.bl) xs->xs=bs.map V.bl
 |[],_,h=>by simpa[aB]using h
 |b::bs,_,h=>by
  rw[EJ,aB]at h
  obtain⟨x,r,rfl,h1,h2⟩:=h
  rw[Rep]at h1
  rw[kZ h2,h1];rfl
variable{o e1:Expr}{to:TD}{t:TAD}{apos cpos:Pos}
theorem qr(ho:DE X o to)(ha:DA X [e1] t)
 (hbase:attributeBase o "count" X.env (eval o X.env)=eval o X.env:=by rfl)
 (hfew:((G6 cpos (EH [e1] X.env)).all (fun x=>!x.1)&&(backToKw cpos (keywordEach [] X.env)).all (fun x=>x.1.isSome)
  && decide ([e1].length+([]:List Keyword).length+(if([]:List Keyword).isEmpty then 0 else 1)<30))=true:=by rfl)
 (hline:(apos.endLine==cpos.line)=true:=by rfl) (hs:EH [e1] X.env=(false,eval e1 X.env)::EH [] X.env:=by rfl) (hplain:(G6 cpos (EH [] X.env)).any (·.1)=false:=by rfl) :
 DE X (.Call (.Attribute o "count" apos) [e1] [] cpos) (Ck to t):=
 aV (xb PySem.F.plainAttrs_list PySem.F.slot_list_count PySem.F.type_list_count vA ho ha hbase hfew hline hs hplain) fun σ H Q ⟨δ,M,R,hsl,hM,q,fin⟩=>by
  refine⟨δ,M,_,hsl,hM,q,fun x M1 v H1 g1 r1 a1 zz1_0=>?_⟩
  obtain⟨l,ys,ex,hl,q1⟩:=zz1_0
  subst ex
  rw[Rep]at r1
  subst r1
  obtain⟨vs,hvs,_⟩:=a1 _ _ hl
  refine⟨.inl ⟨rfl,vs,SqL.of hvs⟩,δ,M1,_,hsl.mono g1,a1,q1,fun ds M2 us H2 g2 r2 a2 zz2_0=>?_⟩
  obtain⟨bs,ed,hx,q2⟩:=zz2_0
  subst ed
  obtain⟨u1,rfl,ru1⟩:=bF r2
  rw[Rep]at ru1
  subst ru1
  obtain⟨ws,hws,rws⟩:=a2 _ _ hx
  have hw:=kZ rws
  subst hw
  exact⟨l,bs,rfl,rfl,hws,fin _ _ _ _ (g1.trans g2) (by rw[Rep]) a2 q2⟩
end
def cl(K:E1)(x:Str):Addr:=match Fo K EY x with
 |some (some (.ref C))=>C
 |_=>0
section
variable{K:E1}{x y:Str}{C D:Addr}{b:Bool}
theorem dI(a:Fo K EY x=some (some (.ref C))):cl K x=C:=by unfold cl;rw[a]
theorem iG{h:Heap}{mg:Str->Option E2}(X:K.In h)(G:h.Ns EY mg)(a:Fo K EY x=some (some (.ref C))):mg x=some (.ref (cl K x)):=by rw[dI a];exact PySem.W.mg_of X G a
theorem DV(a:Fo K EY x=some (some (.ref C)))(b:Hs K C veM "ValueError.__new__"=true):ClsE K x (cl K x):=by rw[dI a];exact⟨a,b⟩
theorem rY{n:String}(a:Fo K EY x=some (some (.ref C)))(h:Fd K (.ref C) (.type n)=some b):Fd K (.ref (cl K x)) (.type n)=some b:=by rw[dI a];exact h
theorem A6(a:Fo K EY x=some (some (.ref C)))(a':Fo K EY y=some (some (.ref D)))(h:Fd K (.ref C) (.ref D)=some b):Fd K (.ref (cl K x)) (.ref (cl K y))=some b:=by rw[dI a,dI a'];exact h
theorem xr{n:String}(a:Fo K EY x=some (some (.ref C)))(h:Fd K (.ref C) (.type n)=some b)(hk:PySem.W.kitMeta n=true):F5 K (.ref (cl K x)) (.type n)=some b:=by rw[dI a];unfold F5 PySem.W.kitCls;rw[if_neg (by intro z;cases (beq_iff_eq.mp z))];show(if PySem.W.kitMeta n=true then _ else _)=_;rw[if_pos hk];exact h
theorem hZ{dd:Option Addr}{cd:ClassData}{sl:Array (Option E2)}(a:Fo K EY x=some (some (.ref C)))(a':Fo K EY y=some (some (.ref D)))(h:Fd K (.ref C) (.ref D)=some b)(l:K.lookup D=some ⟨.type "type",dd,.cls cd,sl⟩)(ne:(C==D)=false):F5 K (.ref (cl K x)) (.ref (cl K y))=some b:=by
 rw[dI a,dI a']
 have n:(F6 C==F6 D)=false:=by
  refine Bool.eq_false_iff.mpr fun q=>?_
  have e:C=D:=F6.inj (beq_iff_eq.mp q)
  subst e
  simp at ne
 unfold F5 PySem.W.kitCls;rw[n];unfold PySem.W.clsIn PySem.W.typeIn;simp only[l];exact h
theorem xX:F5 K (.ref C) (.ref C)=some true:=by unfold F5;rw[if_pos (beq_self_eq_true _)]
theorem Cj{dd:Option Addr}{cd:ClassData}{sl:Array (Option E2)}(a:Fo K EY x=some (some (.ref C)))(h1:PySem.W.findIn K (.ref C) "__getattribute__"=some (some (.builtin "BaseException.__getattribute__")))(h2:PySem.W.findIn K (.ref C) "__getattr__"=some none)(h3:PySem.W.findIn K (.ref C) "__class__"=some (some (.builtin "object.__class__"))) (h4:Fd K (.ref C) (.type "BaseException")=some true) (h5:PySem.W.mroIn K C (.type "object")=some true) (h6:K.lookup C=some ⟨.type "type",dd,.cls cd,sl⟩):ErrK K (cl K x):=by rw[dI a];refine⟨⟨h1,h2,h3,h4,h5⟩,?_⟩;unfold PySem.W.clsIn;simp only[h6,Option.isSome]
end
theorem kl:Fp "ValueError"=some (.type "ValueError"):=by decide +kernel
section
variable{X:Cx}{pins:List (Addr×Obj)}{σ:L2.St}{H:Hp}{s:E3}{a:Addr}
theorem jR{o:HO}(I:Inv X pins σ H s)(hn:H a=none)(h0:∀o,X.s₀.heap.get? a=some o->X.H₀ a≠none)(hL:a≠X.env.locals)(hc:∀x c,X.env.cells.lookup x=some c->c≠a)(hp:∀p∈X.pn++pins,p.1≠a)(hφ:bB X.prog X.w (upd H a o) s.heap a o):Inv X pins σ (upd H a o) s:=by
 have ne:∀{b:Addr} {o:HO},H b=some o->b≠a:=fun{b o} e z=>by rw[z,hn]at e;cases e
 refine⟨I.ok,I.os,I.bare,⟨I.base.keep,I.base.slot,fun b o e n hx=>?_,I.base.there,fun b xs e=>?_,fun b o u e=>?_,fun b ps e=>?_⟩,I.loc,I.cell,?_,fun x c e=>?_,fun p hpp=>?_,fun b o e=>?_,I.len⟩
 ·by_cases z:b=a
  ·subst z;exact absurd n (h0 o e)
  ·rw[az z];exact I.base.free b o e n hx
 ·have:=I.base.tups b xs e;rw[az (ne this)];exact this
 ·have:=I.base.frzs b o u e;rw[az (ne this)];exact this
 ·obtain⟨more,this⟩:=I.base.tbls b ps e;exact⟨more,by rw[az (ne this)];exact this⟩
 ·rw[az hL.symm];exact I.free
 ·rw[az (hc x c e)];exact I.freeC x c e
 ·obtain⟨e,n,r⟩:=I.pin p hpp;exact⟨e,by rw[az (hp p hpp)];exact n,r⟩
 ·by_cases z:b=a
  ·subst z;rw[ay]at e;cases e;exact hφ
  ·rw[az z]at e;exact(I.hok b o e).dq (fun _ _ _ q=>q) (fun c q=>by rw[az (ne q)];exact q) fun c xs q=>by rw[az (ne q)];exact q
end
theorem KpD.use{α:Type}{t:Sem α}(k:KpD t){M:Model}{A:EX}{Q:α->E3->Prop}{E:E2->E3->Prop}{s:E3}(h:E8 M A t (fun a s'=>gG s.heap s'.heap->Q a s') E s):E8 M A t Q E s:=ES (KpD.any k h) (fun _ _ z=>z.1 z.2) fun _ _ z=>z.elim
def Au(X:Cx)(body:List Stmt)(tR:TR):Prop:=
 ∀(pins:List (Addr×Obj)) (s:E3) (σ:L2.St) (H:Hp) (E:Hp->XK),Inv X pins σ H s->tR σ H E->E8 (ED X.prog X.w) X.A (execs body X.env) (fun _ _=>False) (fun e s'=>∃H1 s1,Inv X pins σ H1 s1/\bS X.prog X.w X.stack H1 s1 (E H1) e s') s
def Ap(X:Cx)(ex:Expr)(tR:TR):Prop:=
 ∀(pins:List (Addr×Obj)) (s:E3) (σ:L2.St) (H:Hp) (E:Hp->XK),Inv X pins σ H s->tR σ H E->E8 (ED X.prog X.w) X.A (eval ex X.env) (fun _ _=>False) (fun e s'=>∃H1 s1,Inv X pins σ H1 s1/\bS X.prog X.w X.stack H1 s1 (E H1) e s') s
section
variable{Y:Cx}{k:Nat}{f:Addr}{fd:Hl}{ps:List Str}{sp:Sp}{x:Str}{p pos:Pos}{e:Expr}{es:List Expr}{t:TA}
theorem xc(F:FnOk Y.prog Y.w Y.K Y.mg Y.base (bS Y.prog Y.w) k f fd ps sp)(hr:Room k Y.A)(hg:Gl Y.nox x)(hm:Y.mg x=some (.ref f))(hk:G7 Y.K (.ref f)=true)(hb:Binds Y.K fd ps [])
 (ha:PA Y.nox (e::es) t) (hdb:(x==("__debug__":Str))=false) (he:EH (e::es) Y.env=(false,eval e Y.env)::EH es Y.env) (hpl:(G6 pos (EH es Y.env)).any (·.1)=false) :
 Ap Y.nox (.Call (.Name x p) (e::es) [] pos) (fun σ H E=>t σ H fun vs H1=>sp vs H1 (fun _ _=>False) (E H1)):=by
 intro pins s σ H E I h
 refine GY (fD I hg hm ?_ hdb)
 refine PySem.W.callWith_K (h₀:=Y.base) I.ok.mod.kin hk (thn (ES (ha pos pins s σ H _ I h) (fun _ _ z=>z) (fun _ _ z=>z.elim)) fun us s1 ⟨vs,H1,I1,r,q⟩=>⟨I1.kIn,?_⟩) he hpl
 have hl:(us++[]).length=ps.length:=by rw[GL,<-r.length];exact F.len _ _ _ _ q
 have hbb:=hb s1 us I1.kIn hl
 rw[GL]at hbb
 refine wpAny_call (codeAny_mono (F.run Y.A Y.stack s1 H1 ⟨us,[]⟩ us vs _ (E H1) hr I1.y6 hbb r q) fun r s' hq=>?_)
 cases r with
 |error e=>exact⟨H1,s1,I1,hq⟩
 |ok fl=>
  cases fl with
  |ret u=>obtain⟨v,H',_,_,_,_,_,z⟩:=hq;exact z.elim
  |next=>exact FC hq
  |brk=>exact FC hq
  |cont=>exact FC hq
theorem xG{ex:Expr}{tR:TR}{y:Str}{pos':Pos}(h:Ap Y.nox ex tR)(hs:Ht ex (some (.Name y pos')) pos.line Y.env=pure false):Au Y.nox [.Assign [.Name y pos'] ex pos] tR:=by intro pins s σ H E I q;refine wpAny_execs_cons (Q:=fun _ _=>False) (thn (Q:=fun _ _=>False) ?_ fun f s1 z=>z.elim);exact wpAny_Assign_Name (thn (h pins s σ H E I q) fun v s1 z=>z.elim) hs
end
def Du(K:E1)(S:Addr)(j:Nat)(tb:TS)(tR:TR)(th:TS):TS:=fun D σ H=>tb D σ H\/
 tR σ H fun H1 cv dd H'=>∃C,cv=.ref C/\Fd K (.ref C) (.ref S)=some true/\(Grow K H1 H'->∀a,H' a=none->th (gone j D) (σ.set j (some (.ref a))) (upd H' a (.ext (om a C dd))))
theorem xK{Y:Cx}{body:List Stmt}{b₀:Stmt}{bs:List Stmt}{c n:Str}{cp hp pos:Pos}{j:Nat}{S:Addr}{tb:TS}{tR:TR}{th:TS} (hst:Y.stack=Y.env::Y.outer) (hfr:Y.env.frame=some Y.env.locals) (hex:Y.ex=[]) (hN:Y.N.Nodup) (hj:Y.N[j]?=some n) (hk:Y.env.scope.names.lookup n=some .local) (hg:Gl Y.nox c) (hm:Y.mg c=some (.ref S)) (hdb:(c==("__debug__":Str))=false) (hS:Hs Y.K S veM "ValueError.__new__"=true) (hB:Fd Y.K (.ref S) (.type "BaseException")=some true) (hb:PSs Y.nox body tb) (hr:Au Y.nox body tR) (hh:∀a,PSs (hold Y.nox a) (b₀::bs) th) : PS Y.nox (.Try body [.ExceptHandler (some (.Name c cp)) (some n) (b₀::bs) hp] [] [] pos) (Du Y.K S j tb tR th):=by
 intro pins s σ H D I h;refine wpAny_Try_except ?_;rcases h with h|h
 ·refine ES (hb pins s σ H D I h) (fun fl s1 q=>?_) (fun _ _ z=>z.elim);cases fl with
  |next=>exact wpAny_execs_nil q
  |brk=>exact q
  |cont=>exact q
  |ret u=>exact q
 ·refine ES (hr pins s σ H _ I h) (fun _ _ z=>z.elim) fun e s' zz1_0=>?_;obtain⟨H1,s1,I1,a,C,dd,H',he,F,⟨oD,gD,dD⟩,C',hC,hsub,q⟩:=zz1_0;subst he;cases hC;obtain⟨b,a0,fl,hok,kp,thr⟩:=id F.bs;have fl3:s'.heap.FunFrames b (Y.env::Y.outer):=by rw[<-hst];exact fl.2.2.1
  have mk:∀h3:Heap,b.StaysIn h3->h3.FunFrames b (Y.env::Y.outer)->h3.TracedW b a (.ref C) a0->(∀x o,s'.heap.get? x=some o->(∀vs:Array E2,o.data≠.fields vs)->∃sl,h3.get? x=some { o with slots:=sl })->Fly Y.prog Y.w Y.stack H1 H' s1 { s' with heap:=h3 } a C:=
   fun h3 c1 c2 c3 c4=>⟨F.os,F.bare,⟨b,a0,⟨c1,fl.2.1,by rw[hst];exact c2,c3⟩,hok,kp,thr⟩,fun x o e n m=>by
    obtain⟨sl,g⟩:=F.slot x o e n m
    obtain⟨o',g',d⟩:=iS fl.2.2.1 m
    rw[g]at g';cases g'
    obtain⟨sl',g2⟩:=c4 x _ g d
    exact⟨sl',g2⟩,F.free,F.tups,F.frzs,F.tbls⟩
  refine KpD.use rb (wpAny_noteFrame_onW (base:=b) (outer:=Y.outer) (L:=Y.env.locals) (by rw[<-hst];exact I1.ok.frames) fl3 hfr fl.2.2.2 fl.1 fl.2.1 fun h2 nt sd2=>?_);refine KpD.use eB (wpAny_setFlight_noneW (base:=b) (l:=Y.env::Y.outer) nt.1 nt.2.1 nt.2.2.1 fun h3 st3 ff3 tr3 kp3 sd3=>?_);have F3:=mk h3 st3 ff3 tr3 fun x o e d=>by obtain⟨sl,g⟩:=nt.2.2.2 x o e d;exact⟨sl,kp3 x _ g d⟩
  have I3:Inv Y.nox pins σ H' { s' with heap:=h3 }:=I1.qF F3.os (F3.un I1.fH) F3.hok F3.bare (ch:=[]) (fun b z=>absurd z (by simp));refine wpAny_handleBy_cons (codeAny_handlers_test ?_) (by intro z;cases z);refine fD (X:=hold Y.nox a) (oM I3) hg hm ?_ hdb;obtain⟨oe,vs,T,oT,ts,ho,⟨hcl,_⟩,_⟩:=id tr3;refine oB (K:=Y.K) I3.kIn ho hcl hS hB hsub ?_;show Hc _ _ (Code.handlers (.ref a) [.ExceptHandler none (some n) (b₀::bs) hp] Y.env) _ _;refine codeAny_handlers_suite_as ?_;refine KpD.use eB (wpAny_setFlight_noneW (base:=b) (l:=Y.env::Y.outer) st3 ff3 (show h3.TracedAtW b a (.ref C) a0 Fi from tr3) fun h4 st4 ff4 tr4 kp4 sd4=>?_);have F4:=mk h4 st4 ff4 tr4 fun x o e d=>by obtain⟨sl,g⟩:=nt.2.2.2 x o e d;exact⟨sl,kp4 x _ (kp3 x _ g d) d⟩
  have I4:Inv Y.nox pins σ H' { s' with heap:=h4 }:=I1.qF F4.os (F4.un I1.fH) F4.hok F4.bare (ch:=[]) (fun b z=>absurd z (by simp));have ex0:∀x:Addr,x∉Y.nox.ex:=fun x z=>by rw[show Y.nox.ex=[]from hex]at z;simp at z
  have I5:Inv Y.nox pins σ (upd H' a (.ext (om a C dd))) { s' with heap:=h4 }:=by
   refine jR I4 F4.new (fun o e n=>?_) (fun z=>?_) (fun x c e z=>?_) (fun p hp z=>?_) ?_
   ·obtain⟨sl,g⟩:∃sl,s1.heap.get? a=some { o with slots:=sl }:=by
     by_cases mf:a∈Y.nox.fs
     ·exact I1.base.slot a o e n mf (ex0 a)
     ·exact⟨o.slots,I1.base.keep a o e n mf (ex0 a)⟩
    exact F.apart g (I1.base.free a o e n (ex0 a)) rfl
   ·obtain⟨m,⟨o,_,_,g,_⟩,_⟩:=I1.loc;exact F.apart g I1.free z.symm
   ·obtain⟨v,o,g,_⟩:=I1.cell x c e;exact F.apart g (I1.freeC x c e) z
   ·obtain⟨g,n,_⟩:=I1.pin p hp;exact F.apart g n z
   ·obtain⟨oe,vs,T,oT,ts,ho,⟨hcl,_⟩,hdt,_⟩:=id tr4;obtain⟨o',g',d'⟩:=(sd2.trans (sd3.trans sd4)) a oD gD;have g':h4.get? a=some o':=g';rw[ho]at g';cases g';exact okX ⟨oe,ho,hcl,d'.trans dD,by unfold PySem.W.notCls;rw[hdt]⟩
  refine ft (X:=Y.nox) (v:=.ref a) I5 hN hj (.inl hk) rfl (fun s6 I6=>?_) (.inr hk);refine ES (hh a pins s6 _ _ (gone j D) (oM I6) (q (xA (F.un I1.fH)) a F4.new)) (fun f s7 hs=>?_) (fun _ _ z=>z.elim);show E8 _ _ (do bindName Y.env n Fi;unbindBehindTheSuite Y.env n hp) (fun _ s₃=>SP Y.nox pins D f s₃) _ s7;cases f with
  |next=>obtain⟨σ',H2,J,z⟩:=hs;exact fF (X:=Y.nox) (eD (X:=Y.nox) I.ok J) hN hj hk fun s8 J8=>⟨_,H2,J8,z⟩
  |brk=>obtain⟨σ',H2,J,z⟩:=hs;exact fF (X:=Y.nox) (eD (X:=Y.nox) I.ok J) hN hj hk fun s8 J8=>⟨_,H2,J8,z⟩
  |cont=>obtain⟨σ',H2,J,z⟩:=hs;exact fF (X:=Y.nox) (eD (X:=Y.nox) I.ok J) hN hj hk fun s8 J8=>⟨_,H2,J8,z⟩
  |ret u=>obtain⟨v,σ',H2,J,r,z⟩:=hs;exact fF (X:=Y.nox) (eD (X:=Y.nox) I.ok J) hN hj hk fun s8 J8=>⟨v,_,H2,J8,r,z⟩
open PySem.W (findIn)
section
variable{X:Cx}
def Part(X:Cx)(e:Expr)(c:L2.St->Hp->Prop):Prop:=∀(pins:List (Addr×Obj)) (s:E3) (σ:L2.St) (H:Hp),Inv X pins σ H s->c σ H->E8 (ED X.prog X.w) X.A (eval e X.env) (fun v s'=>∃x t,v=.str x t/\x.length<=1000/\Inv X pins σ H s') X.xe s
def Parts(X:Cx):List Expr->(L2.St->Hp->Prop)->Prop
 |[],c=>∀σ H,c σ H
 |e::es,c=>∃c1 c2,Part X e c1/\Parts X es c2/\∀σ H,c σ H->c1 σ H/\c2 σ H
theorem uN{x:Str}{j}{p:Pos}(h:x.length<=1000):Part X (.Constant (.str x) j p) (fun _ _=>True):=fun pins s σ H I _=>Calls.Constant_str ⟨x,_,rfl,h,I.tok _⟩
theorem wy(n:Nat)(h:n<10^6):(F9 (toString ((n:Nat):Int))).length<=1000:=by
 have e:(F9 (toString ((n:Nat):Int))).length=(F9 (toString ((n:Nat):Int))).cps.toList.length:=by simp[PySem.Str.length]
 rw[e,PySem.W.KIN.signs_num,E6];exact Fh ((Nat.length_toDigits_le_iff (b:=10) (k:=6) (by decide) (by decide)).mpr h) (by decide)
def Small(v:V):Prop:=v=.non\/∃i:Int,v=.int i/\0<=i/\i<1000000
theorem wX{e:Expr}{te:TE}{p:Pos}(he:PE X e te):Part X (.FormattedValue e (-1) none p) (fun σ H=>te σ H fun v H1=>H1=H/\Small v):=by
 intro pins s σ H I h;refine wpAny_FormattedValue_plain (thn (he pins s σ H _ I h) fun v s1 z=>?_);obtain⟨x,H1,I1,r1,eH,q1⟩:=z;subst eH;rcases q1 with rfl|⟨i,rfl,h0,h1⟩
 ·cases (show v=Fi from r1);exact wpAny_formatField_none ⟨_,_,rfl,by decide +kernel,I1.tok _⟩
 ·obtain⟨t,rfl⟩:=(show ∃t,v=Value.int i t from r1)
  have hz:i.natAbs.log2<1920:=by
   have:i.natAbs<2^20:=by omega
   by_cases z:i.natAbs=0
   ·rw[z];decide
   ·exact Nat.lt_trans ((Nat.log2_lt z).mpr this) (by decide)
  refine wpAny_formatField_int hz ⟨_,_,rfl,?_,I1.tok _⟩;have:=wy i.toNat (by omega);rw[show((i.toNat:Nat):Int)=i by omega]at this;exact this
theorem nJ{pins:List (Addr×Obj)}{Q:VK}{σ:L2.St}{H:Hp}:∀{es:List Expr} {ts:List (Sem E2)} {c:L2.St->Hp->Prop} {acc:Str} {s:E3},ts=es.map (fun e=>eval e X.env)->Parts X es c->c σ H->Inv X pins σ H s->acc.length+1000*es.length<=ER->(∀m,Q (.str m) H)->
 Joins (ED X.prog X.w) X.A X.xe ts acc (fun out s1=>out.length<=ER/\EP X pins σ Q (.str out s1.toks) { s1 with toks:=s1.toks+1 }) s
 |[],ts,c,acc,s,et,hp,hc,I,hl,q=>by
  subst et
  exact⟨by simpa using hl,.str acc,H,I.tok _,⟨_,rfl⟩,q _⟩
 |e::es,ts,c,acc,s,et,hp,hc,I,hl,q=>by
  subst et
  obtain⟨c1,c2,h1,h2,h3⟩:=hp
  obtain⟨d1,d2⟩:=h3 σ H hc
  refine ES (h1 pins s σ H I d1) (fun v s1 z=>?_) fun _ _ z=>z
  obtain⟨x,t,rfl,lx,I1⟩:=z
  have la:(acc++x).length=acc.length+x.length:=PySem.Str.length_append acc x
  rw[F8]at hl
  exact⟨x,t,rfl,by omega,nJ rfl h2 d2 I1 (by omega) q⟩
def CO(c:L2.St->Hp->Prop):TE:=fun σ H Q=>c σ H/\∀m,Q (.str m) H
theorem yO{e1 e2:Expr}{es:List Expr}{p:Pos}{c:L2.St->Hp->Prop}(h:Parts X (e1::e2::es) c)(hl:es.length<=10)(he:evalEach (e1::e2::es) X.env=(e1::e2::es).map (fun e=>eval e X.env)):PE X (.JoinedStr (e1::e2::es) p) (CO c):=by
 intro pins s σ H Q I q;refine wpAny_JoinedStr ?_
 have:(Str.empty).length+1000*(e1::e2::es).length<=ER:=by
  have z:20000<=ER:=nbL rfl
  have y:(Str.empty).length=0:=rfl
  simp only[F8];omega
 exact nJ he h q.1 I this q.2
end
section
variable{X:Cx}{S:Addr}{c:Str}{a1 a2:Expr}{np apos cpos pos:Pos}{t:TA}
structure ClsB(K:E1)(S:Addr):Prop where
 ga:PySem.W.specialIn K (.ref S) "__getattribute__"=some (some (.builtin "type.__getattribute__"))
 rd:PySem.W.readsIn K S (.type "type")=true
 fi:PySem.W.findCls K (.ref S) (.type "type") "__init__"=some (.val (.builtin "ValueError.__init__"))
def zx(K:E1)(S:Addr)(t:TA):TE:=fun σ H Q=>t σ H fun vs H1=>∃a x C fI dd,vs=[.ref a,.str x]/\ClsI K C S fI/\H1 a=some (.ext (eU a C dd))/\Q .non (upd H1 a (.ext (eU a C dd)))
theorem xD{pl:Sem Bool}(B:ClsB X.K S)(hg:Gl X c)(hm:X.mg c=some (.ref S))(ha:PA X [a1,a2] t)(hdb:(c==("__debug__":Str))=false)(hst:EH [a1,a2] X.env=(false,eval a1 X.env)::EH [a2] X.env)(hpl:(G6 cpos (EH [a2] X.env)).any (·.1)=false)
 (ht:eval (.Call (.Attribute (.Name c np) "__init__" apos) [a1,a2] [] cpos) X.env=(do
  let ov <-eval (.Name c np) X.env
  standAt apos.atName
  let(f,first) <-holding [ov] (getMethod ov "__init__" pl)
  callWith cpos f first (G6 cpos (EH [a1,a2] X.env)) (backToKw cpos (keywordEach [] X.env)))):PE X (.Call (.Attribute (.Name c np) "__init__" apos) [a1,a2] [] cpos) (zx X.K S t):=by
 intro pins s σ H Q I h
 refine PySem.W.methodCall_KW (pl:=pl) (fD I hg hm ?_ hdb) ht
 refine PySem.W.method_cls I.kIn B.ga (PySem.W.cls_value I.kIn B.rd B.fi rfl ?_)
 have I0:=I.tok (s.toks+1)
 have hp2:((G6 cpos (EH [a1,a2] X.env)).any (·.1)||false)=false:=by rw[hst];show((false||(G6 cpos (EH [a2] X.env)).any (·.1))||false)=false;rw[hpl];rfl
 have ha2:=ha cpos pins _ σ H _ I0 h
 rw[hst]at ha2 hp2 ⊢
 refine PySem.W.callWith_of (P:=fun h=>X.K.In h) hp2 (fun h _=>⟨.machine,.inr (.inl rfl),.now⟩) (Calls.evalArgs_plain (thn ha2 fun us s1 z=>?_))
 obtain⟨vs,H1,I1,r,a,x,C,fI,dd,ev,M,hx,q⟩:=z
 subst ev
 obtain⟨u1,u2,rfl,ru1,ru2⟩:=vals2 r
 cases (show u1=F6 a from ru1)
 refine⟨I1.kIn,?_⟩
 obtain⟨⟨t0,g⟩,_⟩:=I1.hok a _ hx
 refine si M I1.kIn g fun h' kp g'=>⟨.non,_,I1.write (x:=a) (e:=a) (t':=s1.toks) (by rw[hx];exact GB) (.inl rfl) (fun b u ne e=>kp b u ne e) ⟨_,g'⟩ (okG g'),rfl,q⟩
end
section
variable{X:Cx}{o value:Expr}{f:Str}{pos pos':Pos}{ta tv:TE}
def zJ(K:E1)(ta tv:TE)(f:Str):TS:=fun D σ H=>tv σ H fun y H1=>ta σ H1 fun x H2=>∃a C S fI,x=.ref a/\ClsI K C S fI/\findIn K (.ref C) f=some none/\
 ((H2 a=some (.ext (eU a C none))/\∀dx,H2 dx=none->D.nx σ (upd (upd H2 a (.ext (eU a C (some dx)))) dx (.ext (jB dx [(f,y)]))))\/
  ∃dx fs,H2 a=some (.ext (eU a C (some dx)))/\H2 dx=some (.ext (jB dx fs))/\fs.length<=900/\D.nx σ (upd H2 dx (.ext (jB dx (i9 f y fs)))))
theorem xW(ha:PE X o ta)(hv:PE X value tv)(hs:Ht value (some (.Attribute o f pos')) pos.line X.env=pure false):PS X (.Assign [.Attribute o f pos'] value pos) (zJ X.K ta tv f):=by
 intro pins s σ H D I h;refine plainObj_wpAny_Assign_Attribute (thn (hv pins s σ H _ I h) fun u s1 ⟨y,H1,I1,ry,q⟩=>thn (ha pins s1 σ H1 _ I1 q) fun ov s2 z=>?_) hs;obtain⟨x,H2,I2,rx,a,C,S,fI,ex,M,hn,q2⟩:=z;subst ex;obtain rfl:ov=F6 a:=rx;rcases q2 with⟨hx,q2⟩|⟨dx,fs,hx,hdx,hl,q2⟩
 ·obtain⟨⟨t0,g⟩,_⟩:=I2.hok a _ hx;have hf:H2 s2.heap.objs.size=none:=I2.hok.fresh (E9 _);have ne:s2.heap.objs.size≠a:=fun z=>by rw[z,hx]at hf;cases hf
  refine yl M I2.kIn g hn fun h' tk' kp g' n1=>?_;have I3:Inv X pins σ (upd H2 a (.ext (eU a C (some s2.heap.objs.size)))) { s2 with heap:=h',toks:=tk' }:=I2.write (x:=a) (e:=a) (by rw[hx];exact GB) (.inl rfl) (fun b u nb e=>kp b u nb e) ⟨_,g'⟩ (okG g');refine⟨σ,_,?_,q2 _ hf⟩;have hn2:upd H2 a (.ext (eU a C (some s2.heap.objs.size))) s2.heap.objs.size=none:=by rw[az ne];exact hf
  refine jR I3 hn2 (fun o e n=>?_) (fun z=>?_) (fun x c e z=>?_) (fun p hp z=>?_) (okF ⟨_,n1,fun g=>?_,fun g hg=>?_⟩)
  ·exact absurd (EK (E7 e) I2.sz) (G0 _)
  ·exact absurd (z▸I2.lt) (G0 _)
  ·obtain⟨v,o,e',_⟩:=I2.cell x c e;exact absurd (z▸E7 e') (G0 _)
  ·obtain⟨e',_⟩:=I2.pin p hp;exact absurd (z▸E7 e') (G0 _)
  ·show oo (GS g [(f,y)]) (if g=f then some u else none);by_cases z:g=f
   ·subst z;rw[if_pos rfl];simp only[GS,beq_self_eq_true];exact ry
   ·rw[if_neg z];have:(g==f)=false:=beq_eq_false_iff_ne.mpr z;simp only[GS,this];exact GB
  ·by_cases z:g=f
   ·subst z;simp
   ·exact absurd (show(if g=f then some u else none)=none by rw[if_neg z]) hg
 ·obtain⟨⟨t0,g⟩,_⟩:=I2.hok a _ hx;obtain⟨⟨mA,n0,r,wi⟩,_⟩:=I2.hok dx _ hdx;refine wo M I2.kIn g n0 wi (by rw[E6];omega) hn fun h' tk' kp n1=>⟨σ,_,I2.write (x:=dx) (e:=dx) (by rw[hdx];exact GB) (.inl rfl) (fun b u nb e=>kp b u nb e) (let⟨o,_,_,e,_⟩:=n1;⟨o,e⟩) (okF ⟨_,n1,fun g=>?_,fun g hg=>?_⟩),q2⟩
  ·show oo ((i9 f y fs).lookup g) (if g=f then some u else mA g);rw[iq];by_cases z:g=f
   ·rw[if_pos z,if_pos z];exact ry
   ·rw[if_neg z,if_neg z];exact r g
  ·by_cases z:g=f
   ·rw[z];exact(gY f y fs).1
   ·refine(gY f y fs).2 g (wi g fun y=>hg ?_);show(if g=f then some u else mA g)=none;rw[if_neg z];exact y
structure ErrA(K:E1)(C:Addr)(f:Str):Prop where
 c:ErrC K C
 hd:Gs K C=true
 no:findIn K (.ref C) f=some none
def B7(K:E1)(ta:TE)(f:Str):TE:=fun σ H Q=>ta σ H fun x H1=>∃a C dx fs v φ,x=.ref a/\H1 a=some (.ext φ)/\(∀h,φ h->om a C (some dx) h)/\H1 dx=some (.ext (jB dx fs))/\ErrA K C f/\fs.lookup f=some v/\Q v H1
theorem yn(he:PE X o ta)(hb:attributeBase o f X.env (eval o X.env)=eval o X.env):PE X (.Attribute o f pos) (B7 X.K ta f):=by intro pins s σ H Q I h;refine yg hb (thn (he pins s σ H _ I h) fun u s1 z=>?_);obtain⟨x,H1,I1,rx,a,C,dx,fs,v,φ,ex,ea,im,ed,Z,l,q⟩:=z;subst ex;obtain rfl:u=F6 a:=rx;obtain⟨p,_⟩:=I1.hok a _ ea;obtain⟨oe,g,hc,hd,hnc⟩:=im _ p;obtain⟨⟨mA,n0,r,_⟩,_⟩:=I1.hok dx _ ed;obtain⟨u,hu,ru⟩:=oo.some_of (v:=v) (o:=mA f) (by rw[<-l];exact r f);exact xU F.excAttr_ValueError.ga I1.kIn Z.c Z.hd g hc hnc hd n0 hu Z.no (sO ru) ⟨v,H1,I1.tok _,ru,q⟩
end
inductive SmD:D->Prop
 |non:SmD .non
 |int {i:Int} (h0:0<=i) (h1:i<1000000):SmD (.int i)
def sV:D->V
 |.int i=>.int i
 |_=>.non
theorem SmD.rep{K:E1}{H:Hp}{d:D}{v:V}(h:SmD d)(r:Rep K H d v):v=sV d/\Small v:=by
 cases h with
 |non=>rw[Rep]at r;exact⟨r,.inl r⟩
 |int h0 h1=>rw[Rep]at r;exact⟨r,.inr ⟨_,r,h0,h1⟩⟩
theorem SmD.back{K:E1}{H:Hp}{d:D}(h:SmD d):Rep K H d (sV d):=by
 cases h with
 |non=>rw[Rep];rfl
 |int h0 h1=>rw[Rep];rfl
def fV(C:Addr)(dd:Option Addr):MO:=.gen fun K H a=>∃φ,H a=some (.ext φ)/\∀h,φ h->om a C dd h
def wq(fs:List (Str×D)):MO:=.gen fun K H d=>H d=some (.ext (jB d (fs.map fun p=>(p.1,sV p.2))))
theorem D4{K:E1}{H:Hp}{a C:Addr}{dd:Option Addr}{φ:Heap->Prop}(h:H a=some (.ext φ))(k:∀h,φ h->om a C dd h):kg K H a (fV C dd):=⟨⟨φ,h,k⟩,by rw[h];simp,fun H' g e=>⟨φ,e.trans h,k⟩⟩
theorem Eb{K:E1}{H:Hp}{d:Addr}{fs:List (Str×D)}(h:H d=some (.ext (jB d (fs.map fun p=>(p.1,sV p.2))))):kg K H d (wq fs):=⟨h,by rw[h];simp,fun H' g e=>e.trans h⟩
theorem Abs.Di{K:E1}{H:Hp}{M:MH}{p:Addr}{o:HO}{m:MO}(h:Abs K H M)(hp:H p=none)(q:kg K (upd H p o) p m):Abs K (upd H p o) (ax M p m):=fun a u e=>by
 by_cases ne:a=p
 ·subst ne;rw[ai]at e;cases e;exact q
 ·rw[ak ne]at e;exact(h a u e).dq (.new hp) (az ne)
theorem lh(f:Str):∀fs:List (Str×D),(fs.map fun p=>(p.1,sV p.2)).lookup f=(fs.lookup f).map sV
 |[]=>rfl
 |(x,d)::r=>by
  simp only[EJ,GS]
  cases f==x with
  |true=>rfl
  |false=>exact lh f r
def spI(C:Addr)(names:List Str):Sp:=fun vs H Q _=>∃a ys,vs=.ref a::ys/\ys.length=names.length/\(∀y∈ys,Small y)/\H a=some (.ext (eU a C none))/\
 ∀dx,H dx=none->Q .non (upd (upd H a (.ext (eU a C (some dx)))) dx (.ext (jB dx (names.zip ys))))
def MkE(P:EF)(w:EZ)(K:E1)(mg:Str->Option E2)(base:Heap)(k:Nat)(c:Str)(C:Addr)(names:List Str):Prop:=
 ∃S fI fd ps,ClsI K C S fI/\Fd K (.ref C) (.type "BaseException")=some true/\FnOk P w K mg base CX0 k fI fd ps (spI C names)/\Binds K fd ps []/\mg c=some (.ref C)
theorem MkE.mono{P:EF}{w:EZ}{K:E1}{mg:Str->Option E2}{base:Heap}{j k:Nat}{c:Str}{C:Addr}{names:List Str}(h:MkE P w K mg base j c C names)(l:j<=k):MkE P w K mg base k c C names:=let⟨S,fI,fd,ps,M,B,F,r⟩:=h;⟨S,fI,fd,ps,M,B,F.mono l,r⟩
theorem qm:∀{names:List Str} {ds:List D} {vs:List V} {K:E1} {H:Hp},aB K H ds vs->(∀d∈ds,SmD d)->(names.zip ds).map (fun p=>(p.1,sV p.2))=names.zip vs/\∀v∈vs,Small v
 |names,[],vs,K,H,r,h=>by
  rw[aB]at r;subst r
  exact⟨by simp,by simp⟩
 |names,d::ds,vs,K,H,r,h=>by
  rw[aB]at r
  obtain⟨v,r',rfl,r1,r2⟩:=r
  obtain⟨e,sm⟩:=(h d Fb).rep r1
  cases names with
  |nil=>
   obtain⟨_,z2⟩:=qm (names:=[]) r2 (fun d hd=>h d (EU _ hd))
   exact⟨rfl,fun x hx=>(Fc.mp hx).elim (fun z=>z▸sm) (z2 x)⟩
  |cons n ns=>
   obtain⟨z1,z2⟩:=qm (names:=ns) r2 (fun d hd=>h d (EU _ hd))
   exact⟨by rw[GA,EJ,z1,e];rfl,fun x hx=>(Fc.mp hx).elim (fun z=>z▸sm) (z2 x)⟩
section
variable{X:Cx}{k:Nat}{C:Addr}{names:List Str}{c f:Str}{np cpos pos:Pos}{e o:Expr}{es:List Expr}{t:TAD}{ta:TD}
def Bi(K:E1)(ta:TD)(f:Str):TD:=fun δ M Q=>ta δ M fun x M1=>∃a C dx fs d,x=.ref a/\M1 a=some (fV C (some dx))/\M1 dx=some (wq fs)/\ErrA K C f/\fs.lookup f=some d/\SmD d/\Q d M1
theorem xN(he:DE X o ta)(hb:attributeBase o f X.env (eval o X.env)=eval o X.env:=by rfl):DE X (.Attribute o f pos) (Bi X.K ta f):=
 aV (yn he hb) fun σ H Q zz1_0=>by obtain⟨δ,M,R,hs,hM,q,fin⟩:=zz1_0;exact(⟨δ,M,_,hs,hM,q,fun x M1 v H1 g1 r1 a1 z=>by
  obtain⟨a,C,dx,fs,d,ex,h1,h2,Z,l,sm,q1⟩:=z
  subst ex
  rw[Rep]at r1;subst r1
  obtain⟨⟨φ,ea,im⟩,_⟩:=a1 _ _ h1
  obtain⟨ed,_⟩:=a1 _ _ h2
  exact⟨a,C,dx,_,sV d,φ,rfl,ea,im,ed,Z,by rw[lh,l];rfl,fin _ _ _ _ g1 sm.back a1 q1⟩⟩)
def vt(K:E1):RC:=fun ds M Q=>mT K ds M Q\/∃a C dd c cv b,ds=[.ref a,c]/\M a=some (fV C dd)/\ErrK K C/\D1 c=some cv/\F5 K (.ref C) cv=some b/\Q (.bl b) M
theorem bc{K:E1}(hK:X.K=K):cu X (.builtin "isinstance") (vt K):=by
 subst hK;intro pins s σ H vs us Q I rv z0;obtain⟨ds,M,R,rs,a,q,fin⟩:=z0;rcases q with q|⟨x,C,dd,c,cv,b,ed,hM,z,hc,hk,q⟩
 ·exact tZ pins s σ H vs us Q I rv ⟨ds,M,R,rs,a,q,fin⟩
 ·subst ed;obtain⟨v,u,rfl,r,r'⟩:=dJ rs;rw[Rep]at r;subst r;obtain⟨v',u',rfl,rw0,ru⟩:=vals2 rv;cases (show v'=F6 x from rw0)
  have eu:u'=cv:=by
   cases c with
   |ty n=>cases hc;rw[Rep]at r';subst r';exact ru
   |ref d=>cases hc;rw[Rep]at r';subst r';exact ru
   |_=>cases hc
  subst eu;obtain⟨⟨φ,ea,im⟩,_⟩:=a _ _ hM;obtain⟨p,_⟩:=I.hok x _ ea;obtain⟨o,g1,g2,_⟩:=im _ p;have h:∀tk,EP X pins σ Q (.bool b) { s with toks:=tk }:=fun tk=>⟨.bl b,H,I.tok tk,rfl,fin _ _ _ _ .refl (by rw[Rep]) a q⟩;exact He (yi F.excAttr_ValueError.ga z.c z.s) I.kIn ⟨o,g1,g2⟩ hk (fun z=>nomatch z) h
end
abbrev RK:=Addr->Option Addr->MH->Prop
section
variable{P:EF}{w:EZ}{K:E1}{mg:Str->Option E2}{base:Heap}{N:List Str}{qual:Str}{scope:Gz}{f:Addr}{cd:E2}{A:EX}{outer:List Env}{s:E3}{H:Hp}{E:XK}
def wO(R:RK)(C:Addr)(names:List Str)(t:TAD):TSD:=fun B δ M=>t δ M fun ds M1=>ds.length=names.length/\ds.length<=1000/\(∀d∈ds,SmD d)/\∀dx,M1 dx=none->R C (some dx) (ax M1 dx (wq (names.zip ds)))
theorem sS{R:RK}{k:Nat}{C:Addr}{names:List Str}{c:Str}{np cpos pos:Pos}{e:Expr}{es:List Expr}{t:TAD}(hE:∀C dd M' H',Abs K H' M'->R C dd M'->E (.ref C) dd H')(M:MkE P w K mg base k c C names)(hr:Room (k+1) (aW (bS P w) P w K mg base N qual scope f cd A outer s H E).A)(ha:DA (aW (bS P w) P w K mg base N qual scope f cd A outer s H E) (e::es) t)(hg:Gl (aW (bS P w) P w K mg base N qual scope f cd A outer s H E) c:=by rfl)(hdb:(c==("__debug__":Str))=false:=by decide) (he:EH (e::es) (aW (bS P w) P w K mg base N qual scope f cd A outer s H E).env=(false,eval e (aW (bS P w) P w K mg base N qual scope f cd A outer s H E).env)::EH es (aW (bS P w) P w K mg base N qual scope f cd A outer s H E).env:=by rfl) (hpl:(G6 cpos (EH es (aW (bS P w) P w K mg base N qual scope f cd A outer s H E).env)).any (·.1)=false:=by rfl) : DSt (aW (bS P w) P w K mg base N qual scope f cd A outer s H E) (.Raise (some (.Call (.Name c np) (e::es) [] cpos)) none pos) (wO R C names t):=by
 obtain⟨S,fI,fd,ps,M,B,F,hb,hm⟩:=M;refine cm (tL M B F hr hb hg hm ha hdb he hpl) fun D σ H1 ⟨δ,M0,hs,a0,B0,ok,q⟩=>⟨δ,M0,_,hs,a0,q,fun ds M1 vs H1 g1 r1 a1 z=>?_⟩;obtain⟨l1,l2,sm,q1⟩:=z;obtain⟨ez,sv⟩:=qm (names:=names) r1 sm;refine⟨by rw[<-r1.length];exact Fh l2 (by decide),fun a ha=>⟨a,vs,rfl,by rw[<-r1.length,l1],sv,ay,fun dx hdx=>⟨rfl,a,some dx,rfl,?_,hE C (some dx) _ _ ?_ (q1 dx ?_)⟩⟩⟩
 ·have ne:dx≠a:=fun z=>by subst z;rw[ay]at hdx;cases hdx
  rw[az ne.symm,ay]
 ·have ne:dx≠a:=fun z=>by subst z;rw[ay]at hdx;cases hdx
  have hd1:H1 dx=none:=by rw[az ne]at hdx;exact hdx
  have eH:fj (upd (upd (upd H1 a (.ext (eU a C none))) a (.ext (eU a C (some dx)))) dx (.ext (jB dx (names.zip vs)))) a=upd H1 dx (.ext (jB dx (names.zip vs))):=by
   funext b
   by_cases z:b=a
   ·subst z;rw[pD,az ne.symm];exact ha.symm
   ·rw[c8 z];by_cases y:b=dx
    ·subst y;rw[ay,ay]
    ·rw[az y,az z,az z,az y]
  rw[eH];refine a1.Di hd1 ?_;rw[<-ez];exact Eb ay
 ·have ne:dx≠a:=fun z=>by subst z;rw[ay]at hdx;cases hdx
  rw[az ne]at hdx;exact a1.fresh hdx
abbrev pR:=List D->MH->RK->Prop
def v9(K:E1)(sp:pR):Sp:=fun vs H _ E=>∃ds M R,aB K H ds vs/\Abs K H M/\sp ds M R/\∀C dd M' H',Abs K H' M'->R C dd M'->E (.ref C) dd H'
def kO(P:EF)(w:EZ)(K:E1)(mg:Str->Option E2)(base:Heap)(k:Nat)(x:Str)(sp:pR):Prop:=
 ∃f fd ps,FnOk P w K mg base (bS P w) k f fd ps (v9 K sp)/\mg x=some (.ref f)/\G7 K (.ref f)=true/\Binds K fd ps []
theorem kO.mono{j k:Nat}{x:Str}{sp:pR}(h:kO P w K mg base j x sp)(l:j<=k):kO P w K mg base k x sp:=let⟨f,fd,ps,F,r⟩:=h;⟨f,fd,ps,F.mono l,r⟩
end
section
variable{P:EF}{w:EZ}{K:E1}{mg:Str->Option E2}{base:Heap}
theorem CM{x:Str}{st:Stmt}{N ps:List Str}{k:Nat}{sp:pR}(T:Txt K mg x st)(S:FnScope N ps (aq st))
 (hb:∀(kV doc pm:E2) (an:Option Addr) (cdv ct:E2) (us:List E2),us.length=ps.length->bindArgs (FI x x (aX st) (aL st) (aq st) .none kV doc pm an cdv ct) ⟨us,[]⟩=pure (ps.zip us))
 (len:∀ds M R,sp ds M R->ds.length=ps.length)
 (body:∀(f:Addr) (cdv:E2) (A:EX) (outer:List Env) (s:E3) (H:Hp) (E:XK) (R:RK),Room k (A.deeper (envOfC x (aq st) s.heap.objs.size f cdv))->(∀C dd M' H',Abs K H' M'->R C dd M'->E (.ref C) dd H')->
  ∃t,DSs (aW (bS P w) P w K mg base N x (aq st) f cdv A outer s H E) (aL st) t/\∀ds M,sp ds M R->t { nx:=fun _ _=>False,rt:=fun _ _=>False } (cZ N ds) M):kO P w K mg base (k+1) x sp:=by
 obtain⟨f,fd,F,hm⟩:=T
 have hbb:=F.binds hb
 have hkp:=F.kp
 obtain⟨oc,od,kV,doc,pm,an,cdv,ct,osl,rfl,lk,hcd⟩:=F.ex
 refine⟨f,_,ps,ue lk hcd S (fun vs H Q E zz3_0=>by obtain⟨ds,M,R,rs,_,q,_⟩:=zz3_0;rw[<-rs.length];exact len _ _ _ q) (fun A outer s H vs Q E hr zz4_0=>?_),hm,hkp,hbb⟩
 obtain⟨ds,M,R,rs,a,q,hE⟩:=zz4_0
 obtain⟨t,ht,hq⟩:=body f cdv A outer s H E R hr hE
 exact⟨_,ht,cZ N ds,M,fg rs,a,{ nx:=fun _ _=>False,rt:=fun _ _=>False },⟨fun _ _ _ _ _ _ _ z=>z.elim,fun _ _ _ _ _ _ _ z=>z.elim,fun _ _ _ _ _ _ _ z=>z,fun _ _ _ _ _ _ _ z=>z⟩,hq ds M q⟩
end
abbrev yt:=DS->MH->RK->Prop
def qf(K:E1)(t:yt):TR:=fun σ H E=>∃δ M R,Slots K H δ σ/\Abs K H M/\t δ M R/\∀C dd M' H1 H',Grow K H H1->Abs K H' M'->R C dd M'->E H1 (.ref C) dd H'
def xv(sp:pR)(t:TAD):yt:=fun δ M R=>t δ M fun ds M1=>sp ds M1 R
section
variable{Y:Cx}
theorem sF{k:Nat}{x:Str}{sp:pR}{p pos:Pos}{e:Expr}{es:List Expr}{t:TAD}(C:kO Y.prog Y.w Y.K Y.mg Y.base k x sp)(hr:Room k Y.A)(ha:DA Y.nox (e::es) t)(hg:Gl Y.nox x:=by rfl)(hdb:(x==("__debug__":Str))=false:=by decide) (he:EH (e::es) Y.env=(false,eval e Y.env)::EH es Y.env:=by rfl) (hpl:(G6 pos (EH es Y.env)).any (·.1)=false:=by rfl):Ap Y.nox (.Call (.Name x p) (e::es) [] pos) (qf Y.K (xv sp t)):=by obtain⟨f,fd,ps,F,hm,hk,hb⟩:=C;intro pins s σ H E I ⟨δ,M,R,hs,hM,q,fin⟩;exact xc F hr hg hm hk hb ha hdb he hpl pins s σ H E I ⟨δ,M,_,hs,hM,q,fun ds M1 vs H1 g1 r1 a1 q1=>⟨ds,M1,R,r1,a1,q1,fun C dd M' H' a' q'=>fin C dd M' H1 H' g1 a' q'⟩⟩
def BA(K:E1)(S:Addr)(j:Nat)(tb:TSD)(tR:yt)(th:TSD):TSD:=fun B δ M=>tb B δ M\/
 tR δ M fun C dd M'=>Fd K (.ref C) (.ref S)=some true/\∀a,M' a=none->th (zB j B) (δ.set j (some (.ref a))) (ax M' a (fV C dd))
theorem yI{body:List Stmt}{b₀:Stmt}{bs:List Stmt}{c n:Str}{cp hp pos:Pos}{S:Addr}{tb:TSD}{tR:yt}{th:TSD}(j:Nat)(hN:Y.N.Nodup)(cl:ClsE Y.K c S)(hm:Y.mg c=some (.ref S))(hB:Fd Y.K (.ref S) (.type "BaseException")=some true)
 (hb:DSs Y.nox body tb) (hr:Au Y.nox body (qf Y.K tR)) (hh:∀a,DSs (hold Y.nox a) (b₀::bs) th)
 (hj:Y.N[j]?=some n:=by rfl) (hk:Y.env.scope.names.lookup n=some .local:=by rfl) (hg:Gl Y.nox c:=by rfl) (hdb:(c==("__debug__":Str))=false:=by decide) (hst:Y.stack=Y.env::Y.outer:=by rfl) (hfr:Y.env.frame=some Y.env.locals:=by rfl) (hex:Y.ex=[]:=by rfl) :
 DSt Y.nox (.Try body [.ExceptHandler (some (.Name c cp)) (some n) (b₀::bs) hp] [] [] pos) (BA Y.K S j tb tR th):=
 cm (xK (tb:=qR Y.K tb) (tR:=qf Y.K tR) (th:=qR Y.K th) hst hfr hex hN hj hk hg hm hdb cl.ex hB hb hr hh) fun D σ H ⟨δ,M,hs,a,B,ok,q⟩=>by
  rcases q with q|q
  ·exact .inl ⟨δ,M,hs,a,B,ok,q⟩
  ·refine .inr ⟨δ,M,_,hs,a,q,fun C dd M' H1 H' g1 a' z=>⟨C,rfl,z.1,fun g2 x hx=>?_⟩⟩
   have g3:Grow Y.K H (upd H' x (.ext (om x C dd))):=(g1.trans g2).trans (.new hx)
   refine⟨δ.set j (some (.ref x)),ax M' x (fV C dd),(hs.mono g3).set (by rw[Rep]) j,a'.Di hx (D4 ay fun h z=>z),zB j B,?_,z.2 x (a'.fresh hx)⟩
   exact⟨fun δ' M2 σ' H2 g' s' a2 z=>ok.nx _ _ _ _ (g3.trans g') (s'.gone j) a2 z,fun d M2 v H2 g' r a2 z=>ok.rt _ _ _ _ (g3.trans g') r a2 z,fun δ' M2 σ' H2 g' s' a2 z=>ok.bk _ _ _ _ (g3.trans g') (s'.gone j) a2 z,fun δ' M2 σ' H2 g' s' a2 z=>ok.ct _ _ _ _ (g3.trans g') (s'.gone j) a2 z⟩
end
def rZ(s:Stmt)(i:Nat):Stmt:=match s with
 |.ClassDef _ _ _ b _ _ _ _ _ _ _=>b.getD i (.Pass ⟨0,0,0,0⟩)
 |_=>.Pass ⟨0,0,0,0⟩
section
variable{X:Cx}{e:Expr}{es:List Expr}{c1 c2:L2.St->Hp->Prop}
theorem parts_nil:Parts X [] (fun _ _=>True):=fun _ _=>trivial
theorem iY(h1:Part X e c1)(h2:Parts X es c2):Parts X (e::es) (fun σ H=>c1 σ H/\c2 σ H):=⟨c1,c2,h1,h2,fun _ _ z=>z⟩
end
section
variable{P:EF}{w:EZ}{K:E1}{mg:Str->Option E2}{base:Heap}{C S fI:Addr}{n1 n2:Str}{N:List Str}{vs:List V}{H:Hp}{Q:VK}{E:XK}{c:L2.St->Hp->Prop}
theorem B9(M:ClsI K C S fI)(h1:findIn K (.ref C) n1=some none)(hN:N.length=2)(h:spI C [n1] vs H Q E)(hc:∀a y,Small y->c [some (.ref a),some y] H) :
 Cg (zY (zx K S (uq (wY 0) (uq (CO c) DD)))) (zJ K (wY 0) (wY 1) n1) { nx:=fun _ H'=>Q .non H',rt:=Q } (L2.start N vs) H:=by
 obtain⟨a,ys,rfl,hl,sm,hx,q⟩:=h
 match ys,hl with
 |[y],_=>
  have e:L2.start N [.ref a,y]=[some (.ref a),some y]:=by unfold L2.start;rw[hN];rfl
  rw[e]
  refine⟨_,rfl,hc a y (sm y (by simp)),fun m=>⟨a,m,C,fI,none,rfl,M,hx,?_⟩⟩
  exact⟨_,rfl,_,rfl,a,C,S,fI,rfl,M,h1,.inl ⟨ay,fun dx hd=>by
   have ne:dx≠a:=fun z=>by subst z;rw[ay]at hd;cases hd
   rw[xq];rw[az ne]at hd;exact q dx hd⟩⟩
end
section
variable{K:E1}{mg:Str->Option E2}{x y qual:Str}{st:Stmt}{C S fI:Addr}
theorem Ab{n:Str}(a:Fo K EY x=some (some (.ref C)))(h:findIn K (.ref C) n=some none):findIn K (.ref (cl K x)) n=some none:=by rw[dI a];exact h
theorem u9{n:String}(h:Hs K S veM n=true):PySem.W.tailIn K veM (.ref S::veM)=true:=by
 unfold Hs at h;split at h
 ·rename_i dct cd sl hl;split at h
  ·simp only[FF,beq_iff_eq]at h;unfold PySem.W.tailIn;simp only[hl,Bool.or_eq_true,FF,beq_iff_eq];refine .inr ⟨⟨h.1.2,h.2⟩,?_⟩;unfold PySem.W.tailIn;simp
  ·cases h
 ·cases h
theorem zg{cn cq:Str}{NS fI:Addr}{bss:List E2}{hdct:Bool}{sn:List Str}{sub:List E2}{ab:Bool}{col:Option Bool}{dd:Option Addr}{k0 k1 k2 k3 k5:Option E2}{nc:E2}{nd:Option Addr}{es:Array FA}{en:Nat}{ns:Array (Option E2)}{oc:E2}{od an:Option Addr}{osl:Array (Option E2)}{kV doc pm cdv ct:E2}
 (a:Fo K EY x=some (some (.ref C))) (b:Fo K EY y=some (some (.ref S))) (l:K.lookup C=some (excClassObj cn cq C NS bss (.ref S::veM) hdct sn sub ab col dd k0 k1 k2 k3 k5 "ValueError.__new__")) (lN:K.lookup NS=some ⟨nc,nd,.dict es en,ns⟩) (ok:(es.toList.all fun e=>match e.key with|.str _ _=>true|_=>false)=true) (ni:Fo K NS "__init__"=some (some (.ref fI)))
 (e:Hs K S veM "ValueError.__new__"=true) (fn:PySem.W.typeIn K (.ref fI)=some (.type "function")) (kp:G7 K (.ref C)=true) (hd:Gs K C=true) (sa:findIn K (.ref C) "__setattr__"=some (some (.builtin "object.__setattr__"))) (ob:Fd K (.ref C) (.type "object")=some true)
 (lf:K.lookup fI=some ⟨oc,od,.func (FI "__init__" qual (aX st) (aL st) (aq st) .none kV doc pm an cdv ct),osl⟩) (cf:Hv K cdv qual=true) (kf:G7 K (.ref fI)=true):∃fI fd,ClsI K (cl K x) (cl K y) fI/\Fun K "__init__" qual st fI fd:=by
 rw[dI a,dI b]
 have okN:PySem.W.nsOkIn K NS=true:=by unfold PySem.W.nsOkIn;rw[lN];show(es.all _)=true;rw[<-Array.all_toList];exact ok
 exact⟨fI,_,⟨⟨_,_,_,_,_,_,_,_,_,_,_,_,_,_,_,l,okN,ni⟩,u9 e,fn,kp,hd,sa,ob⟩,uQ lf cf kf⟩
theorem zh(a:Fo K EY x=some (some (.ref C)))(h1:PySem.W.specialIn K (.ref C) "__getattribute__"=some (some (.builtin "type.__getattribute__")))(h2:PySem.W.readsIn K C (.type "type")=true)(h3:PySem.W.findCls K (.ref C) (.type "type") "__init__"=some (.val (.builtin "ValueError.__init__"))):ClsB K (cl K x):=by rw[dI a];exact⟨h1,h2,h3⟩
theorem B3(a:Fo K EY x=some (some (.ref C)))(h:Gs K C=true):Gs K (cl K x)=true:=by rw[dI a];exact h
end
open PySem PySem.Spec PyProof.Rows L2 Ma
def Ow(w:Wl):Prop:=w.1<w.2.2.1\/(w.1=w.2.2.1/\w.2.1<w.2.2.2)
def mtD(t b X Y:Int)(U V:Wl):D:=oh (Ma.ut t b X 1 U.1) (Ma.ut t b Y 1 U.2.1) (Ma.ut t b X 1 U.2.2.1) (Ma.ut t b Y 1 U.2.2.2) (Ma.ut t b X 1 V.1) (Ma.ut t b Y 1 V.2.1) (Ma.ut t b X 1 V.2.2.1) (Ma.ut t b Y 1 V.2.2.2)
theorem zw{t b X x p W k d:Int}(ht:0<t)(hb:0<b)(hW:0<W):Ma.ut t b X 1 x=Ma.ut t b X W (p*W+k*d)↔W*(x-p)=k*d:=by rw[Ma.zO ht hb (by decide) hW];constructor<;>intro h<;>grind
structure Bw(n:Int)(w:Wl):Prop where
 u:Uok n w
 o:Ow w
theorem Bw.mono{m n:Int}{w:Wl}(h:Bw m w)(l:m<=n):Bw n w:=⟨by have:=h.u;unfold Uok at *;omega,h.o⟩
theorem Bt{w:Wl}(h:Un5 w):Bw 20 w:=by
 have a:=h.a;have b:=h.b;have c:=h.c;have d:=h.d;have l:=h.lt
 unfold l1 l2 la at l;exact⟨by unfold Uok;omega,by unfold Ow;omega⟩
theorem rT:PyData.strOk (F9 "many")=true:=by decide +kernel
abbrev SpK:=Int×Int×Int×Int
section
variable{P:EF}{w:EZ}
def pg(P:EF)(w:EZ)(h:Heap)(n d:Int)(a:Addr):Prop:=IsTupleKey (intKind P w) h [n,d] a
def du(P:EF)(w:EZ)(h:Heap)(k:SpK)(a:Addr):Prop:=∃o b c m,h.get? a=some o/\o.cls=.type "tuple"/\o.data=.seq #[.ref b,.ref c] m/\pg P w h k.1 k.2.1 b/\pg P w h k.2.2.1 k.2.2.2 c
theorem du.inj{h:Heap}{a:Addr}{x y:SpK}(p:du P w h x a)(q:du P w h y a):x=y:=by
 obtain⟨o,b,c,m,h1,h2,h3,h4,h5⟩:=p;obtain⟨o',b',c',m',g1,g2,g3,g4,g5⟩:=q;rw[h1]at g1;cases g1;rw[h3]at g3;injection g3 with e _;have e1:b=b'/\c=c':=by simpa using e
 obtain⟨rfl,rfl⟩:=e1;have i1:=IsTupleKey.inj h4 g4;have i2:=IsTupleKey.inj h5 g5;obtain⟨x1,x2,x3,x4⟩:=x;obtain⟨y1,y2,y3,y4⟩:=y;simp at i1 i2;obtain⟨rfl,rfl⟩:=i1;obtain⟨rfl,rfl⟩:=i2;rfl
theorem du.keeps{h h':Heap}{k:SpK}{a d:Addr}{o:Obj}{es:Array FA}{ep:Nat}(p:du P w h k a)(hd:h.get? d=some o)(he:o.data=.dict es ep)(sb:Hi d h h'):du P w h' k a:=by
 obtain⟨oa,b,c,m,h1,h2,h3,h4,h5⟩:=p;have ne:a≠d:=fun z=>by rw[z,hd]at h1;cases h1;rw[he]at h3;cases h3
 exact⟨oa,b,c,m,(sb.2 a ne).trans h1,h2,h3,IsTupleKey.keeps h4 hd he sb,IsTupleKey.keeps h5 hd he sb⟩
def lZ(P:EF)(w:EZ)(k:SpK):Int:=reduceHash (Builtin.Tuple.tupleHashOf [tupleKeyHash (intKind P w) [k.1,k.2.1],tupleKeyHash (intKind P w) [k.2.2.1,k.2.2.2]])
theorem du.hash{A:EX}{E:E2->E3->Prop}{s:E3}{k:SpK}{a:Addr}{Q:Int->E3->Prop}(hu:A.units+4<FQ)(p:du P w s.heap k a)(q:Q (lZ P w k) { s with toks:=s.toks+7 }):E8 (ED P w) A (pyHash (.ref a)) Q E s:=by
 obtain⟨o,b,c,m,h1,h2,h3,h4,h5⟩:=p;obtain⟨hp,g,d,tk,os⟩:=s;show E8 _ _ (pyHashByItsType (.ref a)) _ _ _;refine PySem.W.pyHash_slot (T:="tuple") ⟨o,h1,h2⟩ F.slot_tuple_hash F.entry_tuple_hash (F.args_tuple_hash_1 _) rfl (.inr (by omega)) ?_;unfold Hm.«tuple.__hash__»;simp only[<-FV]
 iterate 4 wp_step
 refine E5 ?_;refine cc (wpAny_tupleItemsOf h1 h3 ?_);refine cc ?_;simp only[FW,FZ,FT,Hb];refine cc (wpAny_pyHash_tuple (knd:=intKind P w) (by show A.units+1<FQ;omega) h4 ?_);refine cc (wpAny_pyHash_tuple (knd:=intKind P w) (by show A.units+1<FQ;omega) h5 ?_);refine E5 ?_;unfold retInt
 wp_walk
 exact⟨_,_,rfl,q⟩
theorem gC{n:Int}{v:E2}(h:(intKind P w).is n v=true):∃t,v=.int n t:=by
 have h:Value.isInt n v=true:=h;cases v with
 |int i t=>
  have:(i==n)=true:=h
  exact⟨t,by rw[eq_of_beq this]⟩
 |_=>cases h
def xt(n d:Int):GZ:=.tuple [.int n,.int d]
def jt(k:SpK):GZ:=.tuple [xt k.1 k.2.1,xt k.2.2.1 k.2.2.2]
theorem pg.reads{h:Heap}{n d:Int}{a:Addr}(p:pg P w h n d a):∃as,Reads h (.ref a) (xt n d) as:=by
 obtain⟨o,items,m,h1,h2,h3,h4⟩:=p;generalize hl:items.toList=l at h4;cases h4 with
 |cons hx r=>
  cases r with
  |cons hy r=>
   cases r
   obtain⟨t1,rfl⟩:=gC hx
   obtain⟨t2,rfl⟩:=gC hy
   exact⟨_,.tuple h1 h2 h3 (by rw[hl];exact .cons (.int _ _) (.cons (.int _ _) .nil))⟩
theorem du.reads{h:Heap}{k:SpK}{a:Addr}(p:du P w h k a):∃as,Reads h (.ref a) (jt k) as:=by obtain⟨o,b,c,m,h1,h2,h3,h4,h5⟩:=p;obtain⟨as,r1⟩:=h4.reads;obtain⟨bs,r2⟩:=h5.reads;exact⟨_,.tuple h1 h2 h3 (.cons r1 (.cons r2 .nil))⟩
theorem jw(x y:SpK):(jt x).eqv (jt y)=decide (x=y):=by obtain⟨x1,x2,x3,x4⟩:=x;obtain⟨y1,y2,y3,y4⟩:=y;simp only[jt,xt,Ff,FP,Bool.and_true];rw[Bool.eq_iff_iff];simp[and_assoc]
theorem du.eq{A:EX}{E:E2->E3->Prop}{s:E3}{x y:SpK}{a b:Addr}{Q:Bool->E3->Prop}(hu:A.units+4<FQ)(p:du P w s.heap x a)(p':du P w s.heap y b)(q:Q (decide (x=y)) s):E8 (ED P w) A (eqBool (.ref a) (.ref b)) Q E s:=by obtain⟨as,r1⟩:=p.reads;obtain⟨bs,r2⟩:=p'.reads;have hd:min (jt x).depth (jt y).depth<=3:=Fh (Nat.min_le_left _ _) (nbL rfl);have:=SeqAt.eqAt_reads (jt x) (jt y) A s (.ref a) (.ref b) as bs r1 r2 rfl rfl (by omega);rw[jw]at this;exact this P w E Q q
theorem pg.quiet{A:EX}{E:E2->E3->Prop}{s:E3}{n d:Int}{a:Addr}{Q:Bool->E3->Prop}(i:Nat)(p:pg P w s.heap n d a)(q:Q true s):E8 (ED P w) A (eqIsQuiet (i+1) (.ref a)) Q E s:=by
 obtain⟨o,items,m,h1,h2,h3,h4⟩:=p;rw[eqIsQuiet.eq_2];refine cc (wpAny_specialOf ⟨o,h1,h2⟩ F.slot_tuple_eq.lookup ?_);refine cc (wpAny_isInstance ⟨o,h1,h2⟩ isSubtype_tuple_tuple ?_);simp only[G1,EO,if_false];refine cc (Fx h1 h3 ?_);simp only[Option.getD_some,<-FV];generalize hl:items.toList=l at h4;cases h4 with
 |cons hx r=>
  cases r with
  |cons hy r=>
   cases r
   obtain⟨t1,rfl⟩:=gC hx
   obtain⟨t2,rfl⟩:=gC hy
   refine cc ?_
   simp only[FW,FZ,FT,Hb,eqIsQuiet_byValue i (show carriedByValue (.int n t1)=true from rfl),eqIsQuiet_byValue i (show carriedByValue (.int d t2)=true from rfl),G1,EO,if_false]
   refine E5 ?_
   exact E5 q
theorem du.quiet{A:EX}{E:E2->E3->Prop}{s:E3}{k:SpK}{a:Addr}{Q:Bool->E3->Prop}(p:du P w s.heap k a)(q:Q true s):E8 (ED P w) A (eqIsQuiet 8 (.ref a)) Q E s:=by obtain⟨o,b,c,m,h1,h2,h3,h4,h5⟩:=p;rw[eqIsQuiet.eq_2];refine cc (wpAny_specialOf ⟨o,h1,h2⟩ F.slot_tuple_eq.lookup ?_);refine cc (wpAny_isInstance ⟨o,h1,h2⟩ isSubtype_tuple_tuple ?_);simp only[G1,EO,if_false];refine cc (Fx h1 h3 ?_);simp only[Option.getD_some,<-FV];refine cc ?_;simp only[FW,FZ,FT,Hb];refine cc (h4.quiet 6 ?_);simp only[G1,EO,if_false,FT];refine cc (h5.quiet 6 ?_);simp only[G1,EO,if_false,FT];refine E5 ?_;exact E5 q
def d3(P:EF)(w:EZ):HeapKind P w SpK where
 is:=du P w
 hash:=lZ P w
 draws:=fun _=>7
 room:=fun A=>A.units+4<FQ
 inj:=fun p q=>p.inj q
 keeps:=fun p hd he sb=>p.keeps hd he sb
 pyHash:=fun hu p q=>p.hash hu q
 eqBool:=fun hu p p' q=>p.eq hu p' q
 quiet:=fun p q=>p.quiet q
end
section
variable{X:Cx}{pins:List (Addr×Obj)}{σ:L2.St}{H:Hp}{s:E3}{a b:Addr}{k:SpK}
def cL(K:E1)(H:Hp)(b:Addr)(k:SpK):Prop:=∃f g,SqT K H b [.ref f,.ref g]/\SqT K H f [.int k.1,.int k.2.1]/\SqT K H g [.int k.2.2.1,.int k.2.2.2]
theorem zM{n d:Int}{f:Addr}(I:L2.Inv X pins σ H s)(h:SqT X.K H f [.int n,.int d]):pg X.prog X.w s.heap n d f:=by
 obtain⟨its,r,ht,_⟩:=I.tuple h;cases r with
 |cons a1 r=>cases r with
  |cons a2 r=>
   cases r
   obtain⟨t1,rfl⟩:=a1
   obtain⟨t2,rfl⟩:=a2
   obtain⟨o,h1,h2,m,h3⟩:=ht
   exact⟨o,_,m,h1,h2,h3,.cons (by show((n==n)=true);simp) (.cons (by show((d==d)=true);simp) .nil)⟩
theorem lG(I:L2.Inv X pins σ H s)(h:cL X.K H b k):du X.prog X.w s.heap k b:=by
 obtain⟨f,g,h1,h2,h3⟩:=h;obtain⟨its,r,ht,_⟩:=I.tuple h1;cases r with
 |cons a1 r=>cases r with
  |cons a2 r=>
   cases r
   cases a1
   cases a2
   obtain⟨o,q1,q2,m,q3⟩:=ht
   exact⟨o,f,g,m,q1,q2,q3,zM I h2,zM I h3⟩
abbrev SpE:=SpK×Addr×V
def bT(P:EF)(w:EZ)(a:Addr)(xs:List SpE):Heap->Prop:=fun h=>(a==Hy)=false/\xs.length<=ER/\(xs.map (·.1)).Nodup/\∃ys:List (SpK×Addr×E2),
 HA (fun(p:SpE) (q:SpK×Addr×E2)=>p.1=q.1/\p.2.1=q.2.1/\RelV p.2.2 q.2.2) xs ys/\∃o es ep,h.get? a=some o/\o.ExactDict/\o.data=.dict es ep/\es.toList=ys.map (entryOfKey (d3 P w))
def fO(xs:List SpE)(k:SpK)(b:Addr)(v:V):List SpE:=if(xs.any fun x=>decide (x.1=k))=true then xs.map (fun x=>if x.1=k then(x.1,x.2.1,v)else x)else xs++[(k,b,v)]
abbrev PrS:=fun(p:SpE) (q:SpK×Addr×E2)=>p.1=q.1/\p.2.1=q.2.1/\RelV p.2.2 q.2.2
theorem je{xs:List SpE}{ys:List (SpK×Addr×E2)}(r:HA PrS xs ys):ys.map (·.1)=xs.map (·.1):=by
 induction r with
 |nil=>rfl
 |cons h t ih=>rw[EJ,EJ,ih,h.1]
theorem yE{xs:List SpE}{ys:List (SpK×Addr×E2)}(r:HA PrS xs ys)(k:SpK):(xs.any fun x=>decide (x.1=k))=(atKey ys k).isSome:=by
 induction r with
 |nil=>rfl
 |@cons p q ps qs h t ih=>
  rw[List.any_cons]
  by_cases e:p.1=k
  ·have e':q.1=k:=h.1.symm.trans e;simp[atKey,Fw,e,e']
  ·have e':¬q.1=k:=fun z=>e (h.1.trans z);rw[decide_eq_false e,Bool.false_or,ih];simp[atKey,Fw,e']
theorem iM{xs:List SpE}{ys:List (SpK×Addr×E2)}(r:HA PrS xs ys)(k:SpK)(b:Addr){v:V}{u:E2}(rv:RelV v u):HA PrS (fO xs k b v) (storedH ys k b u):=by
 unfold fO storedH;rw[yE r k];by_cases e:(atKey ys k).isSome=true
 ·rw[if_pos e,if_pos e];clear e
  induction r with
  |nil=>exact .nil
  |@cons p q ps qs h t ih=>
   rw[EJ,EJ]
   refine .cons ?_ ih
   unfold putAt
   by_cases e:p.1=k
   ·rw[if_pos e,if_pos (h.1.symm.trans e)];exact⟨h.1,h.2.1,rv⟩
   ·rw[if_neg e,if_neg (fun z=>e (h.1.trans z))];exact h
 ·rw[if_neg e,if_neg e];exact Paired.snoc r ⟨rfl,rfl,rv⟩
theorem mO{xs:List SpE}{ys:List (SpK×Addr×E2)}(r:HA PrS xs ys):xs.length=ys.length:=by
 induction r with
 |nil=>rfl
 |cons h t ih=>rw[F8,F8,ih]
theorem yG{xs:List SpE}{ys:List (SpK×Addr×E2)}(r:HA PrS xs ys){q:SpK×Addr×E2}(h:q∈ys):∃p∈xs,p.1=q.1/\p.2.1=q.2.1:=by
 induction r with
 |nil=>cases h
 |cons h' t ih=>
  rcases Fc.mp h with z|z
  ·subst z;exact⟨_,by simp,h'.1,h'.2.1⟩
  ·obtain⟨p,hp,e⟩:=ih z;exact⟨p,by simp[hp],e⟩
theorem oY(xs:List SpE)(k:SpK)(b:Addr)(v:V):(fO xs k b v).length<=xs.length+1:=by
 unfold fO;split
 ·rw[E6];omega
 ·simp
theorem pX{xs:List SpE}(I:L2.Inv X pins σ H s)(e:H a=some (.ext (bT X.prog X.w a xs)))(hk:∀x∈xs,cL X.K H x.2.1 x.1):(a==Hy)=false/\xs.length<=ER/\∃ys,HA PrS xs ys/\s.heap.DictOfH (d3 X.prog X.w) a ys:=by obtain⟨⟨h1,h2,h3,ys,r,o,es,ep,q1,q2,q3,q4⟩,_⟩:=I.hok a _ e;refine⟨h1,h2,ys,r,o,es,ep,q1,q2,q3,q4,fun x hx=>?_,by rw[je r];exact h3⟩;obtain⟨p,hp,e1,e2⟩:=yG r hx;rw[<-e1,<-e2];exact lG I (hk p hp)
theorem mj{P:EF}{w:EZ}{xs:List SpE}(h1 h2:Heap)(h:bT P w a xs h1)(k:∀o,h1.get? a=some o->h2.get? a=some o):bT P w a xs h2:=by obtain⟨p1,p2,p3,ys,r,o,es,ep,q1,q⟩:=h;exact⟨p1,p2,p3,ys,r,o,es,ep,k o q1,q⟩
theorem yK{A:EX}{E:E2->E3->Prop}{Q:Unit->E3->Prop}{xs:List SpE}{v:V}{u:E2}(hu:A.units+8<FQ)(I:L2.Inv X pins σ H s)(e:H a=some (.ext (bT X.prog X.w a xs)))(hk:∀x∈xs,cL X.K H x.2.1 x.1)(hb:cL X.K H b k)(rv:RelV v u)(hl:xs.length<ER)
 (h:∀s',L2.Inv X pins σ (upd H a (.ext (bT X.prog X.w a (fO xs k b v)))) s'->Q () s'):E8 (ED X.prog X.w) A (setItem (.ref a) (.ref b) u) Q E s:=by
 obtain⟨hd,hz,ys,r,dd⟩:=pX I e hk
 refine wpAny_setItem_heap (knd:=d3 X.prog X.w) (hsz:=by rw[<-mO r];exact hz) (show A.in1.units+4<FQ by show A.units+1+4<FQ;omega) (lG I hb) dd fun h' dd' hs=>h _ ?_
 obtain⟨q,es,ep,hq,q2,q3,q4,_,q5⟩:=dd'
 refine lL I (by rw[e];exact GB) hs ⟨q,hq⟩ ⟨⟨hd,?_,?_,_,iM r k b rv,q,es,ep,hq,q2,q3,q4⟩,⟨q,hq⟩,fun h1 h2 x y=>mj h1 h2 x y⟩
 ·have:=oY xs k b v;omega
 ·rw[<-je (iM r k b rv)];exact q5
theorem rR(I:L2.Inv X pins σ H s):L2.Inv X pins σ (upd H s.heap.objs.size (.ext (bT X.prog X.w s.heap.objs.size []))) { s with heap:=s.heap.push { cls:=.type "dict",data:=.dict #[] } }:=
 I.laid (a:=s.heap.objs.size) (t':=s.toks) (fun _ _ q=>E4 _ q) (E9 _)
  ⟨⟨beq_eq_false_iff_ne.mpr (Ne.symm (EV I.big)),Fz _,List.nodup_nil,[],.nil,_,#[],0,EC _ rfl,⟨rfl,rfl,rfl⟩,rfl,rfl⟩,⟨_,EC _ rfl⟩,fun h1 h2 x y=>mj h1 h2 x y⟩
def ju(xs:List SpE)(k:SpK):Option V:=(xs.find? fun x=>decide (x.1=k)).map (·.2.2)
theorem yb{xs:List SpE}{ys:List (SpK×Addr×E2)}(r:HA PrS xs ys){v:V}(h:ju xs k=some v):∃p:Addr×E2,atKey ys k=some p/\RelV v p.2:=by
 induction r with
 |nil=>cases h
 |@cons p q ps qs h' t ih=>
  by_cases e:p.1=k
  ·have e':q.1=k:=h'.1.symm.trans e;simp[ju,Fw,e]at h;subst h;exact⟨q.2,by simp[atKey,Fw,e'],h'.2.2⟩
  ·have e':¬q.1=k:=fun z=>e (h'.1.trans z);have h2:ju ps k=some v:=by simpa[ju,Fw,e]using h
   obtain⟨p',h3,h4⟩:=ih h2;exact⟨p',by simpa[atKey,Fw,e']using h3,h4⟩
theorem yz{A:EX}{E:E2->E3->Prop}{Q:E2->E3->Prop}{xs:List SpE}{v:V}(hu:A.units+8<FQ)(I:L2.Inv X pins σ H s)(e:H a=some (.ext (bT X.prog X.w a xs)))(hk:∀x∈xs,cL X.K H x.2.1 x.1)(hb:cL X.K H b k)(hv:ju xs k=some v) (h:∀u s',L2.Inv X pins σ H s'->RelV v u->Q u s'):E8 (ED X.prog X.w) A (getItem (.ref a) (.ref b)) Q E s:=by obtain⟨hd,hz,ys,r,dd⟩:=pX I e hk;obtain⟨p,h1,h2⟩:=yb r hv;exact wpAny_getItem_heap (knd:=d3 X.prog X.w) (show A.in1.units+4<FQ by show A.units+1+4<FQ;omega) (lG I hb) dd h1 (h _ _ (I.tok _) h2)
end
section
variable{X:Cx}
def BI(X:Cx):TE:=fun _ H Q=>∀p,H p=none->Q (.ref p) (upd H p (.ext (bT X.prog X.w p [])))
theorem wW{pos:Pos}:PE X (.Dict [] [] pos) (BI X):=fun pins s σ H Q I h=>wpAny_Dict_empty ⟨.ref s.heap.objs.size,_,rR I,rfl,h _ (I.hok.fresh (E9 _))⟩
structure DsAt(X:Cx)(H:Hp)(a b:Addr)(xs:List SpE)(k:SpK):Prop where
 d:H a=some (.ext (bT X.prog X.w a xs))
 ks:∀x∈xs,cL X.K H x.2.1 x.1
 key:cL X.K H b k
def AS(X:Cx)(td ty:TE):TE:=fun σ H Q=>td σ H fun x H1=>ty σ H1 fun y H2=>∃a b xs k v,x=.ref a/\y=.ref b/\DsAt X H2 a b xs k/\ju xs k=some v/\Q v H2
theorem A0{pins:List (Addr×Obj)}{σ:L2.St}{H:Hp}{s:E3}{a:Addr}{xs:List SpE}(I:L2.Inv X pins σ H s)(e:H a=some (.ext (bT X.prog X.w a xs))):s.TypeIs (.ref a) "dict"/\∀b,F6 a=.ref b->∃o,s.heap.get? b=some o/\o.dict=none:=by obtain⟨⟨_,_,_,_,_,o,_,_,q1,q2,_⟩,_⟩:=I.hok a _ e;exact⟨⟨o,q1,q2.1⟩,fun b z=>by cases z;exact⟨o,q1,q2.2.1⟩⟩
theorem uH{o i:Expr}{td ty:TE}{pos:Pos}(hu:X.A.units+8<FQ)(ho:PE X o td)(hi:PE X i ty)(hs:CI i):PE X (.Subscript o i pos) (AS X td ty):=by intro pins s σ H Q I h;refine Subscript_ (thn (ho pins s σ H _ I h) fun v s1 ⟨x,H1,I1,r1,q1⟩=>thn (hi pins s1 σ H1 _ I1 q1) fun u s2 zz1_0=>?_);obtain⟨y,H2,I2,r2,a,b,xs,k,w',ex,ey,D,hv,q⟩:=zz1_0;subst ex ey;cases r1;cases r2;exact tail_any (A0 I2 D.d).1 PySem.F.slot_dict_getitem.lookup (yz hu I2 D.d D.ks D.key hv fun u' s' I' r'=>⟨w',H2,I',r',q⟩) (hs _ _)
def As(X:Cx)(td ty tv:TE):TS:=fun D σ H=>tv σ H fun v H1=>td σ H1 fun x H2=>ty σ H2 fun y H3=>∃a b xs k,x=.ref a/\y=.ref b/\DsAt X H3 a b xs k/\xs.length<ER/\D.nx σ (upd H3 a (.ext (bT X.prog X.w a (fO xs k b v))))
theorem vL{o i value:Expr}{td ty tv:TE}{pos pos':Pos}(hu:X.A.units+8<FQ)(ho:PE X o td)(hi:PE X i ty)(hv:PE X value tv)(hs:Ht value (some (.Subscript o i pos')) pos.line X.env=pure false) : PS X (.Assign [.Subscript o i pos'] value pos) (As X td ty tv):=by intro pins s σ H D I h;refine wpAny_Assign_Subscript (thn (hv pins s σ H _ I h) fun r s1 ⟨v,H1,I1,rv,q1⟩=>thn (ho pins s1 σ H1 _ I1 q1) fun u s2 ⟨x,H2,I2,rx,q2⟩=>thn (hi pins s2 σ H2 _ I2 q2) fun iv s3 zz2_0=>?_) hs;obtain⟨y,H3,I3,ry,a,b,xs,k,ex,ey,A,hl,q3⟩:=zz2_0;subst ex ey;cases rx;cases ry;exact yK hu I3 A.d A.ks A.key rv hl fun s4 I4=>⟨σ,_,I4,q3⟩
end
def spD(k:SpK):D:=.tup [.tup [.int k.1,.int k.2.1],.tup [.int k.2.2.1,.int k.2.2.2]]
section
variable{K:E1}{H H':Hp}{M:MH}{a b:Addr}{k:SpK}
theorem lI{v:V}(r:Rep K H (spD k) v):∃b,v=.ref b/\cL K H b k:=by unfold spD at r;rw[Rep]at r;obtain⟨b,xs,rfl,hx,rs⟩:=r;obtain⟨v1,v2,rfl,r1,r2⟩:=dJ rs;rw[Rep]at r1 r2;obtain⟨f,fs,rfl,hf,rf⟩:=r1;obtain⟨g,gs,rfl,hg,rg⟩:=r2;obtain⟨w1,w2,rfl,q1,q2⟩:=dJ rf;obtain⟨w3,w4,rfl,q3,q4⟩:=dJ rg;rw[Rep]at q1 q2 q3 q4;subst q1 q2 q3 q4;exact⟨b,rfl,f,g,hx,hf,hg⟩
theorem mQ(h:cL K H b k):Rep K H (spD k) (.ref b):=by
 obtain⟨f,g,hx,hf,hg⟩:=h;unfold spD;rw[Rep];refine⟨b,_,rfl,hx,?_⟩;have i2:∀(m n:Int),aB K H [D.int m,D.int n] [V.int m,V.int n]:=fun m n=>gQ [m,n];rw[aB];refine⟨_,_,rfl,?_,?_⟩
 ·rw[Rep];exact⟨f,_,rfl,hf,i2 _ _⟩
 ·rw[aB];refine⟨_,_,rfl,?_,?_⟩
  ·rw[Rep];exact⟨g,_,rfl,hg,i2 _ _⟩
  ·rw[aB]
theorem cL.mono(g:Grow K H H')(h:cL K H b k):cL K H' b k:=by obtain⟨b',e,r⟩:=lI ((mQ h).mono g);cases e;exact r
abbrev SpT:=List (SpK×D)
def dsA(kvs:SpT):E1->Hp->Addr->Prop:=fun K H a=>∃xs:List SpE,(∀P w,H a=some (.ext (bT P w a xs)))/\xs.map (·.1)=kvs.map (·.1)/\(∀x∈xs,cL K H x.2.1 x.1)/\aB K H (kvs.map (·.2)) (xs.map (·.2.2))
theorem uy{kvs:SpT}(h:dsA kvs K H a)(g:Grow K H H')(e:H' a=H a):dsA kvs K H' a:=by obtain⟨xs,h1,h2,h3,h4⟩:=h;exact⟨xs,fun P w=>e.trans (h1 P w),h2,fun x hx=>(h3 x hx).mono g,h4.mono g⟩
def dsM(kvs:SpT):MO:=.gen (dsA kvs)
theorem Abs.dsp{kvs:SpT}(h:Abs K H M)(e:M a=some (dsM kvs)):dsA kvs K H a:=(h a _ e).1
theorem dsA.Dy{kvs:SpT}(h:dsA kvs K H a)(ne:H a≠none):kg K H a (dsM kvs):=⟨h,ne,fun H' g e=>uy h g e⟩
theorem Abs.zv{p:Addr}(P:EF)(w:EZ)(h:Abs K H M)(hp:H p=none):Abs K (upd H p (.ext (bT P w p []))) (ax M p (dsM [])):=fun a u e=>by
 by_cases ne:a=p
 ·subst ne;rw[ai]at e;cases e;exact dsA.Dy ⟨[],(fun P w=>ay),rfl,(fun x hx=>by simp at hx),(by simp[aB])⟩ (by rw[ay];simp)
 ·rw[ak ne]at e;exact(h a u e).dq (.new hp) (az ne)
def gE(kvs:SpT)(k:SpK):Option D:=(kvs.find? fun x=>decide (x.1=k)).map (·.2)
def putD(kvs:SpT)(k:SpK)(d:D):SpT:=if(kvs.any fun x=>decide (x.1=k))=true then kvs.map (fun x=>if x.1=k then(x.1,d)else x)else kvs++[(k,d)]
theorem qw(k:SpK):∀{kvs:SpT} {xs:List SpE},xs.map (·.1)=kvs.map (·.1)->aB K H (kvs.map (·.2)) (xs.map (·.2.2))->(∀d,gE kvs k=some d->∃v,ju xs k=some v/\Rep K H d v)/\(gE kvs k=none->ju xs k=none)/\((xs.any fun x=>decide (x.1=k))=kvs.any fun x=>decide (x.1=k))
 |[],[],_,_=>⟨(fun d h=>by simp[gE]at h),(fun _=>rfl),rfl⟩
 |[],x::xs,h,_=>by cases h
 |y::kvs,[],h,_=>by cases h
 |y::kvs,x::xs,h,r=>by
  rw[EJ,EJ]at h
  injection h with h1 h2
  rw[EJ,EJ,aB]at r
  obtain⟨v,vs,e,r1,r2⟩:=r
  injection e with e1 e2
  subst e1 e2
  obtain⟨i1,i2,i3⟩:=qw k h2 r2
  by_cases e:y.1=k
  ·have e':x.1=k:=h1.trans e
   refine⟨fun d hd=>?_,fun hn=>?_,?_⟩
   ·simp[gE,Fw,e]at hd
    subst hd
    exact⟨x.2.2,by simp[ju,Fw,e'],r1⟩
   ·simp[gE,Fw,e]at hn
   ·simp[e,e']
  ·have e':¬x.1=k:=fun z=>e (h1.symm.trans z)
   refine⟨fun d hd=>?_,fun hn=>?_,?_⟩
   ·obtain⟨v,q1,q2⟩:=i1 d (by simpa[gE,Fw,e]using hd)
    exact⟨v,by simpa[ju,Fw,e']using q1,q2⟩
   ·have:=i2 (by simpa[gE,Fw,e]using hn)
    simpa[ju,Fw,e']using this
   ·rw[List.any_cons,List.any_cons,i3,decide_eq_false e,decide_eq_false e']
theorem qZ(k:SpK){d:D}{v:V}(r:Rep K H d v):∀{kvs:SpT} {xs:List SpE},xs.map (·.1)=kvs.map (·.1)->aB K H (kvs.map (·.2)) (xs.map (·.2.2))->
 (xs.map fun x=>if x.1=k then(x.1,x.2.1,v)else x).map (·.1)=(kvs.map fun x=>if x.1=k then(x.1,d)else x).map (·.1)/\aB K H ((kvs.map fun x=>if x.1=k then(x.1,d)else x).map (·.2)) ((xs.map fun x=>if x.1=k then(x.1,x.2.1,v)else x).map (·.2.2))
 |[],[],_,h=>⟨rfl,h⟩
 |[],x::xs,h,_=>by cases h
 |y::kvs,[],h,_=>by cases h
 |y::kvs,x::xs,h,q=>by
  rw[EJ,EJ]at h
  injection h with h1 h2
  rw[EJ,EJ,aB]at q
  obtain⟨v',vs,e,r1,r2⟩:=q
  injection e with e1 e2
  subst e1 e2
  obtain⟨i1,i2⟩:=qZ k r h2 r2
  by_cases e:y.1=k
  ·have e':x.1=k:=h1.trans e
   simp only[EJ,if_pos e,if_pos e']
   exact⟨by rw[i1];exact congrArg (·::_) h1,by rw[aB];exact⟨_,_,rfl,r,i2⟩⟩
  ·have e':¬x.1=k:=fun z=>e (h1.symm.trans z)
   simp only[EJ,if_neg e,if_neg e']
   exact⟨by rw[i1];exact congrArg (·::_) h1,by rw[aB];exact⟨_,_,rfl,r1,i2⟩⟩
theorem AF{kvs:SpT}{xs:List SpE}{d:D}{v:V}(h1:xs.map (·.1)=kvs.map (·.1))(h2:aB K H (kvs.map (·.2)) (xs.map (·.2.2)))(h3:∀x∈xs,cL K H x.2.1 x.1)(hb:cL K H b k)(r:Rep K H d v) : (fO xs k b v).map (·.1)=(putD kvs k d).map (·.1)/\aB K H ((putD kvs k d).map (·.2)) ((fO xs k b v).map (·.2.2))/\∀x∈fO xs k b v,cL K H x.2.1 x.1:=by
 unfold fO putD;rw[(qw k h1 h2).2.2];by_cases e:(kvs.any fun x=>decide (x.1=k))=true
 ·rw[if_pos e,if_pos e];obtain⟨i1,i2⟩:=qZ k r h1 h2;refine⟨i1,i2,fun x hx=>?_⟩;obtain⟨y,hy,rfl⟩:=FH.mp hx;have:=h3 y hy;by_cases e:y.1=k
  ·rw[if_pos e];exact this
  ·rw[if_neg e];exact this
 ·rw[if_neg e,if_neg e];refine⟨by rw[Fg,Fg,h1];rfl,?_,fun x hx=>?_⟩
  ·rw[Fg,Fg];exact h2.append (by rw[EJ,EJ,Gq,Gq,aB];exact⟨_,_,rfl,r,by rw[aB]⟩)
  ·rcases EM.mp hx with z|z
   ·exact h3 x z
   ·have:x=(k,b,v):=by simpa using z
    subst this;exact hb
theorem Grow.ext{φ:Heap->Prop}{o:HO}(h:H a=some (.ext φ)):Grow K H (upd H a o):=.put (fun xs e=>by rw[h]at e;cases e) (fun u xs e=>by rw[h]at e;cases e)
theorem Abs.zN{kvs:SpT}{xs:List SpE}{d:D}{v:V}(P:EF)(w:EZ)(h:Abs K H M)(hx:∀P w,H a=some (.ext (bT P w a xs)))(h1:xs.map (·.1)=kvs.map (·.1))(h2:aB K H (kvs.map (·.2)) (xs.map (·.2.2)))(h3:∀x∈xs,cL K H x.2.1 x.1)(hb:cL K H b k)(r:Rep K H d v) :
 Abs K (upd H a (.ext (bT P w a (fO xs k b v)))) (ax M a (dsM (putD kvs k d))):=fun c u e=>by
 have g:Grow K H (upd H a (.ext (bT P w a (fO xs k b v)))):=.ext (hx P w)
 by_cases ne:c=a
 ·subst ne
  rw[ai]at e;cases e
  obtain⟨q1,q2,q3⟩:=AF h1 h2 h3 hb r
  exact dsA.Dy ⟨_,fun P w=>ay,q1,fun x hx=>(q3 x hx).mono g,q2.mono g⟩ (by rw[ay];simp)
 ·rw[ak ne]at e
  exact(h c u e).dq g (az ne)
end
section
variable{X:Cx}
def yR:TD:=fun _ M Q=>∀p,M p=none->Q (.ref p) (ax M p (dsM []))
theorem ny{pos:Pos}:DE X (.Dict [] [] pos) yR:=aV wW fun σ H Q zz1_0=>by obtain⟨δ,M,R,hs,hM,q,fin⟩:=zz1_0;exact(fun p hp=>fin _ _ _ _ (.new hp) (by rw[Rep]) (hM.zv _ _ hp) (q p (hM.fresh hp)))
def yq(td ty:TD):TD:=fun δ M Q=>td δ M fun x M1=>ty δ M1 fun y M2=>∃l kvs k d,x=.ref l/\y=spD k/\M2 l=some (dsM kvs)/\gE kvs k=some d/\Q d M2
theorem nL{o i:Expr}{td ty:TD}{pos:Pos}(hu:X.A.units+66<FQ)(ho:DE X o td)(hi:DE X i ty)(hs:CI i):DE X (.Subscript o i pos) (yq td ty):=
 aV (uH (by omega) ho hi hs) fun σ H Q zz2_0=>by obtain⟨δ,M,R,hs,hM,q,fin⟩:=zz2_0;exact(⟨δ,M,_,hs,hM,q,fun x M1 v H1 g1 r1 a1 q1=>⟨δ,M1,_,hs.mono g1,a1,q1,fun y M2 u H2 g2 r2 a2 zz3_0=>by
  obtain⟨l,kvs,k,d,ex,ey,hl,hv,q2⟩:=zz3_0
  subst ex ey
  rw[Rep]at r1;subst r1
  obtain⟨b,rfl,sp⟩:=lI r2
  obtain⟨xs,h1,h2,h3,h4⟩:=a2.dsp hl
  obtain⟨v',q3,q4⟩:=(qw k h2 h4).1 d hv
  exact⟨l,b,xs,k,v',rfl,rfl,⟨h1 _ _,h3,sp⟩,q3,fin _ _ _ _ (g1.trans g2) q4 a2 q2⟩⟩⟩)
def yk(td ty tv:TD):TSD:=fun B δ M=>tv δ M fun d M1=>td δ M1 fun x M2=>ty δ M2 fun y M3=>∃l kvs k,x=.ref l/\y=spD k/\M3 l=some (dsM kvs)/\kvs.length<1000000/\B.nx δ (ax M3 l (dsM (putD kvs k d)))
theorem jH{o i value:Expr}{td ty tv:TD}{pos pos':Pos}(hu:X.A.units+66<FQ)(ho:DE X o td)(hi:DE X i ty)(hv:DE X value tv)(hs:Ht value (some (.Subscript o i pos')) pos.line X.env=pure false:=by rfl):DSt X (.Assign [.Subscript o i pos'] value pos) (yk td ty tv):=
 cm (vL (by omega) ho hi hv hs) fun D σ H ⟨δ,M,hs,hM,B,ok,q⟩=>⟨δ,M,_,hs,hM,q,fun d M1 v H1 g1 r1 a1 q1=>⟨δ,M1,_,hs.mono g1,a1,q1,fun x M2 u H2 g2 r2 a2 q2=>⟨δ,M2,_,(hs.mono g1).mono g2,a2,q2,fun y M3 u3 H3 g3 r3 a3 ⟨l,kvs,k,ex,ey,hl,hn,q3⟩=>by
  subst ex ey
  rw[Rep]at r2;subst r2
  obtain⟨b,rfl,sp⟩:=lI r3
  obtain⟨xs,h1,h2,h3,h4⟩:=a3.dsp hl
  have hlen:xs.length=kvs.length:=by have:=congrArg List.length h2;simpa using this
  have sz:1000000<=ER:=nbL rfl
  refine⟨l,b,xs,k,rfl,rfl,⟨h1 _ _,h3,sp⟩,by omega,?_⟩
  have g4:Grow X.K H3 (upd H3 l (.ext (bT X.prog X.w l (fO xs k b v)))):=.ext (h1 X.prog X.w)
  exact ok.nx _ _ _ _ (((g1.trans g2).trans g3).trans g4) (hs.mono (((g1.trans g2).trans g3).trans g4)) (a3.zN _ _ h1 h2 h4 h3 sp (r1.mono (g2.trans g3))) q3⟩⟩⟩
end
section
variable{α β:Type}{n:Nat}{k:Nat->Int}
def kwp(n:Nat)(k:Nat->Int){α:Type}:PySem.W.KasT α->(α->Prop)->Prop
 |.ret a,Q=>Q a
 |.ask i j f,Q=>i<n/\j<n/\kwp n k (f (decide (k i<k j))) Q
theorem d8{f:α->PySem.W.KasT β}{Q:β->Prop}:∀(t:PySem.W.KasT α),kwp n k t (fun a=>kwp n k (f a) Q)->kwp n k (t.bind f) Q
 |.ret _,h=>h
 |.ask i j g,h=>⟨h.1,h.2.1,d8 _ h.2.2⟩
theorem cj{Q R:α->Prop}(hq:∀a,Q a->R a):∀(t:PySem.W.KasT α),kwp n k t Q->kwp n k t R
 |.ret _,h=>hq _ h
 |.ask i j g,h=>⟨h.1,h.2.1,cj hq _ h.2.2⟩
theorem qU{cmp:Nat->Nat->(Bool->E3->Prop)->E3->Prop}{s:E3}(hc:∀i j (C:Bool->E3->Prop),i<n->j<n->C (decide (k i<k j)) s->cmp i j C s){Q:α->E3->Prop}:∀(t:PySem.W.KasT α),kwp n k t (fun a=>Q a s)->t.kasWp cmp Q s
 |.ret _,h=>h
 |.ask i j g,h=>hc i j _ h.1 h.2.1 (qU hc _ h.2.2)
structure Pmu(n:Nat)(p:Array Nat):Prop where
 perm:p.Perm (Fl n).toArray
theorem Pmu.size{p:Array Nat}(h:Pmu n p):p.size=n:=by have:=h.perm.size_eq;simpa using this
theorem Pmu.lt{p:Array Nat}(h:Pmu n p){i:Nat}(hi:i<n):p.getD i 0<n:=by
 have hi':i<p.size:=by rw[h.size];exact hi
 have:p[i]∈(Fl n).toArray:=h.perm.mem_iff.mp (Array.getElem_mem hi');simpa[Array.getD,hi']using this
theorem Pmu.inj{p:Array Nat}(h:Pmu n p){i j:Nat}(hi:i<n)(hj:j<n)(e:p.getD i 0=p.getD j 0):i=j:=by
 have hi':i<p.size:=by rw[h.size];exact hi
 have hj':j<p.size:=by rw[h.size];exact hj
 have nd:p.toList.Nodup:=(Array.perm_iff_toList_perm.mp h.perm).nodup_iff.mpr (by simpa using List.nodup_range);have e':p.toList[i]=p.toList[j]:=by simpa[Array.getD,hi',hj']using e
 have pw:=Fj.mp nd;rcases Nat.lt_trichotomy i j with h|h|h
 ·exact absurd e' (pw i j _ _ h)
 ·exact h
 ·exact absurd e'.symm (pw j i _ _ h)
def ky(k:Nat->Int)(p:Array Nat)(i:Nat):Int:=k (p.getD i 0)
def Inj(n:Nat)(k:Nat->Int):Prop:=∀i j,i<n->j<n->k i=k j->i=j
theorem qi(hk:Inj n k){p:Array Nat}(h:Pmu n p){i j:Nat}(hi:i<n)(hj:j<n)(hij:i≠j):ky k p i≠ky k p j:=fun e=>hij (h.inj hi hj (hk _ _ (h.lt hi) (h.lt hj) e))
def Up(k:Nat->Int)(p:Array Nat)(m:Nat):Prop:=∀i j,i<j->j<m->ky k p i<ky k p j
def Dn(k:Nat->Int)(p:Array Nat)(m:Nat):Prop:=∀i j,i<j->j<m->ky k p j<ky k p i
theorem ye{p:Array Nat}{m:Nat}(h1:1<=m)(h:Up k p m)(h2:ky k p (m-1)<ky k p m):Up k p (m+1):=fun i j hij hj=>by
 by_cases e:j=m
 ·subst e;by_cases e':i=j-1
  ·subst e';exact h2
  ·have:=h i (j-1) (by omega) (by omega);omega
 ·exact h i j hij (by omega)
theorem zr{p:Array Nat}{m:Nat}(h1:1<=m)(h:Dn k p m)(h2:ky k p m<ky k p (m-1)):Dn k p (m+1):=fun i j hij hj=>by
 by_cases e:j=m
 ·subst e;by_cases e':i=j-1
  ·subst e';exact h2
  ·have:=h i (j-1) (by omega) (by omega);omega
 ·exact h i j hij (by omega)
theorem mM(hk:Inj n k){p:Array Nat}(hp:Pmu n p):∀(f m:Nat),1<=m->m+f=n->Up k p m->kwp n k (PySem.W.kas_asc p f m) fun r=>m<=r/\r<=n/\Up k p r/\(r=n\/ky k p r<ky k p (r-1))
 |0,m,h1,e,u=>⟨E9 _,by omega,u,.inl (by omega)⟩
 |f+1,m,h1,e,u=>by
  refine⟨hp.lt (by omega),hp.lt (by omega),?_⟩
  by_cases c:k (p.getD m 0)<k (p.getD (m-1) 0)
  ·rw[decide_eq_true c]
   exact⟨E9 _,by omega,u,.inr c⟩
  ·rw[decide_eq_false c]
   have ne:=qi hk hp (i:=m) (j:=m-1) (by omega) (by omega) (by omega)
   refine cj (fun r h=>⟨by omega,h.2⟩) _ (mM hk hp f (m+1) (by omega) (by omega) (ye h1 u ?_))
   unfold ky at ne ⊢;omega
theorem n4(hk:Inj n k){p:Array Nat}(hp:Pmu n p):∀(f m:Nat),1<=m->m+f=n->Dn k p m->kwp n k (PySem.W.kas_desc f p m 0) fun r=>r.1=p/\r.2.2=0/\m<=r.2.1/\r.2.1<=n/\Dn k p r.2.1
 |0,m,h1,e,u=>⟨rfl,rfl,E9 _,by show m<=n;omega,u⟩
 |f+1,m,h1,e,u=>by
  refine⟨hp.lt (by omega),hp.lt (by omega),?_⟩
  by_cases c:k (p.getD m 0)<k (p.getD (m-1) 0)
  ·rw[decide_eq_true c]
   exact cj (fun r h=>⟨h.1,h.2.1,by omega,h.2.2.2⟩) _ (n4 hk hp f (m+1) (by omega) (by omega) (zr h1 u c))
  ·rw[decide_eq_false c]
   have ne:=qi hk hp (i:=m) (j:=m-1) (by omega) (by omega) (by omega)
   have c2:k (p.getD (m-1) 0)<k (p.getD m 0):=by unfold ky at ne;omega
   refine⟨hp.lt (by omega),hp.lt (by omega),?_⟩
   rw[decide_eq_true c2]
   exact⟨rfl,rfl,E9 _,by show m<=n;omega,u⟩
theorem getD_eq(p:Array Nat)(i:Nat):p.getD i 0=(p[i]?).getD 0:=by simp[Array.getD_eq_getD_getElem?]
theorem rk{p:Array Nat}{m:Nat}(hp:Pmu n p):Pmu n (PySem.W.kas_rev p 0 m):=⟨(mirror_perm _ _ _ _).trans hp.perm⟩
theorem Ag{p:Array Nat}{m:Nat}(hp:Pmu n p)(hm:m<=n)(h:Dn k p m):Up k (PySem.W.kas_rev p 0 m) m:=fun i j hij hj=>by unfold ky PySem.W.kas_rev;rw[getD_eq,getD_eq,getElem?_mirror_all (by rw[hp.size];exact hm),getElem?_mirror_all (by rw[hp.size];exact hm),if_pos ⟨by omega,by omega⟩,if_pos ⟨by omega,hj⟩,<-getD_eq,<-getD_eq];exact h (0+m-1-j) (0+m-1-i) (by omega) (by omega)
theorem ub(hk:Inj n k){p:Array Nat}(hp:Pmu n p){m:Nat}(h1:1<=m)(hm:m<=n)(d:Dn k p m):kwp n k (PySem.W.kas_tail3 m n p) fun r=>Pmu n r.2/\1<=r.1/\r.1<=n/\Up k r.2 r.1:=d8 _ (cj (fun r h=>show Pmu n _/\_ from⟨rk hp,by show 1<=r;omega,h.2.1,h.2.2.1⟩) _ (mM hk (rk hp) (n-m) m h1 (by omega) (Ag hp hm d)))
theorem tQ(hk:Inj n k)(hn:2<=n){p:Array Nat}(hp:Pmu n p):kwp n k (PySem.W.kas_count n p) fun r=>Pmu n r.2/\1<=r.1/\r.1<=n/\Up k r.2 r.1:=by
 refine d8 _ (cj (fun r h=>?_) _ (mM hk hp (n-1) 1 (E9 _) (by omega) fun i j hij hj=>by omega));obtain⟨r1,r2,u,hr⟩:=h;by_cases e:r=n
 ·rw[if_pos (by simp[e])];exact⟨hp,r1,r2,u⟩
 ·rw[if_neg (by simp[e])];by_cases e1:r>1
  ·rw[if_pos e1];refine⟨hp.lt (by omega),hp.lt (by omega),?_⟩;have:k (p.getD 0 0)<k (p.getD (r-1) 0):=u 0 (r-1) (by omega) (by omega);rw[decide_eq_true this];exact⟨hp,r1,r2,u⟩
  ·rw[if_neg e1];have er:r=1:=by omega
   subst er;refine d8 _ (cj (fun q h=>?_) _ (n4 hk hp (n-(1+1)) (1+1) (by omega) (by omega) fun i j hij hj=>?_))
   ·obtain⟨e2,e3,e4,e5,d⟩:=h;rw[if_neg (by rw[e3];exact G0 0),e2];exact ub hk hp (by omega) e5 d
   ·obtain rfl:i=0:=by omega
    obtain rfl:j=1:=by omega
    exact hr.resolve_left e
theorem ig(hk:Inj n k){p:Array Nat}(hp:Pmu n p){m:Nat}(hm:m<n)(u:Up k p m):∀(f l r:Nat),r<=l+f->l<=r->r<=m->(∀i,i<l->ky k p i<ky k p m)->(∀i,r<=i->i<m->ky k p m<ky k p i)->
 kwp n k (PySem.W.kas_place p m f l r) fun x=>x<=m/\(∀i,i<x->ky k p i<ky k p m)/\(∀i,x<=i->i<m->ky k p m<ky k p i)
 |0,l,r,h1,h2,h3,a,b=>⟨by omega,a,fun i hi hm=>b i (by omega) hm⟩
 |f+1,l,r,h1,h2,h3,a,b=>by
  show kwp n k (if l≥r then _ else _) _
  by_cases e:l≥r
  ·rw[if_pos e]
   exact⟨by omega,a,fun i hi hm=>b i (by omega) hm⟩
  ·rw[if_neg e]
   refine⟨hp.lt hm,hp.lt (by omega),?_⟩
   by_cases c:k (p.getD m 0)<k (p.getD ((l+r)/2) 0)
   ·rw[decide_eq_true c]
    refine ig hk hp hm u f l ((l+r)/2) (by omega) (by omega) (by omega) a fun i hi him=>?_
    by_cases ei:i=(l+r)/2
    ·subst ei;exact c
    ·have:=u ((l+r)/2) i (by omega) him
     unfold ky at this ⊢;omega
   ·rw[decide_eq_false c]
    have ne:=qi hk hp (i:=m) (j:=(l+r)/2) hm (by omega) (by omega)
    refine ig hk hp hm u f ((l+r)/2+1) r (by omega) (by omega) h3 (fun i hi=>?_) b
    by_cases ei:i=(l+r)/2
    ·subst ei;unfold ky at ne ⊢;omega
    ·have:=u i ((l+r)/2) (by omega) (by omega)
     unfold ky at ne this ⊢;omega
theorem xa{p:Array Nat}(hp:Pmu n p){m x:Nat}(hm:m<n)(hx:x<=m)(i:Nat):ky k (bubble p m (m-x)) i=if i=x then ky k p m else if x<i/\i<=m then ky k p (i-1)else ky k p i:=by
 unfold ky;rw[getD_eq,getElem?_bubble (by rw[hp.size];exact hm) _ (by omega),show m-(m-x)=x by omega];split
 ·rw[<-getD_eq]
 ·split
  ·rw[<-getD_eq]
  ·rw[<-getD_eq]
theorem qP(hk:Inj n k):∀(f:Nat) (p:Array Nat) (m:Nat),Pmu n p->m+f=n->Up k p m->kwp n k (PySem.W.kas_bin f p m) fun q=>Pmu n q/\Up k q n
 |0,p,m,hp,e,u=>⟨hp,by rw[show n=m by omega];exact u⟩
 |f+1,p,m,hp,e,u=>by
  have hm:m<n:=by omega
  refine d8 _ (cj (fun x h=>?_) _ (ig hk hp hm u m 0 m (by omega) (by omega) (E9 _) (fun i hi=>by omega) fun i hi him=>by omega))
  obtain⟨hx,a,b⟩:=h
  refine qP hk f _ (m+1) ⟨(bubble_perm _ _ _).trans hp.perm⟩ (by omega) fun i j hij hj=>?_
  rw[xa hp hm hx,xa hp hm hx]
  by_cases e1:i=x
  ·rw[if_pos e1,if_neg (by omega),if_pos ⟨by omega,by omega⟩]
   exact b _ (by omega) (by omega)
  ·rw[if_neg e1]
   by_cases e2:x<i
   ·rw[if_pos ⟨e2,by omega⟩,if_neg (by omega),if_pos ⟨by omega,by omega⟩]
    exact u _ _ (by omega) (by omega)
   ·rw[if_neg (by omega)]
    by_cases e3:j=x
    ·rw[if_pos e3];exact a i (by omega)
    ·rw[if_neg e3]
     by_cases e4:x<j
     ·rw[if_pos ⟨e4,by omega⟩]
      by_cases e5:i=j-1
      ·omega
      ·exact u _ _ (by omega) (by omega)
     ·rw[if_neg (by omega)]
      exact u _ _ hij (by omega)
theorem uI(hk:Inj n k)(hn:2<=n):kwp n k (PySem.W.kas_sort n) fun p=>Pmu n p/\Up k p n:=by
 refine d8 _ (cj (fun r h=>?_) _ (tQ hk hn (p:=(Fl n).toArray) ⟨Array.Perm.refl _⟩));obtain⟨hp,h1,h2,u⟩:=h;by_cases e:r.1<n
 ·rw[if_pos e,show max r.1 1=r.1 by omega];exact qP hk _ _ _ hp (by omega) u
 ·rw[if_neg e];have:r.1=n:=by omega
  exact⟨hp,by rw[this]at u;exact u⟩
end
section
variable{prog:EF}{w:EZ}{A:EX}{E:E2->E3->Prop}{s:E3}
def eG(vs:List E2)(p:Array Nat):Array E2:=EE (p.toList.map fun i=>vs.getD i Fi)
end
section
variable{X:Cx}
def p0(us:List (Int×Int))(i:Nat):Int×Int:=us.getD i (0,0)
def pky(us:List (Int×Int))(i:Nat):Int:=100*(p0 us i).1+(p0 us i).2
def Pb(us:List (Int×Int)):Prop:=us.length<64/\us.Nodup/\∀u∈us,0<=u.2/\u.2<100
theorem mX{us:List (Int×Int)}{i:Nat}(h:i<us.length):p0 us i∈us:=by unfold p0;rw[FO,EL h];exact List.getElem_mem h
theorem Pb.inj{us:List (Int×Int)}(h:Pb us):Inj us.length (pky us):=fun i j hi hj e=>by
 have b1:=h.2.2 _ (mX hi);have b2:=h.2.2 _ (mX hj);unfold pky at e;have e1:p0 us i=p0 us j:=Prod.ext (by omega) (by omega);unfold p0 at e1;rw[FO,FO,EL hi,EL hj]at e1;have pw:=Fj.mp h.2.1;rcases Nat.lt_trichotomy i j with q|q|q
 ·exact absurd e1 (pw i j _ _ q)
 ·exact q
 ·exact absurd e1.symm (pw j i _ _ q)
theorem xV{xs:List V}{its:List E2}(h:Vals xs its):∀i,RelV (xs.getD i .non) (its.getD i .none):=by
 induction h with
 |nil=>intro i;simp;rfl
 |cons a _ ih=>intro i;cases i with
  |zero=>exact a
  |succ i=>exact ih i
theorem kB{xs:List V}{its:List E2}(h:Vals xs its):∀l:List Nat,Vals (l.map fun i=>xs.getD i .non) (l.map fun i=>its.getD i .none)
 |[]=>.nil
 |i::l=>.cons (xV h i) (kB h l)
variable{prog:EF}{w:EZ}{A:EX}{E:E2->E3->Prop}{s:E3}
theorem xx{x y:Addr}{a b c d:Int}{t1 t2 t3 t4:Tok}{C:Bool->E3->Prop}(hx:IsTup s.heap x #[.int a t1,.int b t2])(hy:IsTup s.heap y #[.int c t3,.int d t4])(hb:0<=b/\b<100)(hd:0<=d/\d<100) (h:C (decide (100*a+b<100*c+d)) s):E8 (ED prog w) A (keyLt' (tuples' true) (.ref x) (.ref y)) C E s:=by
 obtain⟨ox,gx,_,n,dx⟩:=hx;obtain⟨oy,gy,_,m,dy⟩:=hy;refine PySem.W.kat_lt gx dx gy dy ?_;refine PySem.W.kat_cons (wpAny_eqBool_int ?_);by_cases e:a=c
 ·subst e;rw[show(a==a)=true by simp];refine PySem.W.kat_yes (PySem.W.kat_cons (wpAny_eqBool_int ?_));by_cases e2:b=d
  ·subst e2;rw[show(b==b)=true by simp];refine PySem.W.kat_yes (PySem.W.kat_nil ?_);rw[show decide (100*a+b<100*a+b)=false by simp]at h;exact h
  ·rw[show(b==d)=false by simpa using e2];refine PySem.W.kat_no ?_;rw[show(true&&(0+1==0))=false by rfl];refine PySem.W.kat_one _ _ ?_;rw[show decide (100*a+b<100*a+d)=decide (b<d) by exact decide_eq_decide.mpr (by omega)]at h;exact lt_int h
 ·rw[show(a==c)=false by simpa using e];refine PySem.W.kat_no ?_;show E8 _ _ (oneLt' true _ _) _ _ _;rw[show decide (100*a+b<100*c+d)=decide (a<c) by exact decide_eq_decide.mpr (by omega)]at h;exact oneLt_int h
end
section
variable{X:Cx}
def Prs(K:E1)(H:Hp):List V->List (Int×Int)->Prop
 |[],[]=>True
 |x::xs,u::us=>(∃a,x=.ref a/\SqT K H a [.int u.1,.int u.2])/\Prs K H xs us
 |_,_=>False
theorem Prs.len{K:E1}{H:Hp}:∀{xs:List V} {us:List (Int×Int)},Prs K H xs us->xs.length=us.length
 |[],[],_=>rfl
 |_::_,_::_,h=>by rw[F8,F8,Prs.len h.2]
 |[],_::_,h=>h.elim
 |_::_,[],h=>h.elim
def BB(h:Heap)(v:E2)(u:Int×Int):Prop:=∃a t1 t2,v=.ref a/\IsTup h a #[.int u.1 t1,.int u.2 t2]
theorem vO{pins:List (Addr×Obj)}{σ:List (Option V)}{H:Hp}{s:E3}(I:Inv X pins σ H s){x:V}{v:E2}{u:Int×Int}(h:∃a,x=.ref a/\SqT X.K H a [.int u.1,.int u.2])(r:RelV x v):BB s.heap v u:=by obtain⟨a,rfl,ht⟩:=h;cases r;obtain⟨its,rv,hi,_⟩:=I.tuple ht;obtain⟨y1,y2,rfl,⟨t1,rfl⟩,⟨t2,rfl⟩⟩:=vals2 rv;exact⟨a,t1,t2,rfl,hi⟩
theorem vG{pins:List (Addr×Obj)}{σ:List (Option V)}{H:Hp}{s:E3}(I:Inv X pins σ H s):∀{xs:List V} {us:List (Int×Int)} {its:List E2},Prs X.K H xs us->Vals xs its->∀i,i<us.length->BB s.heap (its.getD i .none) (p0 us i)
 |[],[],_,_,_,i,hi=>by simp at hi
 |x::xs,u::us,_,h,.cons a r,i,hi=>by
  cases i with
  |zero=>exact vO I h.1 a
  |succ i=>exact vG I h.2 r i (by simpa using hi)
 |[],_::_,_,h,_,_,_=>h.elim
 |_::_,[],_,h,_,_,_=>h.elim
theorem nE{h:Heap}:∀{its:List E2} {us:List (Int×Int)},its.length=us.length->(∀i,i<us.length->BB h (its.getD i .none) (p0 us i))->∃fs:List E2,PySem.W.KatTups h its fs/\fs.length=us.length/\∀v∈fs,∃n t,v=Value.int n t
 |[],[],_,_=>⟨[],PySem.W.KatTups.nil,rfl,fun v hv=>by simp at hv⟩
 |v::its,u::us,hl,q=>by
  obtain⟨fs,k1,k2,k3⟩:=nE (its:=its) (us:=us) (by simpa using hl) fun i hi=>q (i+1) (by simpa using hi)
  obtain⟨a,t1,t2,e,o,ho,hc,n,hd⟩:=q 0 (by simp)
  have e':v=.ref a:=e
  subst e'
  refine⟨.int u.1 t1::fs,PySem.W.KatTups.cons ho hc hd rfl k1,by simp[k2],fun v hv=>?_⟩
  rcases Fc.mp hv with rfl|hv
  ·exact⟨_,_,rfl⟩
  ·exact k3 v hv
 |[],_::_,hl,_=>by simp at hl
 |_::_,[],hl,_=>by simp at hl
theorem t8:Fp "sorted"=some (.builtin "sorted"):=by first|exact boot_sorted|rfl
end
def gA(h:Heap)(d:Addr)(es:Array FA)(ep:Nat):Prop:=∃o,h.get? d=some o/\o.ExactDict/\o.data=.dict es ep
section
variable{prog:EF}{w:EZ}{A:EX}{E:E2->E3->Prop}{s:E3}{d it:Addr}{es:Array FA}{ep i:Nat}
theorem gA.ty(h:gA s.heap d es ep):s.TypeIs (.ref d) "dict":=let⟨o,a,b,_⟩:=h;⟨o,a,b.1⟩
theorem gA.kept{h h':Heap}(q:gA h d es ep)(k:∀o,h.get? d=some o->h'.get? d=some o):gA h' d es ep:=let⟨o,a,b⟩:=q;⟨o,k o a,b⟩
theorem gA.lt{h:Heap}(q:gA h d es ep):d<h.objs.size:=let⟨_,a,_⟩:=q;E7 a
theorem u7{Q:E2->E3->Prop}(lo:(d==Hy)=false)(hm:gA s.heap d es ep)
 (q:Q (.ref s.heap.objs.size) { s with heap:=s.heap.push { cls:=.type "dict_keyiterator",data:=.fields #[.ref d,.int 0 0,.int es.size 0,.int ep 0] } }):E8 (ED prog w) A (pyIter (.ref d)) Q E s:=by
 have hT:=hm.ty
 obtain⟨o,g1,g2,g3⟩:=hm
 refine wpAny_pyIter_slot hT F.slot_dict_iter (GV F.slot_dict_iter hT F.entry_dict_iter ?_ (F.args_dict_iter_1 _))
 unfold Hm.«dict.__iter__»
 refine cc ?_
 unfold Builtin.Dict.dictSlotNone
 refine cc (wpAny_notOrdered_dict hT ?_)
 show E8 _ _ (pure (F6 d)) _ _ s
 refine E5 ?_
 show E8 _ _ (Builtin.Dict.showsAll d >>= _) _ _ s
 unfold Builtin.Dict.showsAll
 rw[if_neg (by rw[lo];exact ET)]
 refine cc (E5 (cc (wpAny_dictEntries g1 g3 (cc (wpAny_dictEpoch g1 g3 ?_)))))
 refine cc (Fq (E5 ⟨_,rfl,"dict_keyiterator",_,⟨_,EC _ rfl,rfl⟩,Ge.lookup,?_⟩))
 simpa[Gg]using q
theorem wj{Q:Option E2->E3->Prop}(hit:s.heap.IsKeyIter it d i es.size ep)(hm:gA s.heap d es ep)(hi:i<es.size)
 (hQ:∀h':Heap,h'.IsKeyIter it d (i+1) es.size ep->Hi it s.heap h'->Q (some es[i].key) { s with heap:=h' }):E8 (ED prog w) A (pyNext (.ref it)) Q E s:=by
 obtain⟨o,ho,hc,hd⟩:=id hit
 obtain⟨od,g1,g2,g3⟩:=hm
 have hT:=hit.typeIs
 unfold pyNext
 refine cc (wpAny_attempt (Gk (name:=F9 "__next__") hT Ge (GV Ge hT F.entry_dict_keyiterator_next ?_ (F.args_dict_keyiterator_next_1 _))))
 refine cc (E5 (cc (cc ?_)))
 first|refine cc (GJ hT (E5 ?_))|refine cc (wpAny_typeNameOf_keyiter hT (E5 ?_))
 refine cc (wpAny_fieldsOf ho hd ?_)
 simp only[show Builtin.Dict_items.ownsTuple "dict_keyiterator"=false by decide,EO,if_false]
 show E8 _ _ (if(F6 d==Fi)=true then _ else _) _ _ s
 rw[if_neg (show ¬((F6 d==Fi)=true)from ET)]
 refine cc (E5 (cc (wpAny_dictEntries g1 g3 ?_)))
 rw[if_neg (by simp)]
 refine cc (E5 (cc (wpAny_dictEpoch g1 g3 ?_)))
 rw[if_neg (by simp)]
 refine E5 ?_
 simp only[show ¬((i:Int)<0)from by omega,if_false,Int.toNat_natCast,Array.getElem?_eq_getElem hi]
 refine cc ?_
 first|refine cc (GJ hT (E5 ?_))|refine cc (wpAny_typeNameOf_keyiter hT (E5 ?_))
 refine cc (wpAny_isOneOf_keyiter hT ?_)
 show E8 _ _ (Hz (.ref it) 1 (Gg ((i:Int)+1)) >>= _) _ _ s
 refine cc (wpAny_setField ho hd (by simp) ?_)
 have n1:(s.heap.update it (Obj.mapFields (·.setIfInBounds 1 (Gg ((i:Int)+1))))).IsKeyIter it d (i+1) es.size ep:=
  ⟨_,Fy _ ho (Obj.isFreed_of_fields (Obj.data_mapFields hd _)),(Obj.cls_mapFields ..).trans hc,by rw[Obj.data_mapFields hd];simp[Gg]⟩
 refine cc (Fs (cc (wpAny_isOneOf_keyiter (s:={ s with heap:=s.heap.update it (Obj.mapFields (·.setIfInBounds 1 (Gg ((i:Int)+1)))) }) n1.typeIs ?_)))
 show E8 _ _ (pure es[i].key) _ _ _
 exact E5 (E5 ⟨_,rfl,E5 (hQ _ n1 (Heap.SameBut.update ..))⟩)
theorem yj{Q:Option E2->E3->Prop}(hh:A.handled=none)(hit:s.heap.IsKeyIter it d es.size es.size ep)(hm:gA s.heap d es ep)
 (hQ:∀h',Heap.ExtBut it s.heap h'->Q none { s with heap:=h' }):E8 (ED prog w) A (pyNext (.ref it)) Q E s:=by
 obtain⟨o,ho,hc,hd⟩:=id hit
 obtain⟨od,g1,g2,g3⟩:=hm
 have hT:=hit.typeIs
 unfold pyNext
 refine cc (wpAny_attempt (Gk (name:=F9 "__next__") hT Ge (GV Ge hT F.entry_dict_keyiterator_next ?_ (F.args_dict_keyiterator_next_1 _))))
 refine cc (E5 (cc (cc ?_)))
 first|refine cc (GJ hT (E5 ?_))|refine cc (wpAny_typeNameOf_keyiter hT (E5 ?_))
 refine cc (wpAny_fieldsOf ho hd ?_)
 simp only[show Builtin.Dict_items.ownsTuple "dict_keyiterator"=false by decide,EO,if_false]
 show E8 _ _ (if(F6 d==Fi)=true then _ else _) _ _ s
 rw[if_neg (show ¬((F6 d==Fi)=true)from ET)]
 refine cc (E5 (cc (wpAny_dictEntries g1 g3 ?_)))
 rw[if_neg (by simp)]
 refine cc (E5 (cc (wpAny_dictEpoch g1 g3 ?_)))
 rw[if_neg (by simp)]
 refine E5 ?_
 simp only[show ¬((es.size:Int)<0)from by omega,if_false,Int.toNat_natCast,Array.getElem?_eq_none (E9 es.size)]
 refine cc ?_
 first|refine cc (GJ hT (E5 ?_))|refine cc (wpAny_typeNameOf_keyiter hT (E5 ?_))
 show E8 _ _ (Hz (.ref it) 0 .none >>= _) _ _ s
 refine cc (wpAny_setField ho hd (by simp) ?_)
 show E8 _ _ (newExc (.type "StopIteration") [] >>= _) _ _ _
 refine cc ?_
 simp only[newExc,newTuple]
 refine cc (Fq ?_ (by size_fits))
 refine cc (m:=firstArgMember _ _) (wpAny_of_eq (a:=Fi) (by first|rfl|(simp only[firstArgMember];rfl)) ?_)
 refine Fq ?_ (by size_fits)
 simp only[raiseNew]
 refine cc (wpAny_handled ?_)
 rw[show A.in1.handled=none from hh]
 refine cc (E5 (wpAny_throw ?_))
 refine cc (wpAny_isInstance (T:="StopIteration") (b:=true) ⟨_,EC _ rfl,rfl⟩ isSubtype_stop ?_)
 exact E5 (hQ _ (((Heap.SameBut.update ..).extBut.push _).push _))
theorem sW(hh:A.handled=none)(I d:Addr)(hne:d≠I)(es:Array FA)(ep:Nat):Walks prog w A I [I,d] [I] es.size (fun i v=>∃e,es[i]?=some e/\v=e.key) (fun i h=>h.IsKeyIter I d i es.size ep/\gA h d es ep) where
 sub:=fun b hb=>by simp at hb;simp[hb]
 frame:=fun _ _ _ st hk=>⟨st.1.at fun o e=>hk I (by simp) o e,st.2.kept fun o e=>hk d (by simp) o e⟩
 item:=fun i s Q E hi st hQ=>wj st.1 st.2 hi fun h' n1 sb=>hQ _ h' s.toks ⟨es[i],by simp[hi],rfl⟩ ⟨n1,st.2.kept fun o e=>(sb.2 d hne).trans e⟩ fun b o hb e=>sb.extBut b o (fun h=>hb (by simp[h])) e
 done:=fun s Q E st hQ=>yj hh st.1 st.2 fun h' he=>hQ h' s.toks fun b o hb e=>he b o (fun h=>hb (by simp[h])) e
 self:=fun _ _ _ _ st hQ=>wpAny_pyIter_keyiter st.1 hQ
theorem qI(lo:(d==Hy)=false):PySem.W.KdlSrc prog w "dict" d d es.size (fun i v=>∃e,es[i]?=some e/\v=e.key) (fun h=>gA h d es ep) where
 type:=fun _ hm=>hm.ty
 there:=fun _ hm=>⟨hm.lt,hm.lt⟩
 keep:=fun _ _ hm hk=>hm.kept fun o e=>hk d (.inl rfl) o e
 notList:=by decide
 notTuple:=by decide
 hint:=fun _ _ _ _ hm hq=>PySem.W.kdl_hint_dict hm.ty hq
 iter:=fun _ _ hh hm=>⟨_,_,(fun _ _ hq=>u7 lo hm hq),sW hh _ d (EV hm.lt) es ep,⟨⟨_,EC _ rfl,rfl,rfl⟩,hm.kept fun o e=>E4 _ e⟩⟩
end
section
variable{X:Cx}
theorem uW{P:EF}{w:EZ}{xs:List SpE}{ys:List (SpK×Addr×E2)}(r:HA PrS xs ys):(ys.map (entryOfKey (d3 P w))).map (·.key)=xs.map fun x=>F6 x.2.1:=by
 induction r with
 |nil=>rfl
 |cons h t ih=>simp only[EJ,ih,h.2.1];rfl
theorem k8:∀xs:List SpE,Vals (xs.map fun x=>V.ref x.2.1) (xs.map fun x=>F6 x.2.1)
 |[]=>.nil
 |x::xs=>.cons rfl (k8 xs)
theorem nU(hc:X.calm=true):bE X (.type "list") (fun vs H Q=>∃p xs,vs=[.ref p]/\H p=some (.ext (bT X.prog X.w p xs))/\∀l,H l=none->Q (.ref l) (upd H l (.lst (xs.map fun x=>V.ref x.2.1)))):=by
 intro pins s σ H vs us Q I r z0;obtain⟨p,xs,ev,hp,q⟩:=z0;subst ev;obtain⟨u,rfl,ru⟩:=vals1 r;cases ru;obtain⟨⟨h1,h2,h3,ys,r1,o,es,ep,q1,q2,q3,q4⟩,_⟩:=I.hok p _ hp;have hz:es.size=xs.length:=by rw[<-Fu,q4,E6,mO r1]
 refine PySem.W.kdl_call (qI (es:=es) (ep:=ep) h1) (I.ok.hd hc) ⟨o,q1,q2,q3⟩ (by rw[hz];exact h2) fun h' tk acc c kp hl it=>?_
 have ea:acc.toList=xs.map fun x=>F6 x.2.1:=by
  rw[<-uW (P:=X.prog) (w:=X.w) r1,<-q4];apply List.ext_getElem?;intro i;by_cases hi:i<es.size
  ·have hi':i<acc.size:=by rw[it.1];exact hi
   obtain⟨e,e1,e2⟩:=it.2 i acc[i] (by simp[hi']);simp[hi',hi]at e1 ⊢;rw[e2,<-e1]
  ·have hi':¬i<acc.size:=by rw[it.1];exact hi
   simp[hi,hi']
 refine⟨.ref s.heap.objs.size,_,I.laid (t':=tk) kp (E9 _) (show bB X.prog X.w _ h' _ (.lst _)from⟨by rw[E6];exact h2,_,c,k8 xs,?_⟩),rfl,q _ (I.hok.fresh (E9 _))⟩;rw[<-ea,Array.toArray_toList];exact hl
def AI:RC:=fun ds M Q=>vm ds M Q\/∃l kvs,ds=[.ref l]/\M l=some (dsM kvs)/\∀p,M p=none->Q (.ref p) (ax M p (.lst (kvs.map fun x=>spD x.1)))
theorem k9{K:E1}{H:Hp}:∀{kvs:SpT} {xs:List SpE},xs.map (·.1)=kvs.map (·.1)->(∀x∈xs,cL K H x.2.1 x.1)->aB K H (kvs.map fun x=>spD x.1) (xs.map fun x=>V.ref x.2.1)
 |[],[],_,_=>by rw[Gq,Gq];exact aB.nil
 |y::kvs,x::xs,h,k=>by
  rw[EJ,EJ]at h
  injection h with e1 e2
  rw[EJ,EJ]
  exact aB.cons (by rw[<-e1];exact mQ (k x (by simp))) (k9 e2 fun z hz=>k z (by simp[hz]))
 |[],_::_,h,_=>by cases h
 |_::_,[],h,_=>by cases h
theorem gu(hc:X.calm=true):cu X (.type "list") AI:=by
 intro pins s σ H vs us Q I rv z0;obtain⟨ds,M,R,rs,a,q,fin⟩:=z0;rcases q with q|⟨l,kvs,ed,hl,q⟩
 ·exact yy pins s σ H vs us Q I rv ⟨ds,M,R,rs,a,q,fin⟩
 ·subst ed;obtain⟨v,rfl,r⟩:=bF rs;rw[Rep]at r;subst r;obtain⟨xs,h1,h2,h3,h4⟩:=a.dsp hl;exact nU hc pins s σ H _ us Q I rv ⟨_,xs,rfl,h1 _ _,fun z hz=>fin (.ref z) _ _ _ (.new hz) (by rw[Rep]) (a.km hz (k9 h2 h3)) (q z (a.fresh hz))⟩
end
abbrev WK:=SpK×SpK
section
variable{P:EF}{w:EZ}
def e7(P:EF)(w:EZ)(h:Heap)(k:WK)(a:Addr):Prop:=∃o b c m,h.get? a=some o/\o.cls=.type "tuple"/\o.data=.seq #[.ref b,.ref c] m/\du P w h k.1 b/\du P w h k.2 c
theorem e7.inj{h:Heap}{a:Addr}{x y:WK}(p:e7 P w h x a)(q:e7 P w h y a):x=y:=by
 obtain⟨o,b,c,m,h1,h2,h3,h4,h5⟩:=p;obtain⟨o',b',c',m',g1,g2,g3,g4,g5⟩:=q;rw[h1]at g1;cases g1;rw[h3]at g3;injection g3 with e _;have e1:b=b'/\c=c':=by simpa using e
 obtain⟨rfl,rfl⟩:=e1;exact Prod.ext (h4.inj g4) (h5.inj g5)
theorem e7.keeps{h h':Heap}{k:WK}{a d:Addr}{o:Obj}{es:Array FA}{ep:Nat}(p:e7 P w h k a)(hd:h.get? d=some o)(he:o.data=.dict es ep)(sb:Hi d h h'):e7 P w h' k a:=by
 obtain⟨oa,b,c,m,h1,h2,h3,h4,h5⟩:=p;have ne:a≠d:=fun z=>by rw[z,hd]at h1;cases h1;rw[he]at h3;cases h3
 exact⟨oa,b,c,m,(sb.2 a ne).trans h1,h2,h3,h4.keeps hd he sb,h5.keeps hd he sb⟩
def um(P:EF)(w:EZ)(k:WK):Int:=reduceHash (Builtin.Tuple.tupleHashOf [lZ P w k.1,lZ P w k.2])
theorem e7.hash{A:EX}{E:E2->E3->Prop}{s:E3}{k:WK}{a:Addr}{Q:Int->E3->Prop}(hu:A.units+6<FQ)(p:e7 P w s.heap k a)(q:Q (um P w k) { s with toks:=s.toks+15 }):E8 (ED P w) A (pyHash (.ref a)) Q E s:=by
 obtain⟨o,b,c,m,h1,h2,h3,h4,h5⟩:=p;obtain⟨hp,g,d,tk,os⟩:=s;show E8 _ _ (pyHashByItsType (.ref a)) _ _ _;refine PySem.W.pyHash_slot (T:="tuple") ⟨o,h1,h2⟩ F.slot_tuple_hash F.entry_tuple_hash (F.args_tuple_hash_1 _) rfl (.inr (by omega)) ?_;unfold Hm.«tuple.__hash__»;simp only[<-FV]
 iterate 4 wp_step
 refine E5 ?_;refine cc (wpAny_tupleItemsOf h1 h3 ?_);refine cc ?_;simp only[FW,FZ,FT,Hb];refine cc (h4.hash (by show A.units+1+4<FQ;omega) ?_);refine cc (du.hash (by show A.units+1+4<FQ;omega) h5 ?_);refine E5 ?_;unfold retInt
 wp_walk
 exact⟨_,_,rfl,q⟩
def mr(k:WK):GZ:=.tuple [jt k.1,jt k.2]
theorem e7.reads{h:Heap}{k:WK}{a:Addr}(p:e7 P w h k a):∃as,Reads h (.ref a) (mr k) as:=by obtain⟨o,b,c,m,h1,h2,h3,h4,h5⟩:=p;obtain⟨as,r1⟩:=h4.reads;obtain⟨bs,r2⟩:=h5.reads;exact⟨_,.tuple h1 h2 h3 (.cons r1 (.cons r2 .nil))⟩
theorem oJ(x y:WK):(mr x).eqv (mr y)=decide (x=y):=by simp only[mr,Ff,FP,Bool.and_true,jw];rw[Bool.eq_iff_iff];simp[Prod.ext_iff]
theorem e7.eq{A:EX}{E:E2->E3->Prop}{s:E3}{x y:WK}{a b:Addr}{Q:Bool->E3->Prop}(hu:A.units+6<FQ)(p:e7 P w s.heap x a)(p':e7 P w s.heap y b)(q:Q (decide (x=y)) s):E8 (ED P w) A (eqBool (.ref a) (.ref b)) Q E s:=by obtain⟨as,r1⟩:=p.reads;obtain⟨bs,r2⟩:=p'.reads;have hd:min (mr x).depth (mr y).depth<=4:=Fh (Nat.min_le_left _ _) (nbL rfl);have:=SeqAt.eqAt_reads (mr x) (mr y) A s (.ref a) (.ref b) as bs r1 r2 rfl rfl (by omega);rw[oJ]at this;exact this P w E Q q
theorem du.vZ{A:EX}{E:E2->E3->Prop}{s:E3}{k:SpK}{a:Addr}{Q:Bool->E3->Prop}(i:Nat)(p:du P w s.heap k a)(q:Q true s):E8 (ED P w) A (eqIsQuiet (i+1+1) (.ref a)) Q E s:=by obtain⟨o,b,c,m,h1,h2,h3,h4,h5⟩:=p;rw[eqIsQuiet.eq_2];refine cc (wpAny_specialOf ⟨o,h1,h2⟩ F.slot_tuple_eq.lookup ?_);refine cc (wpAny_isInstance ⟨o,h1,h2⟩ isSubtype_tuple_tuple ?_);simp only[G1,EO,if_false];refine cc (Fx h1 h3 ?_);simp only[Option.getD_some,<-FV];refine cc ?_;simp only[FW,FZ,FT,Hb];refine cc (h4.quiet i ?_);simp only[G1,EO,if_false,FT];refine cc (h5.quiet i ?_);simp only[G1,EO,if_false,FT];refine E5 ?_;exact E5 q
theorem e7.quiet{A:EX}{E:E2->E3->Prop}{s:E3}{k:WK}{a:Addr}{Q:Bool->E3->Prop}(p:e7 P w s.heap k a)(q:Q true s):E8 (ED P w) A (eqIsQuiet 8 (.ref a)) Q E s:=by obtain⟨o,b,c,m,h1,h2,h3,h4,h5⟩:=p;rw[eqIsQuiet.eq_2];refine cc (wpAny_specialOf ⟨o,h1,h2⟩ F.slot_tuple_eq.lookup ?_);refine cc (wpAny_isInstance ⟨o,h1,h2⟩ isSubtype_tuple_tuple ?_);simp only[G1,EO,if_false];refine cc (Fx h1 h3 ?_);simp only[Option.getD_some,<-FV];refine cc ?_;simp only[FW,FZ,FT,Hb];refine cc (h4.vZ 5 ?_);simp only[G1,EO,if_false,FT];refine cc (h5.vZ 5 ?_);simp only[G1,EO,if_false,FT];refine E5 ?_;exact E5 q
def gr(P:EF)(w:EZ):HeapKind P w WK where
 is:=e7 P w
 hash:=um P w
 draws:=fun _=>15
 room:=fun A=>A.units+6<FQ
 inj:=fun p q=>p.inj q
 keeps:=fun p hd he sb=>p.keeps hd he sb
 pyHash:=fun hu p q=>p.hash hu q
 eqBool:=fun hu p p' q=>p.eq hu p' q
 quiet:=fun p q=>p.quiet q
end
section
variable{X:Cx}{pins:List (Addr×Obj)}{σ:L2.St}{H H':Hp}{s:E3}{a b:Addr}{k:WK}
def iV(K:E1)(H:Hp)(b:Addr)(k:WK):Prop:=∃f g,SqT K H b [.ref f,.ref g]/\cL K H f k.1/\cL K H g k.2
theorem zy(I:L2.Inv X pins σ H s)(h:iV X.K H b k):e7 X.prog X.w s.heap k b:=by
 obtain⟨f,g,h1,h2,h3⟩:=h;obtain⟨its,r,ht,_⟩:=I.tuple h1;cases r with
 |cons a1 r=>cases r with
  |cons a2 r=>
   cases r
   cases a1
   cases a2
   obtain⟨o,q1,q2,m,q3⟩:=ht
   exact⟨o,f,g,m,q1,q2,q3,lG I h2,lG I h3⟩
abbrev WlE:=WK×Addr
def ysW(xs:List WlE):List (WK×Addr×E2):=xs.map fun x=>(x.1,x.2,.bool true)
def jE(xs:List WlE)(k:WK)(b:Addr):List WlE:=if(xs.any fun x=>decide (x.1=k))=true then xs else xs++[(k,b)]
theorem BK(xs:List WlE):(atKey (ysW xs) k).isSome=xs.any fun x=>decide (x.1=k):=by
 induction xs with
 |nil=>rfl
 |cons x xs ih=>
  rw[List.any_cons,<-ih]
  by_cases e:x.1=k
  ·simp[ysW,atKey,Fw,e]
  ·simp[ysW,atKey,Fw,e]
theorem ur(xs:List WlE):storedH (ysW xs) k b (.bool true)=ysW (jE xs k b):=by
 unfold storedH jE;rw[BK];by_cases e:(xs.any fun x=>decide (x.1=k))=true
 ·rw[if_pos e,if_pos e];unfold ysW;rw[GR];refine List.map_congr_left fun x _=>?_;show putAt k (.bool true) (x.1,x.2,FY true)=_;unfold putAt;split<;>rfl
 ·rw[if_neg e,if_neg e];unfold ysW;rw[Fg];rfl
theorem nK(xs:List WlE):(ysW xs).map (·.1)=xs.map (·.1):=by unfold ysW;rw[GR];rfl
def dwF(P:EF)(w:EZ)(a:Addr)(xs:List WlE):Heap->Prop:=fun h=>(a==Hy)=false/\xs.length<=ER/\(xs.map (·.1)).Nodup/\∃o es ep,h.get? a=some o/\o.ExactDict/\o.data=.dict es ep/\es.toList=(ysW xs).map (entryOfKey (gr P w))
theorem uT{P:EF}{w:EZ}{xs:List WlE}(h1 h2:Heap)(h:dwF P w a xs h1)(k:∀o,h1.get? a=some o->h2.get? a=some o):dwF P w a xs h2:=by obtain⟨p1,p2,p3,o,es,ep,q1,q⟩:=h;exact⟨p1,p2,p3,o,es,ep,k o q1,q⟩
theorem wQ(xs:List WlE)(k:WK)(b:Addr):(jE xs k b).length<=xs.length+1:=by
 unfold jE;split
 ·omega
 ·simp
theorem Bh{A:EX}{E:E2->E3->Prop}{Q:Unit->E3->Prop}{xs:List WlE}(hu:A.units+8<FQ)(I:L2.Inv X pins σ H s)(e:H a=some (.ext (dwF X.prog X.w a xs)))(hk:∀x∈xs,iV X.K H x.2 x.1)(hb:iV X.K H b k)(hl:xs.length<ER)
 (h:∀s',L2.Inv X pins σ (upd H a (.ext (dwF X.prog X.w a (jE xs k b)))) s'->Q () s'):E8 (ED X.prog X.w) A (setItem (.ref a) (.ref b) (.bool true)) Q E s:=by
 obtain⟨⟨h1,h2,h3,o,es,ep,q1,q2,q3,q4⟩,_⟩:=I.hok a _ e
 have dd:s.heap.DictOfH (gr X.prog X.w) a (ysW xs):=⟨o,es,ep,q1,q2,q3,q4,fun x hx=>by
  obtain⟨y,hy,rfl⟩:=FH.mp hx
  exact zy I (hk y hy),by rw[nK];exact h3⟩
 refine wpAny_setItem_heap (knd:=gr X.prog X.w) (hsz:=by unfold ysW;rw[E6];exact h2) (show A.in1.units+6<FQ by show A.units+1+6<FQ;omega) (zy I hb) dd fun h' dd' hs=>h _ ?_
 rw[ur]at dd'
 obtain⟨q,es,ep,hq,q2,q3,q4,_,q5⟩:=dd'
 refine lL I (by rw[e];exact GB) hs ⟨q,hq⟩ ⟨⟨h1,?_,?_,q,es,ep,hq,q2,q3,q4⟩,⟨q,hq⟩,fun h1 h2 x y=>uT h1 h2 x y⟩
 ·have:=wQ xs k b;omega
 ·rw[<-nK];exact q5
theorem Br(I:L2.Inv X pins σ H s):L2.Inv X pins σ (upd H s.heap.objs.size (.ext (dwF X.prog X.w s.heap.objs.size []))) { s with heap:=s.heap.push { cls:=.type "dict",data:=.dict #[] } }:=
 I.laid (a:=s.heap.objs.size) (t':=s.toks) (fun _ _ q=>E4 _ q) (E9 _)
  ⟨⟨beq_eq_false_iff_ne.mpr (Ne.symm (EV I.big)),Fz _,List.nodup_nil,_,#[],0,EC _ rfl,⟨rfl,rfl,rfl⟩,rfl,rfl⟩,⟨_,EC _ rfl⟩,fun h1 h2 x y=>uT h1 h2 x y⟩
end
section
variable{prog:EF}{w:EZ}{A:EX}{E:E2->E3->Prop}{s:E3}
theorem ki{d:Addr}(hd:(d==Hy)=false):MeetsIn prog w (Hm.«dict.__len__» ⟨[.ref d],[]⟩) (fun _ R s=>∃es ep,gA s.heap d es ep/\R (.ok (.ret (.int es.size s.toks))) { s with toks:=s.toks+1 }):=
 .of_wp fun A R s z=>by
  obtain⟨es,ep,⟨o,ho,hc,hdat⟩,h⟩:=z
  show E8 _ _ (dictSize d >>= _) _ _ s
  unfold dictSize
  refine cc (cc (wpAny_dictEntries ho hdat (E5 ?_)))
  show E8 _ _ (Builtin.Dict.pendingCount d >>= _) _ _ s
  refine cc (wpAny_pendingCount_other hd ?_)
  refine wpAny_ret_mkInt ?_
  rw[Nat.add_zero];exact h
theorem l5{d:Addr}{es:Array FA}{ep:Nat}{Q:E2->E3->Prop}(hd:(d==Hy)=false)(hm:gA s.heap d es ep)(hfit:(es.size:Int)<2^63)
 (h:Q (.int es.size (s.toks+1)) { s with toks:=s.toks+1+1 }):E8 (ED prog w) A (call (.builtin "len") [.ref d]) Q E s:=by
 refine Calls.call_function_entry kind_len plain_len entry_len (args_len1 _) ?_
 unfold Hm.«len»
 refine cc (m:=oneArg "len" _) (E5 ?_)
 refine cc (m:=callSpecial? (.ref d) (F9 "__len__")) (Gk (name:=F9 "__len__") hm.ty F.slot_dict_len
  (call_meetsIn F.slot_dict_len hm.ty F.entry_dict_len (F.args_dict_len_1 _) (ki hd) ⟨es,ep,hm,?_⟩))
 show E8 _ _ _ _ _ { s with toks:=s.toks+1 }
 refine cc (Fs (E5 ?_))
 refine cc (Gw ?_)
 show E8 _ _ (if((es.size:Nat):Int)<0 then _ else _) _ _ _
 rw[if_neg (by omega)]
 show E8 _ _ (if((es.size:Nat):Int)≥2^63 then _ else _) _ _ _
 rw[if_neg (by omega)]
 exact cc (wpAny_mkInt (E5 ⟨_,rfl,h⟩))
end
def wlD(k:WK):D:=.tup [spD k.1,spD k.2]
section
variable{K:E1}{H H':Hp}{M:MH}{a b:Addr}{k:WK}
theorem CL{v:V}(r:Rep K H (wlD k) v):∃b,v=.ref b/\iV K H b k:=by unfold wlD at r;rw[Rep]at r;obtain⟨b,xs,rfl,hx,rs⟩:=r;obtain⟨v1,v2,rfl,r1,r2⟩:=dJ rs;obtain⟨f,rfl,hf⟩:=lI r1;obtain⟨g,rfl,hg⟩:=lI r2;exact⟨b,rfl,f,g,hx,hf,hg⟩
theorem Aa(h:iV K H b k):Rep K H (wlD k) (.ref b):=by obtain⟨f,g,hx,hf,hg⟩:=h;unfold wlD;rw[Rep];exact⟨b,_,rfl,hx,.cons (mQ hf) (.cons (mQ hg) .nil)⟩
theorem iV.mono(g:Grow K H H')(h:iV K H b k):iV K H' b k:=by obtain⟨f,q,hx,hf,hg⟩:=h;exact⟨f,q,g.t _ _ hx,hf.mono g,hg.mono g⟩
def dwA(ks:List WK):E1->Hp->Addr->Prop:=fun K H a=>∃xs:List WlE,(∀P w,H a=some (.ext (dwF P w a xs)))/\xs.map (·.1)=ks/\∀x∈xs,iV K H x.2 x.1
def dwM(ks:List WK):MO:=.gen (dwA ks)
theorem oE{ks:List WK}(h:dwA ks K H a)(g:Grow K H H')(e:H' a=H a):dwA ks K H' a:=by obtain⟨xs,h1,h2,h3⟩:=h;exact⟨xs,fun P w=>e.trans (h1 P w),h2,fun x hx=>(h3 x hx).mono g⟩
theorem Abs.dw{ks:List WK}(h:Abs K H M)(e:M a=some (dwM ks)):dwA ks K H a:=(h a _ e).1
def addW(ks:List WK)(k:WK):List WK:=if k∈ks then ks else ks++[k]
theorem tE(xs:List WlE)(k:WK)(b:Addr):(jE xs k b).map (·.1)=addW (xs.map (·.1)) k:=by
 have e:(xs.any fun x=>decide (x.1=k))=true↔k∈xs.map (·.1):=by simp[List.any_eq_true]
 unfold jE addW;by_cases h:k∈xs.map (·.1)
 ·rw[if_pos h,if_pos (e.mpr h)]
 ·rw[if_neg h,if_neg (fun z=>h (e.mp z)),Fg];rfl
end
section
variable{X:Cx}
def zo:TD:=fun _ M Q=>∀p,M p=none->Q (.ref p) (ax M p (dwM []))
theorem oV{pos:Pos}:DE X (.Dict [] [] pos) zo:=fun pins s σ H Q I z=>by
 obtain⟨δ,M,R,hs,hM,q,fin⟩:=z;have hn:H s.heap.objs.size=none:=I.hok.fresh (E9 _);refine wpAny_Dict_empty ⟨.ref s.heap.objs.size,_,Br I,rfl,fin _ _ _ _ (.new hn) (by rw[Rep]) (fun c u e=>?_) (q _ (hM.fresh hn))⟩;by_cases ne:c=s.heap.objs.size
 ·subst ne;rw[ai]at e;cases e;exact⟨⟨[],fun P w=>ay,rfl,fun x hx=>nomatch hx⟩,by rw[ay];simp,fun H' g e=>oE ⟨[],fun P w=>ay,rfl,fun x hx=>nomatch hx⟩ g e⟩
 ·rw[ak ne]at e;exact(hM c u e).dq (.new hn) (az ne)
def rh(td ty:TD):TSD:=fun B δ M=>td δ M fun x M2=>ty δ M2 fun y M3=>∃l ks k,x=.ref l/\y=wlD k/\M3 l=some (dwM ks)/\ks.length<1000000/\B.nx δ (ax M3 l (dwM (addW ks k)))
theorem nA{o i:Expr}{td ty:TD}{j:Nat}{pos pos' cp:Pos}(hu:X.A.units+66<FQ)(ho:DE X o td)(hi:DE X i ty)(hs:Ht (.Constant (.bool true) j cp) (some (.Subscript o i pos')) pos.line X.env=pure false:=by rfl):DSt X (.Assign [.Subscript o i pos'] (.Constant (.bool true) j cp) pos) (rh td ty):=by
 intro pins s σ H D I z;obtain⟨δ,M,hs',hM,B,ok,q⟩:=z;refine wpAny_Assign_Subscript (thn ((iA (i:=true) (j:=j) (pos:=cp) (X:=X)) pins s σ H _ I ⟨δ,M,fun d M1=>d=.bl true/\M1=M,hs',hM,⟨rfl,rfl⟩,fun d M1 v H1 g1 r1 a1 z=>(show v=.bl true/\Grow X.K H H1/\Abs X.K H1 M from by obtain⟨rfl,rfl⟩:=z;rw[Rep]at r1;exact⟨r1,g1,a1⟩)⟩) fun r s1 z=>?_) hs;obtain⟨v,H1,I1,rv,rfl,g1,a1⟩:=z;obtain rfl:r=.bool true:=rv;refine thn (ho pins s1 σ H1 _ I1 ⟨δ,M,_,hs'.mono g1,a1,q,fun x M2 u H2 g2 r2 a2 q2=>(show ∃x M2,Grow X.K H1 H2/\Rep X.K H2 x u/\Abs X.K H2 M2/\_ from⟨x,M2,g2,r2,a2,q2⟩)⟩) fun u s2 z=>?_;obtain⟨v2,H2,I2,rx,x,M2,g2,r2,a2,q2⟩:=z;refine thn (hi pins s2 σ H2 _ I2 ⟨δ,M2,_,(hs'.mono g1).mono g2,a2,q2,fun y M3 u H3 g3 r3 a3 q3=>(show ∃y M3,Grow X.K H2 H3/\Rep X.K H3 y u/\Abs X.K H3 M3/\_ from⟨y,M3,g3,r3,a3,q3⟩)⟩) fun iv s3 z=>?_;obtain⟨v3,H3,I3,ry,y,M3,g3,r3,a3,l,ks,k,rfl,rfl,hl,hn,q3⟩:=z;rw[Rep]at r2;subst r2;cases rx;obtain⟨b,rfl,sp⟩:=CL r3;cases ry;obtain⟨xs,h1,h2,h3⟩:=a3.dw hl;have hlen:xs.length=ks.length:=by rw[<-h2,E6]
 have sz:1000000<=ER:=nbL rfl;have g4:Grow X.K H3 (upd H3 l (.ext (dwF X.prog X.w l (jE xs k b)))):=.ext (h1 X.prog X.w);refine Bh (by omega) I3 (h1 _ _) h3 sp (by omega) fun s4 I4=>⟨σ,_,I4,ok.nx _ _ _ _ (((g1.trans g2).trans g3).trans g4) (hs'.mono (((g1.trans g2).trans g3).trans g4)) (fun c u e=>?_) q3⟩
 have W:∀x∈jE xs k b,iV X.K H3 x.2 x.1:=fun x hx=>by
  unfold jE at hx;split at hx
  ·exact h3 x hx
  ·rcases EM.mp hx with y|y
   ·exact h3 x y
   ·rw[F1.mp y];exact sp
 by_cases ne:c=l
 ·subst ne;rw[ai]at e;cases e;have D:dwA (addW ks k) X.K (upd H3 c (.ext (dwF X.prog X.w c (jE xs k b)))) c:=⟨_,fun P w=>ay,by rw[tE,h2],fun x hx=>(W x hx).mono g4⟩;exact⟨D,by rw[ay];simp,fun H' g e=>oE D g e⟩
 ·rw[ak ne]at e;exact(a3 c u e).dq g4 (az ne)
theorem Bb(P:EF)(w:EZ)(xs:List WlE):((ysW xs).map (entryOfKey (gr P w))).map (·.key)=xs.map fun x=>F6 x.2:=by unfold ysW;rw[GR,GR];rfl
theorem vY:∀xs:List WlE,Vals (xs.map fun x=>V.ref x.2) (xs.map fun x=>F6 x.2)
 |[]=>.nil
 |x::xs=>.cons rfl (vY xs)
theorem uM{K:E1}{H:Hp}:∀{xs:List WlE},(∀x∈xs,iV K H x.2 x.1)->aB K H ((xs.map (·.1)).map wlD) (xs.map fun x=>V.ref x.2)
 |[],_=>by rw[Gq,Gq,Gq];exact aB.nil
 |x::xs,h=>by
  rw[EJ,EJ,EJ]
  exact aB.cons (Aa (h x (by simp))) (uM fun z hz=>h z (by simp[hz]))
def Aj:RC:=fun ds M Q=>∃l ks,ds=[.ref l]/\M l=some (dwM ks)/\∀p,M p=none->Q (.ref p) (ax M p (.lst (ks.map wlD)))
theorem vy(hc:X.calm=true):cu X (.type "list") Aj:=by
 intro pins s σ H vs us Q I rv z0;obtain⟨ds,M,R,rs,aM,⟨p,ks,rfl,hl,q⟩,fin⟩:=z0;obtain⟨v,rfl,r⟩:=bF rs;rw[Rep]at r;subst r;obtain⟨u,rfl,ru⟩:=vals1 rv;cases ru;obtain⟨xs,h1',h2',h3'⟩:=aM.dw hl;obtain⟨⟨h1,h2,h3,o,es,ep,q1,q2,q3,q4⟩,_⟩:=I.hok p _ (h1' X.prog X.w);have hz:es.size=xs.length:=by rw[<-Fu,q4,E6];unfold ysW;rw[E6]
 refine PySem.W.kdl_call (qI (es:=es) (ep:=ep) h1) (I.ok.hd hc) ⟨o,q1,q2,q3⟩ (by rw[hz];exact h2) fun h' tk acc c kp hl' it=>?_
 have ea:acc.toList=xs.map fun x=>F6 x.2:=by
  rw[<-Bb X.prog X.w,<-q4];apply List.ext_getElem?;intro i;by_cases hi:i<es.size
  ·have hi':i<acc.size:=by rw[it.1];exact hi
   obtain⟨e,e1,e2⟩:=it.2 i acc[i] (by simp[hi']);simp[hi',hi]at e1 ⊢;rw[e2,<-e1]
  ·have hi':¬i<acc.size:=by rw[it.1];exact hi
   simp[hi,hi']
 have hn:H s.heap.objs.size=none:=I.hok.fresh (E9 _);refine⟨.ref s.heap.objs.size,_,I.laid (t':=tk) (o:=.lst (xs.map fun x=>V.ref x.2)) kp (E9 _) (show bB X.prog X.w _ h' _ (.lst _)from⟨by rw[E6];exact h2,_,c,vY xs,?_⟩),rfl,fin _ _ _ _ (.new hn) (by rw[Rep]) (aM.km hn (by rw[<-h2'];exact uM h3')) (q _ (aM.fresh hn))⟩;rw[<-ea,Array.toArray_toList];exact hl'
def DC:RC:=fun ds M Q=>∃l ks,ds=[.ref l]/\M l=some (dwM ks)/\Q (.int (ks.length:Int)) M
theorem mR:cu X (.builtin "len") DC:=by
 intro pins s σ H vs us Q I rv z0;obtain⟨ds,M,R,rs,aM,⟨p,ks,rfl,hl,q⟩,fin⟩:=z0;obtain⟨v,rfl,r⟩:=bF rs;rw[Rep]at r;subst r;obtain⟨u,rfl,ru⟩:=vals1 rv;cases ru;obtain⟨xs,h1',h2',h3'⟩:=aM.dw hl;obtain⟨⟨h1,h2,h3,o,es,ep,q1,q2,q3,q4⟩,_⟩:=I.hok p _ (h1' X.prog X.w);have hz:es.size=ks.length:=by rw[<-Fu,q4,E6];unfold ysW;rw[E6,<-h2',E6]
 have hz2:es.size=xs.length:=by rw[hz,<-h2',E6]
 refine l5 h1 ⟨o,q1,q2,q3⟩ (by rw[hz2];rw[Gi]at h2;omega) ⟨.int ks.length,H,I.tok _,⟨_,by rw[hz]⟩,fin _ _ _ _ .refl (by rw[Rep]) aM q⟩
end
abbrev Sq:=Rat×Rat
abbrev Pc:=Sq×Sq
def spq(v:Sq):D:=Ma.spt v.1 v.2
def kq(v:Sq):SpK:=(v.1.num,(v.1.den:Int),v.2.num,(v.2.den:Int))
theorem gb{u v:Sq}(h:kq u=kq v):u=v:=by simp only[kq,Prod.mk.injEq]at h;obtain⟨a,b,c,d⟩:=h;exact Prod.ext (Rat.ext a (by omega)) (Rat.ext c (by omega))
def pcq(z:Pc):D:=.tup [spq z.1,spq z.2]
def wkq(z:Pc):WK:=(kq z.1,kq z.2)
theorem qX{y z:Pc}(h:wkq y=wkq z):y=z:=by simp only[wkq,Prod.mk.injEq]at h;exact Prod.ext (gb h.1) (gb h.2)
def BS(v:Sq):Prop:=Ma.Bq 100 v.1/\Ma.Bq 100 v.2
def spP(v:Sq):GZ:=jt (kq v)
theorem l4{M:MH}:∀vs:List Sq,Pds M (vs.map spq) (vs.map spP)
 |[]=>.nil
 |v::vs=>.cons (Pd.of rfl) (l4 vs)
theorem rO(u v:Sq):Ff (spP u) (spP v)=decide (u=v):=by unfold spP;rw[jw,decide_eq_decide];exact⟨gb,fun e=>by rw[e]⟩
theorem Dd{α:Type}(f:α->D)(l:List α)(j:Nat)(hj:j<=l.length):cutD (l.map f) (some (j:Int)) (some ((j:Int)+1))=(l[j]?).toList.map f:=by
 unfold cutD;rw[HT.iP,show(j:Int)+1=((j+1:Nat):Int) by omega,HT.iP,E6,Nat.min_eq_left hj];by_cases h:j<l.length
 ·rw[Nat.min_eq_left (by omega),show j+1-j=1 by omega,EL h,<-List.map_drop,<-List.map_take,List.drop_eq_getElem_cons h];rfl
 ·obtain rfl:j=l.length:=by omega
  rw[<-List.map_drop,List.drop_length];simp
theorem yh(o:Option Sq)(v:Sq):Ff (.list (o.toList.map spP)) (.list ([v].map spP))=decide (o=some v):=by
 cases o with
 |none=>rfl
 |some u=>
  show(Ff (spP u) (spP v)&&true)=_
  rw[rO,Bool.and_true,decide_eq_decide]
  exact⟨fun e=>by rw[e],fun e=>by cases e;rfl⟩
theorem yL(o:Option Sq):G2 (.list (o.toList.map spP))=true:=by cases o<;>rfl
def plq(u v:Sq):Prop:=Ma.ah u.1 u.2 v.1 v.2
def pcl(y z:Pc):Prop:=plq y.1 z.1\/y.1=z.1/\plq y.2 z.2
theorem lT(u v:Sq)(h:plq u v):¬plq v u:=by unfold plq Ma.ah at *;grind
theorem jn(u:Sq):¬plq u u:=fun h=>lT u u h h
theorem uA{u v w:Sq}(h:plq u v)(g:plq v w):plq u w:=by unfold plq Ma.ah at *;grind
theorem xy{u v:Sq}(h:u≠v)(g:¬plq u v):plq v u:=by obtain⟨a,b⟩:=u;obtain⟨c,d⟩:=v;have h:¬(a=c/\b=d):=fun z=>h (by rw[z.1,z.2]);unfold plq Ma.ah at *;dsimp only at *;grind
theorem vW(y z:Pc)(h:pcl y z):¬pcl z y:=by
 rintro(g|⟨e,g⟩)
 ·rcases h with h|⟨e,h⟩
  ·exact lT _ _ h g
  ·rw[e]at g;exact jn _ g
 ·rcases h with h|⟨_,h⟩
  ·rw[e]at h;exact jn _ h
  ·exact lT _ _ h g
theorem uniq{α:Type}{r:α->α->Prop}(as:∀a b,r a b->¬r b a):∀{l m:List α},l.Pairwise r->m.Pairwise r->(∀v,v∈l↔v∈m)->l=m
 |[],[],_,_,_=>rfl
 |[],b::m,_,_,h=>nomatch (h b).mpr Fb
 |a::l,[],_,_,h=>nomatch (h a).mp Fb
 |a::l,b::m,hl,hm,h=>by
  rw[List.pairwise_cons]at hl hm
  have ir:∀x,¬r x x:=fun x q=>as _ _ q q
  have e:a=b:=Classical.byContradiction fun ne=>by
   rcases Fc.mp ((h a).mp Fb)with z|z
   ·exact ne z
   ·rcases Fc.mp ((h b).mpr Fb)with y|y
    ·exact ne y.symm
    ·exact as _ _ (hl.1 b y) (hm.1 a z)
  subst e
  rw[uniq as hl.2 hm.2 fun v=>⟨fun hv=>?_,fun hv=>?_⟩]
  ·rcases Fc.mp ((h v).mp (EU _ hv))with z|z
   ·subst z;exact absurd (hl.1 v hv) (ir v)
   ·exact z
  ·rcases Fc.mp ((h v).mpr (EU _ hv))with z|z
   ·subst z;exact absurd (hm.1 v hv) (ir v)
   ·exact z
theorem B6{α:Type}{r:α->α->Prop}(as:∀a b,r a b->¬r b a){l:List α}(h:l.Pairwise r):l.Nodup:=h.imp fun{a b} q e=>by subst e;exact as _ _ q q
theorem Ah{α:Type}{l m:List α}(hl:l.Nodup)(hm:m.Nodup)(h:∀v,v∈l↔v∈m):l.length=m.length:=((List.perm_ext_iff_of_nodup hl hm).mpr h).length_eq
theorem rq{α:Type}{l:List α}{j:Nat}{u v:α}:v∈fP l j u↔v∈l\/v=u:=by
 have e:v∈l↔v∈l.take j\/v∈l.drop j:=by rw[<-EM,List.take_append_drop]
 unfold fP;rw[EM,Fc,e];constructor
 ·rintro(h|h|h)
  ·exact .inl (.inl h)
  ·exact .inr h
  ·exact .inl (.inr h)
 ·rintro((h|h)|h)
  ·exact .inl h
  ·exact .inr (.inr h)
  ·exact .inr (.inl h)
theorem A5{l:List Sq}{j:Nat}{u:Sq}(h:l.Pairwise plq)(h1:∀i x,i<j->l[i]?=some x->plq x u)(h2:∀i x,j<=i->l[i]?=some x->plq u x):(fP l j u).Pairwise plq:=by
 have a1:∀x∈l.take j,plq x u:=fun x hx=>by obtain⟨i,hi,e⟩:=GQ hx;rw[FJ]at hi;rw[List.getElem_take]at e;exact h1 i x (by omega) (by rw[<-e];exact EL (by omega))
 have a2:∀x∈l.drop j,plq u x:=fun x hx=>by obtain⟨i,hi,e⟩:=GQ hx;rw[List.length_drop]at hi;rw[List.getElem_drop]at e;exact h2 (j+i) x (by omega) (by rw[<-e];exact EL (by omega))
 have hs:(l.take j++l.drop j).Pairwise plq:=by rw[List.take_append_drop];exact h
 rw[List.pairwise_append]at hs;unfold fP;rw[List.pairwise_append,List.pairwise_cons];refine⟨hs.1,⟨a2,hs.2.1⟩,fun x hx y hy=>?_⟩;rcases Fc.mp hy with z|z
 ·rw[z];exact a1 x hx
 ·exact hs.2.2 x hx y z
theorem zL{l:List Sq}{j:Nat}{u:Sq}(h:l.Pairwise plq)(hj:∀x,l[j]?=some x->¬plq x u):∀i x,j<=i->l[i]?=some x->¬plq x u:=fun i x hi e hx=>by
 by_cases z:i=j
 ·subst z;exact hj x e hx
 ·obtain⟨li,ei⟩:=EB.mp e;have lj:j<l.length:=by omega
  have:=Fj.mp h j i lj li (by omega);rw[ei]at this;exact hj _ (EL lj) (uA this hx)
theorem Cp{l:List Sq}{j:Nat}{u:Sq}(h:l.Pairwise plq)(h1:∀i x,i<j->l[i]?=some x->plq x u)(h2:∀i x,j<=i->l[i]?=some x->¬plq x u):u∈l↔l[j]?=some u:=by
 constructor
 ·intro hu;obtain⟨i,hi,e⟩:=GQ hu;have e':l[i]?=some u:=by rw[EL hi,e]
  rcases Nat.lt_trichotomy i j with z|z|z
  ·exact absurd (h1 i u z e') (jn u)
  ·subst z;exact e'
  ·have lj:j<l.length:=by omega
   have:=Fj.mp h j i lj hi z;rw[e]at this;exact absurd this (h2 j _ (E9 _) (EL lj))
 ·exact fun e=>F0 e
theorem rF{l:List Sq}{j:Nat}{u:Sq}(h:l.Pairwise plq)(h1:∀i x,i<j->l[i]?=some x->plq x u)(h2:∀i x,j<=i->l[i]?=some x->¬plq x u)(nu:u∉l):(fP l j u).Pairwise plq:=A5 h h1 fun i x hi e=>xy (fun z=>nu (by rw[<-z];exact F0 e)) (h2 i x hi e)
def Nxt(l:List Sq)(z:Pc):Prop:=∃i:Nat,l[i]?=some z.1/\l[i+1]?=some z.2
def eaq(t b X Y:Int)(w:Wl):Sq:=(Ma.ut t b X 1 w.1,Ma.ut t b Y 1 w.2.1)
def ebq(t b X Y:Int)(w:Wl):Sq:=(Ma.ut t b X 1 w.2.2.1,Ma.ut t b Y 1 w.2.2.2)
def tlD(U V:Wl):D:=d5 U.1 U.2.1 U.2.2.1 U.2.2.2 V.1 V.2.1 V.2.2.1 V.2.2.2
def iI(t b X Y:Int):D->List Sq
 |.tup [.int x,.int y,.int m]=>[(Ma.ut t b X m x,Ma.ut t b Y m y)]
 |.tup [.tup [.int x,.int y],.tup [.int u,.int v]]=>[(Ma.ut t b X 1 x,Ma.ut t b Y 1 y),(Ma.ut t b X 1 u,Ma.ut t b Y 1 v)]
 |_=>[]
def iC(t b X Y:Int)(ws:List Wl)(w:Wl)(v:Sq):Prop:=v=eaq t b X Y w\/v=ebq t b X Y w\/∃o∈ws,v∈iI t b X Y (tlD w o)
structure IsCut(t b X Y:Int)(ws:List Wl)(w:Wl)(c:List Sq):Prop where
 up:c.Pairwise plq
 me:∀v,v∈c↔iC t b X Y ws w v
theorem IsCut.one{t b X Y:Int}{ws:List Wl}{w:Wl}{c d:List Sq}(h:IsCut t b X Y ws w c)(g:IsCut t b X Y ws w d):c=d:=uniq lT h.up g.up fun v=>(h.me v).trans (g.me v).symm
def oP(t b X Y:Int)(ws:List Wl)(y:Pc):Prop:=∃w∈ws,∃c,IsCut t b X Y ws w c/\Nxt c y
def OnQ(t b X Y:Int)(w:Wl)(v:Sq):Prop:=Ma.cr (eaq t b X Y w).1 (eaq t b X Y w).2 (ebq t b X Y w).1 (ebq t b X Y w).2 v.1 v.2=0/\¬Ma.ah v.1 v.2 (eaq t b X Y w).1 (eaq t b X Y w).2/\¬Ma.ah (ebq t b X Y w).1 (ebq t b X Y w).2 v.1 v.2
instance(t b X Y:Int)(w:Wl)(v:Sq):Decidable (OnQ t b X Y w v):=inferInstanceAs (Decidable (_/\_))
def qA(t b X Y:Int)(w o:Wl)(v:Sq):Prop:=(OnQ t b X Y w (eaq t b X Y o)/\v=eaq t b X Y o)\/(OnQ t b X Y w (ebq t b X Y o)/\v=ebq t b X Y o)\/mtD t b X Y w o=.tup [.str "spot",spq v]
theorem vH{W k a c:Int}(hW:0<W)(h:W*a=k*c)(hc:0<c)(h0:0<=a)(h1:a<=c):0<=k/\k<=W:=by
 constructor
 ·apply Classical.byContradiction;intro n;have:=Gx (show 0 < -k by omega) hc;have:=Int.mul_nonneg (show 0<=W by omega) h0;rw[Hx]at *;omega
 ·apply Classical.byContradiction;intro n;have e:(k-W)*c=W*(a-c):=by rw[Int.sub_mul,Int.mul_sub,h]
  have:=Gx (show 0<k-W by omega) hc;have:=Int.mul_nonneg (show 0<=W by omega) (show 0<=c-a by omega);rw[Int.mul_sub]at *;omega
theorem ug{W k p q r s e f:Int}(hW:0<W)(hw:p<r\/(p=r/\q<s))(ix:W*(e-p)=k*(r-p))(iy:W*(f-q)=k*(s-q))(h0:¬(e<p\/(e=p/\f<q)))(h1:¬(r<e\/(r=e/\s<f))):0<=k/\k<=W:=by
 rcases hw with h|⟨rfl,h⟩
 ·exact vH hW ix (by omega) (by omega) (by omega)
 ·obtain rfl:e=p:=by rw[Int.sub_self,Int.mul_zero]at ix;rcases Int.mul_eq_zero.mp ix with z|z<;>omega
  exact vH hW iy (by omega) (by omega) (by omega)
theorem pB{p q e f:Int}(h:¬(e<p\/(e=p/\f<q))):bA p q e f=(e,f):=by
 unfold bA;rw[Ma.bN];by_cases z:HT.lexLt [p,q] [e,f]=true
 ·rw[if_pos z]
 ·rw[if_neg z];rw[Ma.aR]at z;obtain⟨rfl,rfl⟩:e=p/\f=q:=by omega
  rfl
theorem o8{r s g h:Int}(z:¬(r<g\/(r=g/\s<h))):bD r s g h=(g,h):=by
 unfold bD;by_cases y:HT.lexLt [g,h] [r,s]=true
 ·rw[if_pos y]
 ·rw[if_neg y];rw[Ma.aR]at y;obtain⟨rfl,rfl⟩:g=r/\h=s:=by omega
  rfl
theorem qb(p q e f:Int):bA p q e f=(p,q)\/(bA p q e f=(e,f)/\¬(e<p\/(e=p/\f<q))):=by
 by_cases z:e<p\/(e=p/\f<q)
 ·left;rw[<-tM,pB (by omega)]
 ·exact .inr ⟨pB z,z⟩
theorem pV(r s g h:Int):bD r s g h=(r,s)\/(bD r s g h=(g,h)/\¬(r<g\/(r=g/\s<h))):=by
 by_cases z:r<g\/(r=g/\s<h)
 ·left;rw[<-sA,o8 (by omega)]
 ·exact .inr ⟨o8 z,z⟩
section
variable{t b X Y:Int}(ht:0<t)(hb:0<b)
include ht hb
theorem fL{w:Wl}{x y:Int}:OnQ t b X Y w (Ma.ut t b X 1 x,Ma.ut t b Y 1 y)↔crs (w.2.2.1-w.1) (w.2.2.2-w.2.1) (x-w.1) (y-w.2.1)=0/\¬(x<w.1\/(x=w.1/\y<w.2.1))/\¬(w.2.2.1<x\/(w.2.2.1=x/\w.2.2.2<y)):=by
 have htb:0<(t:Rat)/b:=by rw[Rat.div_def];exact Rat.mul_pos (Ma.pos_int ht) (Rat.inv_pos.mpr (Ma.pos_int hb))
 unfold OnQ eaq ebq;dsimp only;rw[nZ hb,mZ (Rat.mul_pos htb htb),ip ht hb,ip ht hb]
theorem zI{w:Wl}(h:Ow w):OnQ t b X Y w (eaq t b X Y w):=(fL ht hb).mpr (by unfold crs;unfold Ow at h;grind)
theorem zP{w:Wl}(h:Ow w):OnQ t b X Y w (ebq t b X Y w):=(fL ht hb).mpr (by unfold crs;unfold Ow at h;grind)
theorem nz{w o:Wl}{v:Sq}:mtD t b X Y w o=.tup [.str "spot",spq v]↔∃x y m,tlD w o=.tup [.int x,.int y,.int m]/\v=(Ma.ut t b X m x,Ma.ut t b Y m y):=by
 unfold mtD tlD;rw[nQ ht hb];generalize d5 w.1 w.2.1 w.2.2.1 w.2.2.2 o.1 o.2.1 o.2.2.1 o.2.2.2=d;constructor
 ·intro h;unfold AB at h;split at h
  ·rename_i x y m;refine⟨x,y,m,rfl,?_⟩;have h2:Ma.spt (Ma.ut t b X m x) (Ma.ut t b Y m y)=spq v:=by simpa using h
   have h3:spD (kq (Ma.ut t b X m x,Ma.ut t b Y m y))=spD (kq v):=h2;refine(gb ?_).symm;unfold spD at h3;simp only[D.tup.injEq,List.cons.injEq,D.int.injEq,and_true]at h3;exact Prod.ext h3.1.1 (Prod.ext h3.1.2 (Prod.ext h3.2.1 h3.2.2))
  ·simp at h;exact absurd h.1 (by decide)
  ·cases h
 ·rintro⟨x,y,m,rfl,rfl⟩;rfl
theorem qS{W k p q r s x y:Int}(hW:0<W)(ix:W*(x-p)=k*(r-p))(iy:W*(y-q)=k*(s-q)):((Ma.ut t b X 1 x,Ma.ut t b Y 1 y):Sq)=(Ma.ut t b X W (p*W+k*(r-p)),Ma.ut t b Y W (q*W+k*(s-q))):=by rw[(zw ht hb hW).mpr ix,(zw ht hb hW).mpr iy]
theorem Dq{w o:Wl}(hw:Ow w)(ho:Ow o)(h:OnQ t b X Y w (eaq t b X Y o)):eaq t b X Y o∈iI t b X Y (tlD w o):=by
 obtain⟨p,q,r,s⟩:=w;obtain⟨e,f,g,h'⟩:=o;obtain⟨h1,h2,h3⟩:=(fL ht hb).mp h;dsimp only[Ow]at *;have ix:=vq p q r s e f g h';have iy:=wm p q r s e f g h';unfold tlD d5 eaq;dsimp only;rw[my p q r s e f,h1];rw[h1,Int.zero_mul,Int.add_zero]at ix iy;generalize crs (r-p) (s-q) (g-e) (h'-f)=W at ix iy;generalize crs (e-p) (f-q) (g-e) (h'-f)=H at ix iy;by_cases hW:W=0
 ·rw[if_pos hW,pB h2,Ma.bN];dsimp only;rw[if_neg]
  ·split
   ·exact F1.mpr rfl
   ·exact Fb
  ·rw[Ma.aR];rcases pV r s g h' with z|⟨z,_⟩<;>rw[z]<;>dsimp only<;>omega
 ·rw[if_neg hW];have hN:0<(W.natAbs:Int):=by omega
  have ks:(W.natAbs:Int)*(e-p)=(if W<0 then -H else H)*(r-p)/\(W.natAbs:Int)*(f-q)=(if W<0 then -H else H)*(s-q):=by
   by_cases n:W<0
   ·rw[if_pos n,show(W.natAbs:Int)=-W by omega,Hx,Hx,Hx,Hx,ix,iy];exact⟨rfl,rfl⟩
   ·rw[if_neg n,show(W.natAbs:Int)=W by omega];exact⟨ix,iy⟩
  have kb:=ug hN hw ks.1 ks.2 h2 h3;have e0:(if W<0 then -(-0:Int)else -0)=0:=by split<;>rfl
  rw[e0,if_neg (by omega)];exact F1.mpr (qS ht hb hN ks.1 ks.2)
theorem CJ{w o:Wl}(hw:Ow w)(ho:Ow o)(h:OnQ t b X Y w (ebq t b X Y o)):ebq t b X Y o∈iI t b X Y (tlD w o):=by
 obtain⟨p,q,r,s⟩:=w;obtain⟨e,f,g,h'⟩:=o;obtain⟨h1,h2,h3⟩:=(fL ht hb).mp h;dsimp only[Ow]at *;have ix:=vq p q r s e f g h';have iy:=wm p q r s e f g h';unfold tlD d5 ebq;dsimp only;rw[mB p q r s e f g h']at h1;rw[my p q r s e f];generalize crs (r-p) (s-q) (g-e) (h'-f)=W at ix iy h1;generalize crs (r-p) (s-q) (e-p) (f-q)=G at ix iy h1;generalize crs (e-p) (f-q) (g-e) (h'-f)=H at ix iy;obtain rfl:G=-W:=by omega
 have ix:W*(g-p)=H*(r-p):=by grind
 have iy:W*(h'-q)=H*(s-q):=by grind
 by_cases hW:W=0
 ·subst hW;rw[if_pos rfl,o8 h3,Ma.bN];dsimp only;rw[if_neg]
  ·split
   ·rename_i c;rw[c.1,c.2];exact F1.mpr rfl
   ·exact EU _ (F1.mpr rfl)
  ·rw[Ma.aR];rcases qb p q e f with z|⟨z,_⟩<;>rw[z]<;>dsimp only<;>omega
 ·rw[if_neg hW];have hN:0<(W.natAbs:Int):=by omega
  have ks:(W.natAbs:Int)*(g-p)=(if W<0 then -H else H)*(r-p)/\(W.natAbs:Int)*(h'-q)=(if W<0 then -H else H)*(s-q):=by
   by_cases n:W<0
   ·rw[if_pos n,show(W.natAbs:Int)=-W by omega,Hx,Hx,Hx,Hx,ix,iy];exact⟨rfl,rfl⟩
   ·rw[if_neg n,show(W.natAbs:Int)=W by omega];exact⟨ix,iy⟩
  have kb:=ug hN hw ks.1 ks.2 h2 h3;have e0:(if W<0 then -(- -W:Int)else - -W)=(W.natAbs:Int):=by split<;>omega
  rw[e0,if_neg (by omega)];exact F1.mpr (qS ht hb hN ks.1 ks.2)
theorem CP{w o:Wl}{x y u v:Int}(h:tlD w o=.tup [.tup [.int x,.int y],.tup [.int u,.int v]]) :
 ((x,y)=(w.1,w.2.1)\/((x,y)=(o.1,o.2.1)/\OnQ t b X Y w (eaq t b X Y o)))/\((u,v)=(w.2.2.1,w.2.2.2)\/((u,v)=(o.2.2.1,o.2.2.2)/\OnQ t b X Y w (ebq t b X Y o))):=by
 obtain⟨p,q,r,s⟩:=w
 obtain⟨e,f,g,h'⟩:=o
 unfold tlD d5 at h
 dsimp only at h ⊢
 have iB:crs (r-p) (s-q) (g-p) (h'-q)=crs (r-p) (s-q) (e-p) (f-q)+crs (r-p) (s-q) (g-e) (h'-f):=mB p q r s e f g h'
 by_cases hW:crs (r-p) (s-q) (g-e) (h'-f)=0
 ·rw[if_pos hW]at h
  split at h
  ·cases h
  ·rename_i c
   split at h
   ·cases h
   ·have c1:crs (r-p) (s-q) (e-p) (f-q)=0:=by
     apply Classical.byContradiction;intro z;exact c (.inl z)
    have c2:¬HT.aU [(bA p q e f).1,(bA p q e f).2] [(bD r s g h').1,(bD r s g h').2]=true:=fun z=>c (.inr z)
    rw[Ma.bN,Ma.aR]at c2
    simp only[D.tup.injEq,List.cons.injEq,D.int.injEq,and_true]at h
    obtain⟨⟨rfl,rfl⟩,rfl,rfl⟩:=h
    rw[hW,c1]at iB
    constructor
    ·rcases qb p q e f with z|⟨z,z'⟩
     ·exact .inl z
     ·refine .inr ⟨z,(fL ht hb).mpr ⟨c1,z',?_⟩⟩
      rw[z]at c2
      rcases pV r s g h' with y|⟨y,y'⟩<;>rw[y]at c2<;>dsimp only at c2 ⊢<;>omega
    ·rcases pV r s g h' with z|⟨z,z'⟩
     ·exact .inl z
     ·refine .inr ⟨z,(fL ht hb).mpr ⟨iB,?_,z'⟩⟩
      rw[z]at c2
      rcases qb p q e f with y|⟨y,y'⟩<;>rw[y]at c2<;>dsimp only at c2 ⊢<;>omega
 ·rw[if_neg hW]at h
  generalize (if crs (r-p) (s-q) (g-e) (h'-f)<0 then -crs (e-p) (f-q) (g-e) (h'-f)else crs (e-p) (f-q) (g-e) (h'-f))=k at h
  generalize (if crs (r-p) (s-q) (g-e) (h'-f)<0 then -crs (e-p) (f-q) (r-p) (s-q)else crs (e-p) (f-q) (r-p) (s-q))=m at h
  split at h<;>cases h
theorem yX{ws:List Wl}(hws:∀o∈ws,Ow o){w:Wl}(hw:w∈ws)(v:Sq):iC t b X Y ws w v↔∃o∈ws,qA t b X Y w o v:=by
 constructor
 ·rintro(rfl|rfl|⟨o,ho,h⟩)
  ·exact⟨w,hw,.inl ⟨zI ht hb (hws w hw),rfl⟩⟩
  ·exact⟨w,hw,.inr (.inl ⟨zP ht hb (hws w hw),rfl⟩)⟩
  ·unfold iI at h;split at h
   ·rename_i x y m e;exact⟨o,ho,.inr (.inr ((nz ht hb).mpr ⟨x,y,m,e,F1.mp h⟩))⟩
   ·rename_i x y u v' e;obtain⟨c1,c2⟩:=CP ht hb e;rcases Fc.mp h with rfl|h
    ·rcases c1 with z|⟨z,on⟩
     ·cases z;exact⟨w,hw,.inl ⟨zI ht hb (hws w hw),rfl⟩⟩
     ·cases z;exact⟨o,ho,.inl ⟨on,rfl⟩⟩
    ·rw[F1.mp h];rcases c2 with z|⟨z,on⟩
     ·cases z;exact⟨w,hw,.inr (.inl ⟨zP ht hb (hws w hw),rfl⟩)⟩
     ·cases z;exact⟨o,ho,.inr (.inl ⟨on,rfl⟩)⟩
   ·cases h
 ·rintro⟨o,ho,⟨on,rfl⟩|⟨on,rfl⟩|h⟩
  ·exact .inr (.inr ⟨o,ho,Dq ht hb (hws w hw) (hws o ho) on⟩)
  ·exact .inr (.inr ⟨o,ho,CJ ht hb (hws w hw) (hws o ho) on⟩)
  ·obtain⟨x,y,m,e,rfl⟩:=(nz ht hb).mp h;refine .inr (.inr ⟨o,ho,?_⟩);rw[e];exact F1.mpr rfl
end
def pcP(y:Pc):GZ:=mr (wkq y)
theorem iN{M:MH}:∀ys:List Pc,Pds M (ys.map pcq) (ys.map pcP)
 |[]=>.nil
 |y::ys=>.cons (Pd.of rfl) (iN ys)
theorem m5:∀ys:List Pc,G5 (ys.map pcP)=true
 |[]=>rfl
 |y::ys=>m5 ys
theorem l9(y z:Pc):Ff (pcP y) (pcP z)=decide (y=z):=by unfold pcP;rw[oJ,decide_eq_decide];exact⟨qX,fun e=>by rw[e]⟩
theorem zp(y:Pc)(ys:List Pc):(ys.map pcP).any (fun q=>Ff q (pcP y))=decide (y∈ys):=by
 rw[List.any_map,Bool.eq_iff_iff,List.any_eq_true,decide_eq_true_iff];constructor
 ·rintro⟨x,hx,e⟩;have e:Ff (pcP x) (pcP y)=true:=e;rw[l9,decide_eq_true_iff]at e;rw[<-e];exact hx
 ·intro h;exact⟨y,h,by show Ff (pcP y) (pcP y)=true;rw[l9];simp⟩
def zps(c:List Sq):List Pc:=c.zip c.tail
theorem rn{c:List Sq}{y:Pc}:y∈zps c↔Nxt c y:=by unfold zps Nxt;rw[List.mem_iff_getElem?];refine exists_congr fun i=>?_;rw[List.getElem?_zip_eq_some,List.getElem?_tail]
theorem xh:∀{c:List Sq},c.Pairwise plq->(zps c).Pairwise fun y z=>plq y.1 z.1
 |[],_=>.nil
 |[_],_=>.nil
 |a::b::c,h=>by
  rw[List.pairwise_cons]at h
  show((a,b)::zps (b::c)).Pairwise _
  rw[List.pairwise_cons]
  exact⟨fun z hz=>h.1 z.1 (List.of_mem_zip hz).1,xh h.2⟩
theorem A7{c:List Sq}(h:c.Pairwise plq):(zps c).Nodup:=(xh h).imp fun{y z} q e=>by subst e;exact jn _ q
def jZ(c:List Sq)(ps:List Pc):List Pc:=(zps c).filter fun y=>decide (y∉ps)
theorem n9{c:List Sq}{ps:List Pc}{y:Pc}:y∈jZ c ps↔Nxt c y/\y∉ps:=by unfold jZ;rw[List.mem_filter,rn,decide_eq_true_iff]
theorem yM{c:List Sq}{ps:List Pc}(h:c.Pairwise plq)(hp:ps.Nodup):(ps++jZ c ps).Nodup:=by rw[List.nodup_append];refine⟨hp,(A7 h).filter _,fun a ha b hb e=>?_⟩;subst e;exact(n9.mp hb).2 ha
theorem wM(c:List Sq)(ps:List Pc):(jZ c ps).length<=c.length:=by refine Fh (List.length_filter_le ..) ?_;unfold zps;rw[List.length_zip];omega
theorem ot(c:List Sq)(i:Nat):(((c.map spq)[i]?).bind fun d=>(((c.tail).map spq)[i]?).map fun e=>D.tup [d,e])=((zps c)[i]?).map pcq:=by
 unfold zps List.zip;rw[EN,EN,List.getElem?_zipWith];cases c[i]? with
 |none=>rfl
 |some a=>
  cases c.tail[i]? with
  |none=>rfl
  |some b=>rfl
theorem x9(c:List Sq)(ps:List Pc):((Fl (zps c).length).filterMap fun i=>((zps c)[i]?).bind fun y=>if y∈ps then none else some (pcq y))=(jZ c ps).map pcq:=by
 rw[nB];unfold jZ;generalize zps c=l
 induction l with
 |nil=>rfl
 |cons y l ih=>
  rw[G4,List.filter_cons]
  by_cases h:y∈ps
  ·rw[if_pos h,if_neg (by simp[h])];exact ih
  ·rw[if_neg h,if_pos (by simp[h]),EJ,<-ih]
theorem nP{α:Type}(f:α->D)(l:List α):cutD (l.map f) (some 1) none=l.tail.map f:=by
 unfold cutD;rw[show(1:Int)=((1:Nat):Int)from rfl,HT.iP,HT.nS,E6,<-List.map_drop,<-List.map_take];cases l with
 |nil=>rfl
 |cons a l=>simp
theorem cM{M M':MH}{p:Addr}(sb:Sub M M')(hp:M' p=none):M p=none:=by
 cases e:M p with
 |none=>rfl
 |some o=>rw[sb _ _ e]at hp;cases hp
def sec(ps:List Pc)(v:Sq):List Sq:=ps.filterMap fun y=>if y.1=v then some y.2 else none
theorem mC{ps:List Pc}{v x:Sq}:x∈sec ps v↔(v,x)∈ps:=by
 unfold sec;rw[List.mem_filterMap];constructor
 ·rintro⟨y,hy,e⟩;by_cases h:y.1=v
  ·rw[if_pos h]at e;cases e;rw[<-h];exact hy
  ·rw[if_neg h]at e;cases e
 ·exact fun h=>⟨_,h,if_pos rfl⟩
theorem xR(ps:List Pc)(v:Sq):(sec ps v).length<=ps.length:=List.length_filterMap_le ..
theorem oF{w:Wl}(h:Bw 30 w):Bd 6 w.1/\Bd 6 w.2.1/\Bd 6 w.2.2.1/\Bd 6 w.2.2.2:=by
 have:=h.u;unfold Uok at this;refine⟨?_,?_,?_,?_⟩
 ·show w.1.natAbs<2^6;omega
 ·show w.2.1.natAbs<2^6;omega
 ·show w.2.2.1.natAbs<2^6;omega
 ·show w.2.2.2.natAbs<2^6;omega
theorem jV{w o:Wl}(hw:Bw 30 w)(ho:Bw 30 o):tlD w o=.non\/(∃x y m,tlD w o=.tup [.int x,.int y,.int m]/\Bd 30 x/\Bd 30 y/\Bd 30 m/\0<m)\/ ∃x y u v,tlD w o=.tup [.tup [.int x,.int y],.tup [.int u,.int v]]/\Bd 6 x/\Bd 6 y/\Bd 6 u/\Bd 6 v:=by obtain⟨a1,a2,a3,a4⟩:=oF hw;obtain⟨b1,b2,b3,b4⟩:=oF ho;exact qh a1 a2 a3 a4 b1 b2 b3 b4
theorem eR{t b x y X' m p:Int}(S:Scl t b x y)(hX:X'=x\/X'=y)(hm:Bd 30 m)(h0:0<m)(hp:Bd 30 p):Ma.Bq 100 (Ma.ut t b X' m p):=by
 have bt:Bd 30 t:=by have:=S.t0;have:=S.t1;show t.natAbs<2^30;omega
 have bb:Bd 30 b:=by have:=S.b0;have:=S.b1;show b.natAbs<2^30;omega
 have bx:Bd 58 X':=by have:=S.x0;have:=S.x1;have:=S.y0;have:=S.y1;show X'.natAbs<2^58;omega
 have hb0:b*m≠0:=by have:=Gx S.b0 h0;omega
 exact .divInt hb0 ((((hp.mul bt).mono (show 30+30<=88 by decide)).add ((bx.mul hm).mono (show 58+30<=88 by decide))).mono (by decide)) ((bb.mul hm).mono (by decide))
theorem mV{t b X Y:Int}(S:Scl t b X Y){w:Wl}(h:Bw 30 w):BS (eaq t b X Y w)/\BS (ebq t b X Y w):=by
 obtain⟨a1,a2,a3,a4⟩:=oF h;have o:Bd 30 1:=by decide
 exact⟨⟨eR S (.inl rfl) o (by decide) (a1.mono (by decide)),eR S (.inr rfl) o (by decide) (a2.mono (by decide))⟩,eR S (.inl rfl) o (by decide) (a3.mono (by decide)),eR S (.inr rfl) o (by decide) (a4.mono (by decide))⟩
theorem yN{t b X Y:Int}(S:Scl t b X Y){w o:Wl}(hw:Bw 30 w)(ho:Bw 30 o):∀v∈iI t b X Y (tlD w o),BS v:=by
 have one:Bd 30 1:=by decide
 have m6:∀{z:Int},Bd 6 z->Bd 30 z:=fun h=>h.mono (by decide);intro v hv;rcases jV hw ho with e|⟨x,y,m,e,bx,by',bm,hm⟩|⟨x,y,u,u',e,bx,by',bu,bu'⟩
 ·rw[e]at hv;cases hv
 ·rw[e]at hv;rw[F1.mp hv];exact⟨eR S (.inl rfl) bm hm bx,eR S (.inr rfl) bm hm by'⟩
 ·rw[e]at hv;rcases Fc.mp hv with z|z
  ·rw[z];exact⟨eR S (.inl rfl) one (by decide) (m6 bx),eR S (.inr rfl) one (by decide) (m6 by')⟩
  ·rw[F1.mp z];exact⟨eR S (.inl rfl) one (by decide) (m6 bu),eR S (.inr rfl) one (by decide) (m6 bu')⟩
theorem mJ{t b X Y:Int}(S:Scl t b X Y){ws:List Wl}{w:Wl}(hB:∀w∈ws,Bw 30 w)(hw:w∈ws){v:Sq}(h:iC t b X Y ws w v):BS v:=by
 rcases h with rfl|rfl|⟨o,ho,h⟩
 ·exact(mV S (hB w hw)).1
 ·exact(mV S (hB w hw)).2
 ·exact yN S (hB w hw) (hB o ho) v h
def addQ(us:List Sq)(u:Sq):List Sq:=if u∈us then us else us++[u]
theorem ja{us:List Sq}{u v:Sq}:v∈addQ us u↔v∈us\/v=u:=by
 unfold addQ;split
 ·rename_i h;exact⟨.inl,fun q=>q.elim id fun e=>by rw[e];exact h⟩
 ·rw[EM,F1]
theorem mi{us:List Sq}{u:Sq}(h:us.Nodup):(addQ us u).Nodup:=by
 unfold addQ;split
 ·exact h
 ·rename_i n;rw[List.nodup_append];exact⟨h,by simp,fun a ha b hb e=>by rw[F1.mp hb]at e;subst e;exact n ha⟩
theorem jc(us:List Sq)(u:Sq):(addQ us u).length<=us.length+1:=by
 unfold addQ;split
 ·omega
 ·simp
def ksT(us:List Sq):SpT:=us.map fun u=>(kq u,D.bl true)
theorem lU(us:List Sq):(ksT us).length=us.length:=E6 ..
theorem nW(us:List Sq):(ksT us).map (fun x=>spD x.1)=us.map spq:=by unfold ksT;rw[GR];rfl
theorem lO(us:List Sq)(u:Sq):putD (ksT us) (kq u) (.bl true)=ksT (addQ us u):=by
 have e:((ksT us).any fun x=>decide (x.1=kq u))=true↔u∈us:=by
  unfold ksT;rw[List.any_map,List.any_eq_true];constructor
  ·rintro⟨v,hv,h⟩;rw[<-gb (of_decide_eq_true h)];exact hv
  ·exact fun h=>⟨u,h,decide_eq_true rfl⟩
 unfold putD addQ;by_cases h:u∈us
 ·rw[if_pos (e.mpr h),if_pos h];refine(List.map_congr_left fun x hx=>?_).trans (List.map_id _);obtain⟨v,hv,rfl⟩:=FH.mp hx;dsimp only;split<;>rfl
 ·rw[if_neg (fun q=>h (e.mp q)),if_neg h];unfold ksT;rw[Fg];rfl
def lQ(ps:List Pc)(y:Pc):List Pc:=if y∈ps then ps else ps++[y]
theorem uJ{ps:List Pc}{y z:Pc}:z∈lQ ps y↔z∈ps\/z=y:=by
 unfold lQ;split
 ·rename_i h;exact⟨.inl,fun q=>q.elim id fun e=>by rw[e];exact h⟩
 ·rw[EM,F1]
theorem xw{ps:List Pc}{y:Pc}(h:ps.Nodup):(lQ ps y).Nodup:=by
 unfold lQ;split
 ·exact h
 ·rename_i n;rw[List.nodup_append];exact⟨h,by simp,fun a ha b hb e=>by rw[F1.mp hb]at e;subst e;exact n ha⟩
theorem uU(ps:List Pc)(y:Pc):(lQ ps y).length<=ps.length+1:=by
 unfold lQ;split
 ·omega
 ·simp
theorem uX(ps:List Pc)(y:Pc):addW (ps.map wkq) (wkq y)=(lQ ps y).map wkq:=by
 unfold addW lQ;by_cases h:y∈ps
 ·rw[if_pos h,if_pos (FH.mpr ⟨y,h,rfl⟩)]
 ·rw[if_neg h,if_neg,Fg]
  ·rfl
  ·intro q;obtain⟨z,hz,e⟩:=FH.mp q;rw[qX e]at hz;exact h hz
theorem yA{u v:Sq}(h:spq u=spq v):u=v:=by have h3:spD (kq u)=spD (kq v):=h;refine gb ?_;unfold spD at h3;simp only[D.tup.injEq,List.cons.injEq,D.int.injEq,and_true]at h3;exact Prod.ext h3.1.1 (Prod.ext h3.1.2 (Prod.ext h3.2.1 h3.2.2))
theorem yD{x:Str}{u v:Sq}:D.tup [.str x,spq u]=.tup [.str x,spq v]↔u=v:=⟨fun h=>yA (by simpa using h),fun h=>by rw[h]⟩
theorem yT{x y:Str}{d e:D}(h:D.tup [.str x,d]=.tup [.str y,e]):x=y:=by simp only[D.tup.injEq,List.cons.injEq,D.str.injEq]at h;exact h.1
theorem vV{t b X Y:Int}(S:Scl t b X Y){w o:Wl}(hw:Bw 30 w)(ho:Bw 30 o):mtD t b X Y w o=.non\/(∃v,mtD t b X Y w o=.tup [.str "spot",spq v]/\BS v)\/∃d,mtD t b X Y w o=.tup [.str "stretch",d]:=by
 have e0:mtD t b X Y w o=AB t b X Y (tlD w o):=by unfold mtD tlD;rw[nQ S.t0 S.b0]
 rcases jV hw ho with e|⟨x,y,m,e,bx,by',bm,hm⟩|⟨x,y,u,u',e,bx,by',bu,bu'⟩
 ·exact .inl (by rw[e0,e];rfl)
 ·exact .inr (.inl ⟨(Ma.ut t b X m x,Ma.ut t b Y m y),by rw[e0,e];rfl,eR S (.inl rfl) bm hm bx,eR S (.inr rfl) bm hm by'⟩)
 ·exact .inr (.inr ⟨_,by rw[e0,e];rfl⟩)
structure CalV(P:EF)(w:EZ)(K:E1)(mg:Str->Option E2)(base:Heap)(k:Nat)(g:Addr)(sp:SpD)(Mc:MH->Prop):Prop where
 ex:∃Pg:Heap->Prop,(∀(M:Model) h,Pg h->∃k,(k=Keeper.frame\/k=Keeper.machine\/k=Keeper.boundFrame)/\HB M h (keeperOf (.ref g)) k)/\
  ∀(A:EX) (outer:List Env) (s:E3) (H:Hp) (M:MH),Room k A->Env0 P w K mg base A outer s H->Abs K H M->Mc M->Pg s.heap/\
   ∀(us:List E2) (vs:List V) (Q:VK),Vals vs us->fZ K sp vs H Q E0->Hc (ED P w) A (.call (.ref g) ⟨us,[]⟩) (CR CX0 outer P w H s Q E0) s
abbrev jF(scope:Gz)(L:Addr)(cl:List (Str×Addr))(qual:Str)(g:Addr)(cd:E2):Env:=newEnv scope L EY cl (qual++".<locals>.") (some g) cd none builtinsNs
def oS(P:EF)(w:EZ)(K:E1)(mg:Str->Option E2)(base:Heap)(N:List Str)(qual:Str)(scope:Gz)(cl:List (Str×Addr))(g:Addr)(cd:E2)(A:EX)(outer:List Env)(s:E3)(H:Hp):Cx where
 prog:=P
 w:=w
 K:=K
 mg:=mg
 base:=base
 A:=A.deeper (jF scope s.heap.objs.size cl qual g cd)
 N:=N
 s₀:=s
 H₀:=H
 env:=jF scope s.heap.objs.size cl qual g cd
 outer:=outer
 stack:=jF scope s.heap.objs.size cl qual g cd::outer
 ex:=[]
 calm:=true
 fn:=fun _=>false
 pn:=[]
 xe:=fun _ _=>False
structure LamScope(x y:Str)(sc:Gz):Prop where
 kind:sc.kind=.function
 co:sc.isCoroutine=false
 gen:sc.isGenerator=false
 ne:x≠y
 hx:sc.names.lookup x=some .local
 hy:sc.names.lookup y=some .free
 only:∀z∈sc.names,z.2=.free->z.1=y
 nocell:∀z∈sc.names,z.2≠.cell
section
variable{P:EF}{w:EZ}{K:E1}{mg:Str->Option E2}{base:Heap}{qual:Str}{scope:Gz}{g c:Addr}{cd:E2}{A:EX}{outer:List Env}{s:E3}{H:Hp}{x y:Str}
theorem yQ{h':Heap}{tk:Nat}{oc:Obj}{u1 u2:E2}{v1 v2:V}(S:LamScope x y scope)(hd:A.handled=none)(e0:Env0 P w K mg base A outer s H)(hc:base.get? c=some oc)(hcd:oc.data=.cell (some u2))(r1:RelV v1 u1)(r2:RelV v2 u2)
 (hns:h'.Ns s.heap.objs.size fun z=>[(x,u1)].reverse.lookup z) (hk:∀b o,s.heap.get? b=some o->h'.get? b=some o) :
 Inv (oS P w K mg base [x,y] qual scope [(y,c)] g cd A outer s H) [] [some v1,some v2] H { s with heap:=h',toks:=tk }:=by
 have noA:∀b:Addr,b∉(oS P w K mg base [x,y] qual scope [(y,c)] g cd A outer s H).ex:=fun b z=>absurd (show b∈([]:List Addr)from z) (by simp)
 have one:∀{z:Str} {d:Addr},([(y,c)]:List (Str×Addr)).lookup z=some d->z=y/\d=c:=fun{z d} e=>by
  have:=F2 e
  simpa using this
 have cel:h'.IsCell c (some u2):=⟨oc,hk _ _ (e0.bs c oc hc).1,hcd⟩
 refine⟨⟨e0.mod,S.kind,rfl,rfl,E9 _,fun a b d h1 h2=>?_,fun z hz=>?_,fun z d h _=>Bool.noConfusion h,fun _=>hd,Around.frames_deeper e0.frames,.inr ⟨rfl,rfl⟩,fun b z=>absurd z (noA b),e0.bs,e0.bsz,fun b _ _=>noA b,fun b z=>absurd z (noA b),e0.eL,e0.frf⟩,
  rfl,e0.bare,Un.kept hk,⟨_,hns,fun i z v h1 h2 h3=>?_⟩,fun z d h=>?_,e0.hok.fresh (E9 _),fun z d h=>?_,fun p hp=>absurd (show p∈([]:List (Addr×Obj))from hp) (by simp),e0.hok.kept hk,rfl⟩
 ·rw[(one h1).1,(one h2).1]
 ·have hz:scope.names.lookup z=some .cell\/scope.names.lookup z=some .free:=hz
  rcases hz with hz|hz
  ·exact absurd rfl (S.nocell _ (F2 hz))
  ·have:=S.only _ (F2 hz) rfl
   subst this
   exact⟨c,by show([(z,c)]:List (Str×Addr)).lookup z=some c;simp⟩
 ·match i,h1,h2 with
  |0,h1,h2=>
   cases (show some x=some z from h1)
   cases (show some (some v1)=some (some v)from h2)
   exact⟨u1,r1,.inl ⟨S.hx,by show([(x,u1)]:List (Str×E2)).reverse.lookup x=some u1;simp⟩⟩
  |1,h1,h2=>
   cases (show some y=some z from h1)
   cases (show some (some v2)=some (some v)from h2)
   exact⟨u2,r2,.inr ⟨.inr S.hy,c,by show([(y,c)]:List (Str×Addr)).lookup y=some c;simp,cel⟩⟩
  |n+2,h1,_=>exact absurd (show([]:List Str)[n]?=some z from h1) (by simp)
 ·obtain⟨rfl,rfl⟩:=one h
  exact⟨_,cel⟩
 ·obtain⟨rfl,rfl⟩:=one h
  exact(e0.bs _ _ hc).2
theorem xT{k:Nat}{name:Str}{params:Arguments}{body:Expr}{pm ctv:E2}{c':Addr}{oc:Obj}{u1 u2:E2}{v1 v2:V}{t:TE}{Q:VK}(S:LamScope x y scope)(hr:Room (k+1) A)(e0:Env0 P w K mg base A outer s H)(hc:base.get? c=some oc)(hcd:oc.data=.cell (some u2))(r1:RelV v1 u1)(r2:RelV v2 u2)
 (hg:s.heap.get? g=some (Gf name qual params body scope [(y,c)] pm c' ctv)) (hrec:s.heap.CodeRec (.ref c') qual)
 (hb:bindArgs (PySem.W.kla_fn name qual params body scope [(y,c)] pm (.ref c') ctv) ⟨[u1],[]⟩=pure [(x,u1)])
 (ht:PE (oS P w K mg base [x,y] qual scope [(y,c)] g (.ref c') A outer s H) body t) (hq:t [some v1,some v2] H Q) :
 Hc (ED P w) A (.call (.ref g) ⟨[u1],[]⟩) (CR CX0 outer P w H s Q E0) s:=by
 refine PySem.W.kla_callFunE hr.depth hg rfl S.co S.gen rfl hrec ?_
 rw[hb]
 have lim:s.heap.NoLimit:=e0.mod.nolimit.keeps fun b o e=>(e0.bs b o e).1
 refine E5 (wpAny_newFunctionEnv S.nocell (fun z hz=>?_) (fun h' hns hsb=>?_) S.kind)
 ·have:z=(x,u1):=by simpa using hz
  rw[this];exact S.hx
 have hk:∀b o,s.heap.get? b=some o->h'.get? b=some o:=fun b o e=>hsb.extBut b o (EV (E7 e)) (E4 _ e)
 refine⟨lim.keeps hk,PySem.W.kla_codeExpr ?_⟩
 have I:=yQ (qual:=qual) (g:=g) (cd:=.ref c') (tk:=s.toks+[(x,u1)].length) S hr.hd e0 hc hcd r1 r2 hns hk
 refine ES (ht [] _ _ _ _ I hq) (fun u s' z=>?_) (fun e s' z=>FC z)
 obtain⟨v,H',J,rv,q⟩:=z
 exact⟨v,H',J.os,J.bare,J.base,J.hok,rv,q⟩
end
def cg(a:Addr)(o:Obj):Heap->Prop:=fun h=>h.get? a=some o
def oN(a:Addr)(q:Str):Heap->Prop:=fun h=>h.CodeRec (.ref a) q
def Ds(o:Obj)(d:D)(v:V):MO:=.gen fun K H a=>H a=some (.ext (cg a o))/\Rep K H d v
def AU(q:Str):MO:=.gen fun _ H a=>H a=some (.ext (oN a q))
def uV(ps:Array E2):MO:=.gen fun _ H a=>H a=some (.tbl ps)
section
variable{P:EF}{w:EZ}{K:E1}{mg:Str->Option E2}{base:Heap}{qual:Str}{scope:Gz}{g c:Addr}{x y:Str}
theorem yP{k:Nat}{name:Str}{params:Arguments}{body:Expr}{pm ctv:E2}{c':Addr}{oc:Obj}{u2:E2}{v2:V}{d2:D}{sp:SpD}(S:LamScope x y scope)(hc:base.get? c=some oc)(hcd:oc.data=.cell (some u2))(r2:RelV v2 u2)
 (hb:∀u1,bindArgs (PySem.W.kla_fn name qual params body scope [(y,c)] pm (.ref c') ctv) ⟨[u1],[]⟩=pure [(x,u1)]) (len:∀ds M Q,sp ds M Q->ds.length=1)
 (ht:∀(A:EX) (outer:List Env) (s:E3) (H:Hp),Room k (A.deeper (jF scope s.heap.objs.size [(y,c)] qual g (.ref c')))->∃t,DE (oS P w K mg base [x,y] qual scope [(y,c)] g (.ref c') A outer s H) body t/\∀d1 M Q,sp [d1] M Q->t [some d1,some d2] M Q) :
 CalV P w K mg base (k+1) g sp (fun M=>M g=some (Ds (Gf name qual params body scope [(y,c)] pm c' ctv) d2 v2)/\M c'=some (AU qual)):=by
 refine⟨cg g (Gf name qual params body scope [(y,c)] pm c' ctv),fun M h z=>⟨.frame,.inl rfl,(PySem.W.Looks.ld (part:=none) z).andThen .now⟩,fun A outer s H M hr e0 hM hc0=>?_⟩
 obtain⟨hg,hr0⟩:=hc0
 obtain⟨⟨hg1,rd⟩,_⟩:=hM _ _ hg
 obtain⟨hr1,_⟩:=hM _ _ hr0
 obtain⟨f1,_⟩:=e0.hok _ _ hg1
 obtain⟨f2,_⟩:=e0.hok _ _ hr1
 refine⟨f1,fun us vs Q r z=>?_⟩
 obtain⟨ds,M1,R,rs,a1,q,fin⟩:=z
 obtain⟨d1,rfl⟩:∃d1,ds=[d1]:=by
  have:=len _ _ _ q
  match ds,this with
  |[d1],_=>exact⟨d1,rfl⟩
 obtain⟨v1,rfl,rv1⟩:=bF rs
 obtain⟨u1,rfl,ru1⟩:=vals1 r
 obtain⟨t,h1,h2⟩:=ht A outer s H (hr.deeper _)
 refine xT (t:=lift K t) (v2:=v2) S hr e0 hc hcd ru1 r2 f1 f2 (hb u1) h1 ⟨[some d1,some d2],M1,R,⟨rfl,fun i d e=>?_⟩,a1,h2 d1 M1 R q,fin⟩
 match i,e with
 |0,e=>cases (show some (some d1)=some (some d)from e);exact⟨v1,rfl,rv1⟩
 |1,e=>cases (show some (some d2)=some (some d)from e);exact⟨v2,rfl,rd⟩
 |n+2,e=>exact absurd (show([]:List (Option D))[n]?=some (some d)from e) (by simp)
end
def nN(b:Heap)(c:Addr):Hp:=fun a=>if(b.get? a).isSome=true\/a=c then none else some (.tbl #[])
theorem vC{b:Heap}{c a:Addr}(h:(b.get? a).isSome=true\/a=c):nN b c a=none:=if_pos h
theorem wz{b:Heap}{c a:Addr}(h:nN b c a=none):(b.get? a).isSome=true\/a=c:=by
 by_cases z:(b.get? a).isSome=true\/a=c
 ·exact z
 ·unfold nN at h;rw[if_neg z]at h;cases h
theorem lF{h base base':Heap}:∀{l:List Env},h.FunFrames base l->(∀b∈frs l,base'.get? b=none)->h.FunFrames base' l
 |[],_,_=>trivial
 |env::r,z,n=>by
  obtain⟨hk,⟨L,o,hf,hn,ho,hd⟩,hr⟩:=z
  have e:frs (env::r)=L::frs r:=by unfold frs;rw[G4,hf]
  rw[e]at n
  exact⟨hk,⟨L,o,hf,n L Fb,ho,hd⟩,lF hr fun b hb=>n b (EU _ hb)⟩
section
variable{X:Cx}{pins:List (Addr×Obj)}{σ:L2.St}{H:Hp}{s:E3}{y:Str}{c:Addr}
theorem xp(I:Inv X pins σ H s)(hfn:X.fn y=true)(hc:X.env.cells.lookup y=some c):Env0 X.prog X.w X.K X.mg (g9 s.heap (nN X.base c)) X.A X.stack s H:=by
 have e0:=I.y6;have kb:∀b o,X.base.get? b=some o->(g9 s.heap (nN X.base c)).get? b=some o:=fun b o e=>gL (I.bk b o e) (vC (.inl (by rw[e];rfl)))
 have nf:∀b∈frs X.stack,(g9 s.heap (nN X.base c)).get? b=none:=fun b hb=>by
  cases e:(g9 s.heap (nN X.base c)).get? b with
  |none=>rfl
  |some o=>
   exfalso
   obtain⟨e1,e2⟩:=mW e
   rcases wz e2 with z|z
   ·have:=(e0.eL.mem (show b∈X.stack.filterMap (·.frame)from hb)).1;rw[this]at z;cases z
   ·subst z;rcases Fc.mp (I.lM b hb)with q|q
    ·exact I.cne y b hc q
    ·obtain⟨_,o',ho',_⟩:=I.ok.eL.mem (show b∈X.outer.filterMap (·.frame)from q);exact absurd (EK (E7 ho') (I.ok.cab y b hfn hc)) (G0 _)
 obtain⟨mb,h1,h2⟩:=e0.mod.blt;refine⟨e0.frames,⟨e0.mod.kin.keeps kb,e0.mod.glob.keeps kb,⟨mb,h1.keeps kb,h2⟩,e0.mod.nolimit.keeps kb⟩,fun b o e=>?_,Nat.le_of_eq (lr _ _),lF e0.eL nf,e0.frf,e0.hok,e0.bare⟩;obtain⟨e1,e2⟩:=mW e;refine⟨e1,?_⟩;rcases wz e2 with z|z
 ·obtain⟨o',ho'⟩:=Option.isSome_iff_exists.mp z;exact(I.bs b o' ho').2
 ·subst z;exact I.freeC y b hc
end
structure Mk(K:E1)(mg:Str->Option E2)(c0 Pt:Addr):Prop where
 hd:PySem.W.codeHdIn K c0 Pt=true
 bm:∃bm o,mg "__builtins__"=some (.ref bm)/\bm≠builtinsNs/\bm≠EY/\K.lookup bm=some o/\o.cls=.type "module"/\o.dict=some builtinsNs/\o.data=.plain
def yW(pos:Pos)(c':Addr):Array E2:=#[Gg pos.line,Gg pos.col,.ref c']
def cT(q:Str)(Pt:Addr)(pos:Pos)(M:MH):Prop:=M Pt=some (uV #[])\/∃c',M Pt=some (uV (yW pos c'))/\M c'=some (AU q)/\c'≠Pt
def cD(Pt:Addr)(M M':MH):Prop:=∀a o,a≠Pt->M a=some o->M' a=some o
section
variable{X:Cx}{pins:List (Addr×Obj)}{σ:L2.St}{H:Hp}{s:E3}{c0 Pt:Addr}
theorem vf(I:Inv X pins σ H s)(m:Mk X.K X.mg c0 Pt)(hP:H Pt≠none):s.heap.BuiltinsAt X.mg Pt:=by obtain⟨bm,o,h1,h2,h3,h4,h5⟩:=m.bm;refine⟨bm,o,h1,h2,h3,fun z=>?_,I.kIn _ _ h4,h5⟩;subst z;exact hP (I.bs _ _ (I.mod.kin _ _ h4)).2
theorem C5(I:Inv X pins σ H s)(hP:H Pt≠none):EY≠Pt:=fun z=>by obtain⟨o,es,ep,e,_⟩:=I.mod.glob;rw[z]at e;exact hP (I.bs _ _ e).2
theorem gP{P:EF}{w:EZ}{H':Hp}{h:Heap}{a:Addr}{o:Obj}(e:h.get? a=some o):bB P w H' h a (.ext (cg a o)):=⟨e,⟨o,e⟩,fun h1 h2 z k=>k o z⟩
theorem BP{P:EF}{w:EZ}{H':Hp}{h:Heap}{a:Addr}{q:Str}(e:h.CodeRec (.ref a) q):bB P w H' h a (.ext (oN a q)):=by
 refine⟨e,?_,fun h1 h2 z k=>?_⟩
 ·obtain⟨c,oc,vs,tq,hc,ho,_⟩:=e;cases hc;exact⟨oc,ho⟩
 ·obtain⟨c,oc,vs,tq,hc,ho,r⟩:=z;cases hc;exact⟨a,oc,vs,tq,rfl,k oc ho,r⟩
theorem yd{h':Heap}{tk:Nat}{o:Obj}(hfr:o.isFreed=false)(I:Inv X pins σ H s)(k:∀b u,s.heap.get? b=some u->h'.get? b=some u)(hsz:s.heap.objs.size<=h'.objs.size):H h'.objs.size=none/\Inv X pins σ (upd H h'.objs.size (.ext (cg h'.objs.size o))) { s with heap:=h'.push o,toks:=tk }:=by have hn:H h'.objs.size=none:=I.hok.fresh hsz;exact⟨hn,I.laid (t':=tk) (h':=h'.push o) (fun b u e=>E4 _ (k b u e)) hsz (gP (EC _ hfr))⟩
theorem vc{h':Heap}{tk:Nat}{o:Obj}{q:Str}{c':Addr}{ps more:Array E2}(hfr:o.isFreed=false)(I:Inv X pins σ H s)(hP:H Pt=some (.tbl ps))(hx:Heap.ExtBut Pt s.heap h')(h1:s.heap.objs.size<=c')(h2:c'<h'.objs.size)(hr:h'.CodeRec (.ref c') q)
 (ht:h'.get? Pt=some (PySem.W.tabObj (ps++more))):H c'=none/\H h'.objs.size=none/\Inv X pins σ (upd (upd (upd H Pt (.tbl (ps++more))) c' (.ext (oN c' q))) h'.objs.size (.ext (cg h'.objs.size o))) { s with heap:=h'.push o,toks:=tk }:=by
 have hPs:Pt<s.heap.objs.size:=(I.hok _ _ hP).lt
 have hc:H c'=none:=I.hok.fresh h1
 have hg:H h'.objs.size=none:=I.hok.fresh (Fh h1 (Hh h2))
 have n1:c'≠Pt:=fun z=>by rw[z,hP]at hc;cases hc
 have n2:h'.objs.size≠Pt:=fun z=>by rw[z,hP]at hg;cases hg
 have n3:c'≠h'.objs.size:=EV h2
 have old:∀{b:Addr} {u:HO},H b=some u->b≠Pt->upd (upd (upd H Pt (.tbl (ps++more))) c' (.ext (oN c' q))) h'.objs.size (.ext (cg h'.objs.size o)) b=some u:=fun{b u} e n=>by
  rw[az (fun z=>by rw[z,hg]at e;cases e),az (fun z=>by rw[z,hc]at e;cases e),az n];exact e
 have oldN:∀{b:Addr},H b=none->b<s.heap.objs.size->upd (upd (upd H Pt (.tbl (ps++more))) c' (.ext (oN c' q))) h'.objs.size (.ext (cg h'.objs.size o)) b=none:=fun{b} e l=>by
  have y1:b≠h'.objs.size:=fun z=>by rw[z]at l;exact absurd l (Nat.not_lt.mpr (Fh h1 (Hh h2)))
  have y2:b≠c':=fun z=>by rw[z]at l;exact absurd l (Nat.not_lt.mpr h1)
  have y3:b≠Pt:=fun z=>by rw[z,hP]at e;cases e
  rw[az y1,az y2,az y3];exact e
 refine⟨hc,hg,I.un (t':=tk) ⟨fun b u e n _ _=>?_,fun b u e n _ _=>⟨u.slots,?_⟩,fun b u e n _=>oldN n (E7 e),fun b u e _=>?_,fun b xs e=>old e (fun z=>by rw[z,hP]at e;cases e),fun b u xs e=>old e (fun z=>by rw[z,hP]at e;cases e),fun b qs e=>?_⟩ fun b u e=>?_⟩
 ·exact E4 _ (hx b u (fun z=>by rw[z,hP]at n;cases n) e)
 ·exact E4 _ (hx b u (fun z=>by rw[z,hP]at n;cases n) e)
 ·by_cases z:b=Pt
  ·subst z;exact⟨_,E4 _ ht⟩
  ·exact⟨u,E4 _ (hx b u z e)⟩
 ·by_cases z:b=Pt
  ·subst z
   rw[hP]at e;cases e
   exact⟨more,by rw[az n2.symm,az n1.symm,ay]⟩
  ·exact⟨#[],by rw[old e z];simp⟩
 ·by_cases z1:b=h'.objs.size
  ·subst z1
   rw[ay]at e;cases e
   exact gP (EC _ hfr)
  ·rw[az z1]at e
   by_cases z2:b=c'
   ·subst z2
    rw[ay]at e;cases e
    obtain⟨c,oc,vs,tq,hc',ho,r⟩:=hr
    cases hc'
    exact BP ⟨b,oc,vs,tq,rfl,E4 _ ho,r⟩
   ·rw[az z2]at e
    by_cases z3:b=Pt
    ·subst z3
     rw[ay]at e;cases e
     exact E4 _ ht
    ·rw[az z3]at e
     refine(I.hok b u e).dq (fun d v hd g=>E4 _ (hx d v ?_ g)) (fun d g=>old g (fun z=>by rw[z,hP]at g;cases g)) fun d xs g=>old g (fun z=>by rw[z,hP]at g;cases g)
     rcases hd with hd|hd
     ·rw[hd];exact z3
     ·intro z;rw[z,hP]at hd;cases hd
end
theorem Abs.p9{K:E1}{H:Hp}{M:MH}{a:Addr}{o:HO}{A:E1->Hp->Addr->Prop}(h:Abs K H M)(g:Grow K H (upd H a o))(z:A K (upd H a o) a)(st:∀H',Grow K (upd H a o) H'->H' a=some o->A K H' a):Abs K (upd H a o) (ax M a (.gen A)):=fun b u e=>by
 by_cases ne:b=a
 ·subst ne;rw[ai]at e;cases e;exact⟨z,by rw[ay];simp,fun H' g' e'=>st H' g' (by rw[e',ay])⟩
 ·rw[ak ne]at e;exact(h b u e).dq g (az ne)
theorem u0{names:List (Str×GG)}{env:Env}{y:Str}{c:Addr}(hf:(names.filter fun z=>z.2==.free)=[(y,.free)])(hc:env.cells.lookup y=some c):dS names env=[(y,c)]:=by unfold dS;rw[hf];simp[hc]
section
variable{X:Cx}{x y lx:Str}{j k kk:Nat}{params:Arguments}{body:Expr}{lscope:Gz}{lpos p pos:Pos}{e1:Expr}{te:TD}{c0 Pt:Addr}{spg:D->SpD}{spw:Addr->D->(MH->Prop)->SpD}
theorem uR{pins:List (Addr×Obj)}{σ:L2.St}{H:Hp}{s:E3}{M:MH}{c:Addr}{d2:D}{v2:V}{Q:E2->E3->Prop}(hcode:X.env.code=.ref c0)(m:Mk X.K X.mg c0 Pt)(hfil:(lscope.names.filter fun z=>z.2==.free)=[(y,.free)])(hall:∀z∈lscope.names,z.2=.free->z.1=y)
 (hdef:defaultsOf params X.env=([],[])) (I:Inv X pins σ H s) (hM:Abs X.K H M) (hc:X.env.cells.lookup y=some c) (ht:cT (X.env.qual++"<lambda>") Pt lpos M) (rd:Rep X.K H d2 v2)
 (h:∀g c' ctv pm H' M' s',Inv X pins σ H' s'->Grow X.K H H'->Abs X.K H' M'->M' g=some (Ds (Gf "<lambda>" (X.env.qual++"<lambda>") params body lscope [(y,c)] pm c' ctv) d2 v2)->M' c'=some (AU (X.env.qual++"<lambda>"))->
  cT (X.env.qual++"<lambda>") Pt lpos M'->cD Pt M M'->Q (.ref g) s') :
 E8 (ED X.prog X.w) X.A (eval (.Lambda params body lscope lpos) X.env) Q X.xe s:=by
 refine PySem.W.kla_eval hdef ?_
 have hcl:closureFor lscope X.env=pure [(y,c)]:=by
  rw[jC (fun z hz hk=>⟨c,by rw[hall z hz hk];exact hc⟩),u0 hfil hc]
 have hgs:s.heap.Ns EY X.mg:=I.mod.glob.keeps I.bk
 have C:=PySem.W.codeHd_of_K I.kIn m.hd
 rcases ht with ht|⟨c1,ht,hr1,nc1⟩
 ·obtain⟨hP,_⟩:=hM _ _ ht
  have hP':s.heap.get? Pt=some (PySem.W.tabObj #[]):=I.hok _ _ hP
  have hPn:H Pt≠none:=by rw[hP];simp
  refine PySem.W.kla_makeFunction (mg:=X.mg) hcl I.ok.glob hgs hcode C hP' trivial rfl (C5 I hPn) (vf I m hPn) fun c' ctv h' tk hx h1 h2 hrec htb=>?_
  obtain⟨n1,n2,I2⟩:=vc (o:=Gf "<lambda>" (X.env.qual++"<lambda>") params body lscope [(y,c)] ((X.mg "__name__").getD .none) c' ctv) (tk:=tk) rfl I hP hx h1 h2 hrec htb
  have nc:c'≠Pt:=fun z=>by rw[z,hP]at n1;cases n1
  have ng:h'.objs.size≠Pt:=fun z=>by rw[z,hP]at n2;cases n2
  have ncg:h'.objs.size≠c':=(EV h2).symm
  have g1:Grow X.K H (upd H Pt (.tbl (#[]++#[Gg lpos.line,Gg lpos.col,.ref c']))):=.put (fun xs e=>by rw[hP]at e;cases e) (fun u xs e=>by rw[hP]at e;cases e)
  have g2:=Grow.new (K:=X.K) (o:=.ext (oN c' (X.env.qual++"<lambda>"))) (show(upd H Pt (.tbl (#[]++#[Gg lpos.line,Gg lpos.col,.ref c']))) c'=none by rw[az nc];exact n1)
  have g3:=Grow.new (K:=X.K) (o:=.ext (cg h'.objs.size (Gf "<lambda>" (X.env.qual++"<lambda>") params body lscope [(y,c)] ((X.mg "__name__").getD .none) c' ctv))) (show(upd (upd H Pt (.tbl (#[]++#[Gg lpos.line,Gg lpos.col,.ref c']))) c' (.ext (oN c' (X.env.qual++"<lambda>")))) h'.objs.size=none by rw[az ncg,az ng];exact n2)
  have gg:=(g1.trans g2).trans g3
  have a1:=hM.p9 (A:=fun _ H a=>H a=some (.tbl (yW lpos c'))) g1 ay (fun H' _ e=>e)
  have a2:=a1.p9 (A:=fun _ H a=>H a=some (.ext (oN a (X.env.qual++"<lambda>")))) g2 ay (fun H' _ e=>e)
  have a3:=a2.p9 (A:=fun K H a=>H a=some (.ext (cg a (Gf "<lambda>" (X.env.qual++"<lambda>") params body lscope [(y,c)] ((X.mg "__name__").getD .none) c' ctv)))/\Rep K H d2 v2) g3 ⟨ay,rd.mono gg⟩ (fun H' g' e=>⟨e,(rd.mono gg).mono g'⟩)
  have m1:=hM.fresh n1
  have m2:=hM.fresh n2
  refine h _ c' ctv _ _ _ _ I2 gg a3 ai (by rw[ak ncg.symm,ai];rfl) (.inr ⟨c',by rw[ak ng.symm,ak nc.symm,ai];rfl,by rw[ak ncg.symm,ai];rfl,nc⟩) fun a o na e=>?_
  rw[ak (fun z=>by rw[z,m2]at e;cases e),ak (fun z=>by rw[z,m1]at e;cases e),ak na];exact e
 ·obtain⟨hP,_⟩:=hM _ _ ht
  have hP':s.heap.get? Pt=some (PySem.W.tabObj (yW lpos c1)):=I.hok _ _ hP
  have hPn:H Pt≠none:=by rw[hP];simp
  refine PySem.W.kla_makeFunctionHit (mg:=X.mg) (cv:=.ref c1) hcl I.ok.glob hgs hcode C hP' trivial (by unfold yW Gg codeAmong;simp) (vf I m hPn) fun ctv h' tk hk hsz=>?_
  obtain⟨n2,I2⟩:=yd (o:=Gf "<lambda>" (X.env.qual++"<lambda>") params body lscope [(y,c)] ((X.mg "__name__").getD .none) c1 ctv) (tk:=tk) rfl I hk hsz
  have g3:=Grow.new (K:=X.K) (o:=.ext (cg h'.objs.size (Gf "<lambda>" (X.env.qual++"<lambda>") params body lscope [(y,c)] ((X.mg "__name__").getD .none) c1 ctv))) n2
  have a3:=hM.p9 (A:=fun K H a=>H a=some (.ext (cg a (Gf "<lambda>" (X.env.qual++"<lambda>") params body lscope [(y,c)] ((X.mg "__name__").getD .none) c1 ctv)))/\Rep K H d2 v2) g3 ⟨ay,rd.mono g3⟩ (fun H' g' e=>⟨e,(rd.mono g3).mono g'⟩)
  have m2:=hM.fresh n2
  have k1:Pt≠h'.objs.size:=fun z=>by rw[<-z,ht]at m2;cases m2
  have k2:c1≠h'.objs.size:=fun z=>by rw[<-z,hr1]at m2;cases m2
  refine h _ c1 ctv _ _ _ _ I2 g3 a3 ai (by rw[ak k2];exact hr1) (.inr ⟨c1,by rw[ak k1];exact ht,by rw[ak k2];exact hr1,nc1⟩) fun a o na e=>?_
  rw[ak (fun z=>by rw[z,m2]at e;cases e)];exact e
end
def zA(Pt:Addr)(H:Hp):Prop:=∀b,b≠Pt->H b=none\/∃o xs,H b=some (.frz o (.lst xs))
theorem tV{P:EF}{w:EZ}{K:E1}{mg mb:Str->Option E2}{k:Nat}{fa a Pt c0:Addr}{fd:Hl}{x:Str}{sp:Sp}{s₁:E3}{vs:List E2}{ns:List Int}
 (KX:K.In s₁.heap) (hns:s₁.heap.Ns EY mg) (hb:s₁.heap.Ns builtinsNs mb) (hbb:∀x:Str,x≠"__name__"->mb x=Fp x) (hlim:s₁.heap.NoLimit) (hg:s₁.gens=#[])
 (ha:s₁.heap.get? a=some { cls:=.type "list",data:=.seq vs.toArray }) (hi:Gb vs ns) (hl:ns.length<=ER) (hr:Room k callerA) (hT:s₁.heap.get? Pt=some (PySem.W.tabObj #[])) (hKP:K.lookup Pt=none) (hC:PySem.W.codeHdIn K c0 Pt=true)
 (F:∀base:Heap,FnOk P w K mg base CX0 k fa fd [x] sp) (hbind:∀(s:E3) (u:E2),BindsTo s fd ⟨[u],[]⟩ [(x,u)])
 (hsp:∀H:Hp,zA Pt H->H Pt=some (.tbl #[])->SqL K H a (ns.map V.int)->sp [.ref a] H (fun v _=>v=.bl true) fun _ _ _=>False) :
 Hc (ED P w) callerA (.call (.ref fa) ⟨[.ref a],[]⟩) (fun r s'=>r=.ok (.ret (.bool true))/\OldK s₁.heap s'.heap/\s'.os=s₁.os/\AllBare s'.gens) s₁:=by
 have rv:=kQ hi
 have lenV:=hi.length
 have naP:a≠Pt:=fun z=>by
  rw[z,hT]at ha
  cases ha
 have core:∀H:Hp,zA Pt H->H Pt=some (.tbl #[])->SqL K H a (ns.map V.int)->HOk P w H s₁.heap->(∀b,H b≠none->b=a\/b=Pt)->(H a≠none->K.lookup a=none)->
  Hc (ED P w) callerA (.call (.ref fa) ⟨[.ref a],[]⟩) (fun r s'=>r=.ok (.ret (.bool true))/\OldK s₁.heap s'.heap/\s'.os=s₁.os/\AllBare s'.gens) s₁:=by
  intro H hO hP hS hok hA hK
  have noA:∀{b:Addr} {o:Obj} {es:Array FA} {ep:Nat},s₁.heap.get? b=some o->o.data=.dict es ep->H b=none:=fun{b o es ep} e d=>by
   cases q:H b with
   |none=>rfl
   |some u=>
    rcases hA b (by rw[q];simp)with z|z
    ·rw[z,ha]at e;cases e
     have d':Data.seq vs.toArray _=Data.dict es ep:=d
     cases d'
    ·rw[z,hT]at e;cases e
     have d':Data.fields #[]=Data.dict es ep:=d
     cases d'
  have nsK:∀{b:Addr} {m:Str->Option E2},s₁.heap.Ns b m->(g9 s₁.heap H).Ns b m:=fun{b m} z=>by
   obtain⟨o,es,ep,e,d,r⟩:=z
   exact⟨o,es,ep,gL e (noA e d),d,r⟩
  have hKb:K.In (g9 s₁.heap H):=fun b o e=>gL (KX b o e) (by
   cases q:H b with
   |none=>rfl
   |some u=>
    rcases hA b (by rw[q];simp)with z|z
    ·subst z
     rw[hK (by rw[q];simp)]at e;cases e
    ·rw[z,hKP]at e;cases e)
  obtain⟨mc,l1,l2⟩:=hlim
  have hM:Mod K mg (g9 s₁.heap H):=⟨hKb,nsK hns,⟨mb,nsK hb,hbb⟩,⟨mc,nsK l1,l2⟩⟩
  have e0:Env0 P w K mg (g9 s₁.heap H) callerA [] s₁ H:=⟨rfl,hM,fun b o e=>mW e,Nat.le_of_eq (lr _ _),trivial,fun b hb=>absurd (show b∈([]:List Addr)from hb) (by simp),hok,.of_eq hg⟩
  refine codeAny_mono ((F _).run callerA [] s₁ H ⟨[.ref a],[]⟩ [.ref a] [.ref a] _ _ hr e0 (hbind s₁ (.ref a)) (.cons rfl .nil) (hsp H hO hP hS)) fun r s' h=>?_
  cases r with
  |error e=>exact FC h
  |ok fl=>
   cases fl with
   |next=>exact FC h
   |brk=>exact FC h
   |cont=>exact FC h
   |ret u=>
    obtain⟨v,H',os,bare,un,hok',r',q⟩:=h
    have q':v=.bl true:=q
    subst q'
    obtain rfl:u=FY true:=r'
    obtain⟨more,hP'⟩:=un.tbls _ _ hP
    have hT':s'.heap.get? Pt=some (PySem.W.tabObj (#[]++more)):=hok' _ _ hP'
    have keep:∀b o,b≠Pt->s₁.heap.get? b=some o->s'.heap.get? b=some o:=fun b o nb e=>by
     cases q:H b with
     |none=>exact un.keep b o e q (by intro z;exact absurd (show b∈([]:List Addr)from z) (by simp)) (by simp)
     |some u=>
      rcases hO b nb with z|⟨ob,xs,z⟩
      ·rw[q]at z;cases z
      ·have z2:=un.frzs b ob _ z
       obtain⟨e1,_⟩:=hok b _ z
       obtain⟨e2,_⟩:=hok' b _ z2
       rw[e]at e1;cases e1
       exact e2
    have C:=PySem.W.codeHd_of_K KX hC
    refine⟨rfl,⟨fun b o e=>?_,fun b o e=>?_⟩,os,bare⟩
    ·by_cases nb:b=Pt
     ·subst nb
      rw[hT]at e;cases e
      exact .inr (.inl ⟨(C.tab hT).isCodeTable,rfl,#[],more,rfl,hT'⟩)
     ·exact .inl (keep b o nb e)
    ·by_cases nb:b=Pt
     ·subst nb;exact⟨_,hT'⟩
     ·exact⟨o,keep b o nb e⟩
 have tab:∀{H:Hp} {b:Addr} {u:HO},b=Pt->H b=some (.tbl #[])->H b=some u->bB P w H s₁.heap b u:=fun{H b u} z e1 e2=>by
  rw[e1]at e2;cases e2
  rw[z];exact hT
 cases hk:K.lookup a with
 |some o=>
  have e:=KX a o hk
  rw[ha]at e
  cases e
  refine core (fun b=>if b=Pt then some (.tbl #[])else none) (fun b nb=>.inl (if_neg nb)) (if_pos rfl) (.inr ⟨_,vs.toArray,_,hk,rfl,rfl,rfl,by rw[EI,lenV];exact hl,by simpa using rv⟩) (fun b u z=>?_) (fun b z=>?_) fun z=>absurd (if_neg naP) z
  ·by_cases hb:b=Pt
   ·exact tab hb (if_pos hb) z
   ·have z':=(if_neg hb).symm.trans z
    cases z'
  ·by_cases hb:b=Pt
   ·exact .inr hb
   ·exact absurd (if_neg hb) z
 |none=>
  refine core (fun b=>if b=Pt then some (.tbl #[])else if b=a then some (.frz { cls:=.type "list",data:=.seq vs.toArray } (.lst (ns.map V.int)))else none) (fun b nb=>?_) (if_pos rfl) (.inl (.inr ⟨{ cls:=.type "list",data:=.seq vs.toArray },by show(if a=Pt then _ else _)=_;rw[if_neg naP,if_pos rfl]⟩)) (fun b u z=>?_) (fun b z=>?_) fun _=>hk
  ·by_cases hb:b=a
   ·exact .inr ⟨_,_,by show(if b=Pt then _ else _)=_;rw[if_neg nb,if_pos hb]⟩
   ·exact .inl (by show(if b=Pt then _ else _)=_;rw[if_neg nb,if_neg hb])
  ·by_cases hb:b=Pt
   ·exact tab hb (if_pos hb) z
   ·have z1:=(if_neg hb).symm.trans z
    by_cases hb2:b=a
    ·have z':=(if_pos hb2).symm.trans z1
     cases z'
     subst hb2
     exact⟨ha,by rw[E6];exact hl,vs,_,rv,ha⟩
    ·have z':=(if_neg hb2).symm.trans z1
     cases z'
  ·by_cases hb:b=Pt
   ·exact .inr hb
   ·by_cases hb2:b=a
    ·exact .inl hb2
    ·exact absurd (by show(if b=Pt then _ else _)=_;rw[if_neg hb,if_neg hb2]) z
theorem t7{l:PySem.W.OpenLaw}{k:Nat}{q:EF}{loose:List Str}{XP:(Str->Option E2)->Heap->Prop}{YP:EZ->Heap->Prop}{d:DefRec}{K:EG->E1}{sp:SpD}{x:Str}{Pt c0:Addr}
 (hn:l.most=some 63) (hdf:d.params.defaults=[]) (hr:Room k callerA)
 (hY:∀(w:EZ) (h:Heap),YP w h->(K w.params).In h) (hT:∀(w:EZ) (h:Heap),YP w h->h.get? Pt=some (PySem.W.tabObj #[])) (hKP:∀w:EZ,(K w.params).lookup Pt=none) (hC:∀w:EZ,PySem.W.codeHdIn (K w.params) c0 Pt=true)
 (F:∀(w:EZ) (mg:Str->Option E2) (fa:Addr) (h:Heap),(K w.params).In h->h.Ns EY mg->mg d.name=some (.ref fa)->
  ∃fd:Hl,(∀(s:E3) (u:E2),BindsTo s fd ⟨[u],[]⟩ [(x,u)])/\
   ∀base:Heap,FnOk l.prog w (K w.params) mg base CX0 k fa fd [x] (fZ (K w.params) sp))
 (hsp:∀(ns:List Int) (M:MH),ns.length<=63->M Pt=some (uV #[])->sp [.rol (ns.map D.int)] M (fun d _=>d=.bl true)) :
 PySem.W.WalkO q loose XP YP l.row.toRowW d [] (fun f vs=>PySem.call f vs):=by
 refine Att.nR hn hdf fun w s₀ s₁ mg mb fa o pm cd doc a vs ns G Y ho hd hcd hmg hobj hints hlen hg=>?_
 have KX:=hY w _ Y
 obtain⟨fd,hb,hF⟩:=F w mg fa _ KX G.T.g hmg
 refine tV KX G.T.g G.T.b G.T.builtins G.T.nolimit hg hobj hints (Fh hlen (by decide)) hr (hT w _ Y) (hKP w) (hC w) hF hb fun H hO hP hS=>?_
 have hF:SqF (K w.params) H a (ns.map V.int):=by
  rcases hS with(z|z)|z
  ·exfalso
   by_cases na:a=Pt
   ·rw[na,hP]at z;cases z
   ·rcases hO a na with y|⟨o,xs,y⟩
    ·rw[z]at y;cases y
    ·rw[z]at y;cases y
  ·exact .inl z
  ·exact .inr z
 refine⟨[.rol (ns.map D.int)],fun b=>if b=Pt then some (uV #[])else none,_,.cons (by rw[Rep];exact⟨a,_,rfl,hF,gQ ns⟩) .nil,fun b u e=>?_,hsp ns _ hlen (if_pos rfl),fun d M' v H' g r a' e=>?_⟩
 ·by_cases hb:b=Pt
  ·have e':=(if_pos hb).symm.trans e
   cases e'
   rw[hb]
   exact⟨hP,by rw[hP];simp,fun H' _ e=>e.trans hP⟩
  ·have e':=(if_neg hb).symm.trans e
   cases e'
 ·subst e
  rw[Rep]at r
  exact r
def uc(K:E1)(mg:Str->Option E2)(x:Str)(st:Stmt)(c0:Addr):Prop:=
 ∃(f:Addr) (oc:E2) (od:Option Addr) (kV doc pm:E2) (an:Option Addr) (ct:E2) (osl:Array (Option E2)),K.lookup f=some ⟨oc,od,.func (FI x x (aX st) (aL st) (aq st) .none kV doc pm an (.ref c0) ct),osl⟩/\Hv K (.ref c0) x=true/\G7 K (.ref f)=true/\mg x=some (.ref f)
section
variable{P:EF}{w:EZ}{K:E1}{mg:Str->Option E2}{base:Heap}
theorem uc.mk{h:Heap}{x:Str}{st:Stmt}{f c0:Addr}{oc:E2}{od an:Option Addr}{osl:Array (Option E2)}{kV doc pm ct:E2}(X:K.In h)(G:h.Ns EY mg)(a:Fo K EY x=some (some (.ref f))) (l:K.lookup f=some ⟨oc,od,.func (FI x x (aX st) (aL st) (aq st) .none kV doc pm an (.ref c0) ct),osl⟩) (c:Hv K (.ref c0) x=true) (k:G7 K (.ref f)=true):uc K mg x st c0:=⟨f,oc,od,kV,doc,pm,an,ct,osl,l,c,k,PySem.W.mg_of X G a⟩
theorem Ep{x:Str}{st:Stmt}{N ps:List Str}{k:Nat}{sp:SpD}{c0:Addr}(T:uc K mg x st c0)(S:FnScope N ps (aq st))
 (hb:∀(kV doc pm:E2) (an:Option Addr) (cdv ct:E2) (us:List E2),us.length=ps.length->bindArgs (FI x x (aX st) (aL st) (aq st) .none kV doc pm an cdv ct) ⟨us,[]⟩=pure (ps.zip us))
 (len:∀ds M Q,sp ds M Q->ds.length=ps.length)
 (body:∀(f:Addr) (A:EX) (outer:List Env) (s:E3) (H:Hp) (E:XK),Room k (A.deeper (envOfC x (aq st) s.heap.objs.size f (.ref c0)))->
  ∃t,DSs (aW CX0 P w K mg base N x (aq st) f (.ref c0) A outer s H E).nox (aL st) t/\∀ds M Q,sp ds M Q->t { nx:=fun _ M'=>Ret Q .non M',rt:=Ret Q } (cZ N ds) M):Cal P w K mg base (k+1) x sp:=by
 obtain⟨f,oc,od,kV,doc,pm,an,ct,osl,lk,hcd,kp,hm⟩:=T
 refine⟨f,_,ps,ue lk hcd S (fun vs H Q E z=>?_) (fun A outer s H vs Q E hr z=>?_),hm,kp,.all fun us hl=>hb kV doc pm an (.ref c0) ct us hl⟩
 ·obtain⟨ds,M,R,rs,_,q,_⟩:=z
  rw[<-rs.length];exact len _ _ _ q
 ·obtain⟨ds,M,R,rs,a,q,fin⟩:=z
  obtain⟨t,h,hq⟩:=body f A outer s H E hr
  refine⟨_,h.nox,cZ N ds,M,fg rs,a,{ nx:=fun _ M'=>Ret R .non M',rt:=Ret R },⟨fun δ' M' σ' H' g s' a' q'=>?_,fun d M' v H' g r a' q'=>?_,fun _ _ _ _ _ _ _ z=>z,fun _ _ _ _ _ _ _ z=>z⟩,hq ds M R q⟩
  ·obtain⟨M2,s2,q'⟩:=q'
   exact fin .non M2 .non H' g (by rw[Rep]) (a'.sub s2) q'
  ·obtain⟨M2,s2,q'⟩:=q'
   exact fin _ _ _ _ g r (a'.sub s2) q'
theorem C7{h:Heap}{c0 Pt bm:Addr}{o:Obj}(X:K.In h)(G:h.Ns EY mg)(hd:PySem.W.codeHdIn K c0 Pt=true)(a:Fo K EY "__builtins__"=some (some (.ref bm)))(l:K.lookup bm=some o)(h1:bm≠builtinsNs)(h2:bm≠EY)(h3:o.cls=.type "module")(h4:o.dict=some builtinsNs)(h5:o.data=.plain):Mk K mg c0 Pt:=⟨hd,bm,o,PySem.W.mg_of X G a,h1,h2,l,h3,h4,h5⟩
end
theorem cD.refl{Pt:Addr}{M:MH}:cD Pt M M:=fun _ _ _ h=>h
theorem Sub.Ew{Pt:Addr}{M M1:MH}(a:Sub M M1):cD Pt M M1:=fun x o _ h=>a x o h
theorem cT.new{q:Str}{Pt:Addr}{pos:Pos}{M:MH}{p:Addr}{o:MO}(h:cT q Pt pos M)(hp:M p=none):cT q Pt pos (ax M p o):=by
 rcases h with h|⟨c,h1,h2,h3⟩
 ·exact .inl (by rw[ak (fun z=>by rw[z,hp]at h;cases h)];exact h)
 ·exact .inr ⟨c,by rw[ak (fun z=>by rw[z,hp]at h1;cases h1)];exact h1,by rw[ak (fun z=>by rw[z,hp]at h2;cases h2)];exact h2,h3⟩
theorem cT.kx{q:Str}{Pt:Addr}{pos:Pos}{M M':MH}{xs:List Addr}(h:cT q Pt pos M)(k:∀a o,a∉xs->M a=some o->M' a=some o)(hx:∀a∈xs,∀A,M a≠some (.gen A)):cT q Pt pos M':=by
 rcases h with h|⟨c,h1,h2,h3⟩
 ·exact .inl (k _ _ (fun z=>hx _ z _ h) h)
 ·exact .inr ⟨c,k _ _ (fun z=>hx _ z _ h1) h1,k _ _ (fun z=>hx _ z _ h2) h2,h3⟩
theorem cT.sub{q:Str}{Pt:Addr}{pos:Pos}{M M':MH}(h:cT q Pt pos M)(k:Sub M M'):cT q Pt pos M':=h.kx (xs:=[]) (fun a o _ e=>k a o e) (fun _ z=>nomatch z)
theorem cT.upd{q:Str}{Pt:Addr}{pos:Pos}{M:MH}{p:Addr}{o:MO}{ds:List D}(h:cT q Pt pos M)(hp:M p=some (.lst ds)):cT q Pt pos (ax M p o):=h.kx (xs:=[p]) (fun a u n e=>by rw[ak (by simpa using n)];exact e) (fun a ha A e=>by rw[show a=p by simpa using ha,hp]at e;cases e)
def mS(o:Obj):MO:=.gen fun _ H a=>H a=some (.ext (cg a o))
theorem Prs.mono{K:E1}{H H':Hp}(g:Grow K H H'):∀{xs:List V} {us:List (Int×Int)},Prs K H xs us->Prs K H' xs us
 |[],[],_=>trivial
 |_::_,_::_,h=>⟨let⟨a,e,t⟩:=h.1;⟨a,e,g.t _ _ t⟩,Prs.mono g h.2⟩
 |[],_::_,h=>h.elim
 |_::_,[],h=>h.elim
theorem Prs.snoc{K:E1}{H:Hp}{x:V}{u:Int×Int}(z:∃a,x=.ref a/\SqT K H a [.int u.1,.int u.2]):∀{xs:List V} {us:List (Int×Int)},Prs K H xs us->Prs K H (xs++[x]) (us++[u])
 |[],[],_=>⟨z,trivial⟩
 |_::_,_::_,h=>⟨h.1,Prs.snoc z h.2⟩
 |[],_::_,h=>h.elim
 |_::_,[],h=>h.elim
theorem kI{x:V}{u:E2}(r:RelV x u):∀{xs:List V} {us:List E2},Vals xs us->Vals (xs++[x]) (us++[u])
 |[],_,.nil=>.cons r .nil
 |_::_,_,.cons a b=>.cons a (kI r b)
section
variable{X:Cx}{pins:List (Addr×Obj)}{σ:L2.St}{s:E3}
def KyS(X:Cx)(pins:List (Addr×Obj))(σ:L2.St)(H0:Hp)(M2:MH)(a kS:Addr)(e1:Nat)(us:List (Int×Int))(i:Nat)(s':E3):Prop:=
 ∃H' M' kA e ks,Inv X pins σ H' s'/\Grow X.K H0 H'/\Abs X.K H' M'/\Sub M2 M'/\M' a=some (mS (FD "list" #[] e1))/\M' kS=some (mS (FD "list" kA e))/\Vals ks kA.toList/\Prs X.K H' ks (us.take i)
theorem yc{H0:Hp}{M2:MH}{a kS g:Addr}{e1:Nat}{us:List (Int×Int)}{ds:List D}{xs:List V}{its:List E2}{Q:PySem.Fin->E3->Prop}{E:E2->E3->Prop}{A:EX}(hka:kS≠a)(ha:M2 a=none)(hk:M2 kS=none)(rs:aB X.K H0 ds xs)(rv:Vals xs its)(hn:us.length=ds.length)(h64:us.length<64)
 (turn:∀i d1 v1 u1 M' H' s',Inv X pins σ H' s'->Abs X.K H' M'->Sub M2 M'->ds[i]?=some d1->Rep X.K H' d1 v1->RelV v1 u1->i<us.length->
  E8 (ED X.prog X.w) A (call (.ref g) [u1]) (EP X pins σ (fun v H''=>Grow X.K H' H''/\Rep X.K H'' (.tup [.int (p0 us i).1,.int (p0 us i).2]) v/\Abs X.K H'' M')) (fun _ _=>False) s')
 (h0:KyS X pins σ H0 M2 a kS e1 us 0 s)
 (h:∀H' M' kA e ks s',Inv X pins σ H' s'->Grow X.K H0 H'->Abs X.K H' M'->Sub M2 M'->M' a=some (mS (FD "list" #[] e1))->M' kS=some (mS (FD "list" kA e))->Vals ks kA.toList->Prs X.K H' ks us->
  E8 (ED X.prog X.w) A (ksk_end a false its.toArray e1 (.ref kS) kA) Q E s') :
 E8 (ED X.prog X.w) A (ksk_rest a (.ref g) false its.toArray e1 (.ref kS)) Q E s:=by
 have hl:its.length=us.length:=by rw[<-rv.length,<-rs.length,hn]
 unfold ksk_rest
 refine cc (wpAny_rule ?_)
 first
  |rw[List.forIn_toArray]
  |(rw[<-FV];simp only[List.toList_toArray])
  |rw[<-FV]
 refine cc (ksk_fold (fun i s'=>KyS X pins σ H0 M2 a kS e1 us i s') its 0 s h0 ?step ?done)
 case step=>
  rintro j u1 s' hx ⟨H',M',kA,e,ks,I,g0,aM,sb,hMa,hMk,vk,pk⟩
  simp only[Nat.zero_add]at pk ⊢
  have hj:j<its.length:=(EB.mp hx).1
  have hju:j<us.length:=by omega
  have hjd:j<ds.length:=by omega
  obtain⟨v1,hv1,r1⟩:=rs.get (show ds[j]?=some ds[j]from EL hjd)
  obtain⟨u',hu',ru⟩:=rv.get hv1
  rw[hx]at hu';cases hu'
  refine cc (wpAny_attempt (ES (turn j ds[j] v1 u1 M' H' s' I aM sb (EL hjd) (r1.mono g0) ru hju) (fun r s2 z=>?_) fun _ _ hF=>hF.elim))
  obtain⟨v2,H2,I2,rr,g2,rep2,a2⟩:=z
  try dsimp only
  have oa:s2.heap.get? kS=some (FD "list" kA e):=(I2.hok _ _ (a2 _ _ hMk).1).1
  have hsz:kA.size<=us.length:=by
   have h1:ks.length=kA.size:=by rw[<-Fu];exact vk.length
   have h2:=pk.len
   rw[FJ]at h2
   omega
  obtain⟨c2,hc2⟩:∃c2,(s2.heap.update kS (FL (·.push r))).get? kS=some (FD "list" (kA.push r) c2):=⟨_,get?_update_seq oa (·.push r)⟩
  have s1:=Heap.SameBut.update s2.heap kS (FL (·.push r))
  refine cc (listUpdate_at oa rfl ?_ (by rw[Gi];omega) (Fh (Nat.le_of_eq (Array.size_push ..)) (by rw[Gi];omega)))
  have hHk:H2 kS=some (.ext (cg kS (FD "list" kA e))):=(a2 _ _ hMk).1
  have gw:Grow X.K H2 (upd H2 kS (.ext (cg kS (FD "list" (kA.push r) c2)))):=.ext hHk
  have I3:Inv X pins σ (upd H2 kS (.ext (cg kS (FD "list" (kA.push r) c2)))) { s2 with heap:=s2.heap.update kS (FL (·.push r)) }:=I2.write (t':=s2.toks) (x:=kS) (e:=kS) (by rw[hHk];exact GB) (.inl rfl) (fun b q hb z=>(s1.2 b hb).trans z) ⟨_,hc2⟩ (gP hc2)
  rw[Rep]at rep2
  obtain⟨pp,zs,rfl,ht,rz⟩:=rep2
  obtain⟨w1,w2,rfl,q1,q2⟩:=dJ rz
  rw[Rep]at q1 q2
  subst q1 q2
  refine E5 ⟨rfl,_,ax M' kS (mS (FD "list" (kA.push r) c2)),kA.push r,c2,ks++[.ref pp],I3,(g0.trans g2).trans gw,a2.p9 gw ay (fun H9 _ e9=>e9),fun b o z=>by rw[ak (av z hk)];exact sb b o z,by rw[ak hka.symm];exact hMa,ai,by simpa using kI rr vk,?_⟩
  have et:us.take (j+1)=us.take j++[p0 us j]:=by
   rw[List.take_add_one,EL hju]
   unfold p0
   rw[FO,EL hju];rfl
  rw[et]
  exact(pk.mono (g2.trans gw)).snoc ⟨pp,rfl,gw.t _ _ ht⟩
 case done=>
  rintro s' ⟨H',M',kA,e,ks,I,g0,aM,sb,hMa,hMk,vk,pk⟩
  have e3:us.take (0+its.length)=us:=List.take_of_length_le (by omega)
  rw[e3]at pk
  have oa:s'.heap.get? kS=some (FD "list" kA e):=(I.hok _ _ (aM _ _ hMk).1).1
  try dsimp only
  exact cc (listItems_at oa rfl (h H' M' kA e ks s' I g0 aM sb hMa hMk vk pk))
theorem ud{H':Hp}{M':MH}{a kS:Addr}{e1 e:Nat}{kA:Array E2}{ks xs:List V}{us:List (Int×Int)}{its:List E2}{Q:PySem.Fin->E3->Prop}{E:E2->E3->Prop}{A:EX}(hka:kS≠a)(I:Inv X pins σ H' s)(aM:Abs X.K H' M')(hMa:M' a=some (mS (FD "list" #[] e1)))(hMk:M' kS=some (mS (FD "list" kA e)))
 (vk:Vals ks kA.toList) (pk:Prs X.K H' ks us) (rv:Vals xs its) (hn:us.length=its.length) (hb:Pb us)
 (h:∀π H2 M2 s2,Inv X pins σ H2 s2->Grow X.K H' H2->(∀b,b≠a->b≠kS->M2 b=M' b)->M2 a=none->M2 kS=none->Abs X.K H2 M2->H2 a=some (.lst (π.toList.map fun i=>xs.getD i .non))->Pmu us.length π->Up (pky us) π us.length->Q (.done (.ret .none)) s2) :
 E8 (ED X.prog X.w) A (ksk_end a false its.toArray e1 (.ref kS) kA) Q E s:=by
 have ok:s.heap.get? kS=some (FD "list" kA e):=(I.hok _ _ (aM _ _ hMk).1).1
 have oa:s.heap.get? a=some (FD "list" #[] e1):=(I.hok _ _ (aM _ _ hMa).1).1
 have hHk:H' kS=some (.ext (cg kS (FD "list" kA e))):=(aM _ _ hMk).1
 have hHa:H' a=some (.ext (cg a (FD "list" #[] e1))):=(aM _ _ hMa).1
 have h64:its.length<64:=by have:=hb.1;omega
 have hsz:kA.size=its.length:=by
  have h1:ks.length=kA.size:=by rw[<-Fu];exact vk.length
  have h2:=pk.len
  omega
 have hkl:kA.toList.length=its.length:=by rw[Fu];exact hsz
 have ekA:kA=kA.toList.toArray:=(Array.toArray_toList).symm
 have tail:∀(π:Array Nat) (st:SortSt),Pmu us.length π->Up (pky us) π us.length->arrOf st=π.map (PySem.W.kas_item (kA.zip its.toArray))->failedOf st=none->E8 (ED X.prog X.w) A (ksk_tail a false e1 (.ref kS) st) Q E s:=fun π st hp hu har hf=>by
  have hout:(arrOf st).map (·.2)=eG its π:=by rw[ekA]at har;exact PySem.W.kat_snds hkl har
  have hz:(eG its π).size=its.length:=by unfold eG;rw[EI,E6,Fu,hp.size,hn]
  have s1:=Heap.SameBut.update s.heap kS (FL fun _=>(#[]:Array E2))
  have na1:(s.heap.update kS (FL fun _=>(#[]:Array E2))).get? a=some (FD "list" #[] e1):=(s1.2 a hka.symm).trans oa
  have s2:=Heap.SameBut.update (s.heap.update kS (FL fun _=>(#[]:Array E2))) a (FL fun _=>eG its π)
  obtain⟨c2,hc2⟩:∃c2,((s.heap.update kS (FL fun _=>(#[]:Array E2))).update a (FL fun _=>eG its π)).get? a=some (FD "list" (eG its π) c2):=⟨_,get?_update_seq na1 fun _=>eG its π⟩
  obtain⟨c1,hc1⟩:∃c1,(s.heap.update kS (FL fun _=>(#[]:Array E2))).get? kS=some (FD "list" #[] c1):=⟨_,get?_update_seq ok fun _=>#[]⟩
  unfold ksk_tail
  try dsimp only
  rw[hout]
  refine cc (listUpdate_at ok rfl ?_ (by rw[hsz,Gi];omega) (Fz _))
  refine cc (Gw ?_)
  refine cc (seqEpoch_at na1 rfl ?_)
  refine cc (listUpdate_at na1 rfl ?_ (Fz _) (by show(eG its π).size<=_;rw[hz,Gi];omega))
  rw[hf]
  simp only[bne_self_eq_false,EO,if_false]
  have I1:=I.write (t':=s.toks) (o:=.ext (cg kS (FD "list" #[] c1))) (x:=kS) (e:=kS) (h':=s.heap.update kS (FL fun _=>(#[]:Array E2))) (by rw[hHk];exact GB) (.inl rfl) (fun b q hb z=>(s1.2 b hb).trans z) ⟨_,hc1⟩ (gP hc1)
  have hHa1:(upd H' kS (.ext (cg kS (FD "list" #[] c1)))) a=some (.ext (cg a (FD "list" #[] e1))):=by rw[az hka.symm];exact hHa
  have vo:Vals (π.toList.map fun i=>xs.getD i .non) (π.toList.map fun i=>its.getD i .none):=kB rv π.toList
  have I2:=I1.write (t':=s.toks) (o:=.lst (π.toList.map fun i=>xs.getD i .non)) (x:=a) (e:=a) (h':=(s.heap.update kS (FL fun _=>(#[]:Array E2))).update a (FL fun _=>eG its π)) (by rw[hHa1];exact GB) (.inl rfl) (fun b q hb z=>(s2.2 b hb).trans z) ⟨_,hc2⟩
   (show bB X.prog X.w _ _ _ (.lst _)from⟨by rw[E6,Fu,hp.size,Gi];omega,_,c2,vo,hc2⟩)
  have g1:Grow X.K H' (upd H' kS (.ext (cg kS (FD "list" #[] c1)))):=.ext hHk
  have g2:Grow X.K (upd H' kS (.ext (cg kS (FD "list" #[] c1)))) (upd (upd H' kS (.ext (cg kS (FD "list" #[] c1)))) a (.lst (π.toList.map fun i=>xs.getD i .non))):=.ext hHa1
  refine E5 (h π _ (fun b=>if b=a\/b=kS then none else M' b) _ I2 (g1.trans g2) (fun b n1 n2=>if_neg (by simp[n1,n2])) (if_pos (.inl rfl)) (if_pos (.inr rfl)) (fun b o z=>?_) ay hp hu)
  have z:(if b=a\/b=kS then none else M' b)=some o:=z
  by_cases hbk:b=a\/b=kS
  ·rw[if_pos hbk]at z;cases z
  ·rw[if_neg hbk]at z
   have n1:b≠a:=fun y=>hbk (.inl y)
   have n2:b≠kS:=fun y=>hbk (.inr y)
   exact(aM b o z).dq (g1.trans g2) (by rw[az n1,az n2])
 unfold ksk_end
 try dsimp only
 simp only[EO,if_false]
 by_cases h2:its.toArray.size<2
 ·rw[if_pos h2,if_pos h2]
  rw[EI]at h2
  refine cc (E5 ?_)
  rw[StateT.run_pure]
  refine cc (E5 ?_)
  try dsimp only
  refine tail (Fl us.length).toArray _ ⟨Array.Perm.refl _⟩ (fun i j hij hj=>by omega) ?_ rfl
  have e:=PySem.W.kas_range (kA.zip its.toArray)
  rw[show(kA.zip its.toArray).size=us.length by rw[Array.size_zip,hsz,EI,hn,Nat.min_self]]at e
  exact e.symm
 ·rw[if_neg h2,if_neg h2]
  rw[EI]at h2
  have tp:=vG I pk vk
  obtain⟨fs,k1,k2,k3⟩:=nE (h:=s.heap) (its:=kA.toList) (us:=us) (by rw[hkl,hn]) tp
  have kk:E8 (ED X.prog X.w) A (keyKind' kA) (fun κ s'=>κ=tuples' true/\s'=s) E s:=by
   rw[ekA]
   refine PySem.W.kat_kind (T:=.type "int") k1 (by omega) (fun v hv=>?_) (by decide) ⟨rfl,rfl⟩
   obtain⟨n,t,rfl⟩:=k3 v hv
   exact PySem.W.Looks.now
  refine cc (ES kk (fun κ s' z=>?_) fun _ _ z=>z)
  obtain⟨rfl,rfl⟩:=z
  refine cc (ES (?run:E8 (ED X.prog X.w) A ((sortRuns').run (SortSt.mk' (tuples' true) (kA.zip its.toArray) #[] 7 none)) (fun r s''=>s''=s'/\∃p,Pmu its.length p/\Up (pky us) p its.length/\arrOf r.2=p.map (PySem.W.kas_item (kA.zip its.toArray))/\failedOf r.2=none) E s') ?_ fun _ _ x=>x)
  case run=>
   rw[ekA]
   refine PySem.W.kat_run (Q:=fun st s''=>s''=s'/\∃p,Pmu its.length p/\Up (pky us) p its.length/\arrOf st=p.map (PySem.W.kas_item (kA.toList.toArray.zip its.toArray))/\failedOf st=none)
    (G:=fun p s''=>s''=s'/\Pmu its.length p/\Up (pky us) p its.length) hkl (by omega) h64 (fun p st s'' _ b1 b2 b3=>⟨b3.1,p,b3.2.1,b3.2.2,b1,b2⟩)
    (qU (n:=its.length) (k:=pky us) (fun i j C hi hj hC=>?_) _ (cj (fun p q=>⟨rfl,q⟩) _ (uI (by rw[<-hn];exact hb.inj) (by omega))))
   obtain⟨x,t1,t2,ea,hx⟩:=tp i (by omega)
   obtain⟨y,t3,t4,eb,hy⟩:=tp j (by omega)
   unfold PySem.W.kas_ask
   rw[ea,eb]
   exact xx hx hy (hb.2.2 _ (mX (by omega))) (hb.2.2 _ (mX (by omega))) hC
  rintro⟨⟨⟩,st⟩ s1 ⟨q0,p,hp,hu,har,hf⟩
  dsimp only at q0 ⊢
  subst q0
  rw[<-hn]at hp hu
  exact tail p st hp hu har hf
end
theorem qW{K:E1}{H:Hp}{ds:List D}{xs:List V}(r:aB K H ds xs):∀l:List Nat,aB K H (l.map fun i=>ds.getD i .non) (l.map fun i=>xs.getD i .non)
 |[]=>by rw[Gq,Gq];exact .nil
 |i::l=>by
  rw[EJ,EJ]
  refine .cons ?_ (qW r l)
  have hl:=r.length
  by_cases h:i<ds.length
  ·obtain⟨x,e,rr⟩:=r.get (show ds[i]?=some ds[i]from EL h)
   simpa[FO,h,e]using rr
  ·have e1:ds.getD i .non=.non:=by simp[FO,List.getElem?_eq_none (Nat.le_of_not_lt h)]
   have e2:xs.getD i .non=.non:=by simp[FO,List.getElem?_eq_none (by omega:xs.length<=i)]
   rw[e1,e2,Rep]
section
variable{X:Cx}{pins:List (Addr×Obj)}{σ:L2.St}{s:E3}{H:Hp}
theorem Cb{Q:E2->E3->Prop}{E:E2->E3->Prop}{l g:Addr}{M2:MH}{ds:List D}{us:List (Int×Int)}(I:Inv X pins σ H s)(aM:Abs X.K H M2)(hl:M2 l=some (.lst ds))(hn:us.length=ds.length)(hb:Pb us)
 (turn:∀i d1 v1 u1 M' H' s',Inv X pins σ H' s'->Abs X.K H' M'->Sub M2 M'->ds[i]?=some d1->Rep X.K H' d1 v1->RelV v1 u1->i<us.length->
  E8 (ED X.prog X.w) X.A.in1.in1 (call (.ref g) [u1]) (EP X pins σ (fun v H''=>Grow X.K H' H''/\Rep X.K H'' (.tup [.int (p0 us i).1,.int (p0 us i).2]) v/\Abs X.K H'' M')) (fun _ _=>False) s')
 (done:∀p π H' M' s',Inv X pins σ H' s'->Grow X.K H H'->Abs X.K H' M'->Sub M2 M'->M2 p=none->M' p=some (.lst (π.toList.map fun i=>ds.getD i .non))->Pmu us.length π->Up (pky us) π us.length->Q (.ref p) s') :
 E8 (ED X.prog X.w) X.A (call (.builtin "sorted") [.ref l] [(F9 "key",.ref g)]) Q E s:=by
 obtain⟨xs,hx,rs⟩:=aM _ _ hl
 obtain⟨its,rv,p1,hz⟩:=I.list (SqL.of hx)
 have hil:its.length=us.length:=by rw[<-rv.length,<-rs.length,hn]
 have h64:its.length<64:=by have:=hb.1;omega
 refine call_function_entry_kw kind_sorted plain_sorted entry_sorted (ksk_s1 _ _) ?_
 unfold Hm.«sorted»
 refine cc (m:=checkCount "sorted" 1 1 _) (E5 ?_)
 refine cc (collect_list p1.isList ?_ (by rw[Gi];omega))
 refine cc (wpAny_newList ?_ (by rw[Gi];omega))
 generalize e1:((s.heap.push (FD "list" #[] 0)).update s.heap.objs.size (FL (·++its.toArray)))=h1
 have z1:h1.objs.size=s.heap.objs.size+1:=by rw[<-e1,Heap.size_update,size_push']
 have o1:∀b o,s.heap.get? b=some o->h1.get? b=some o:=fun b o q=>by
  rw[<-e1,Heap.get?_update_ne _ _ _ _ (EV (E7 q)),Heap.get?_push_ne _ _ _ (EV (E7 q))]
  exact q
 show E8 _ _ _ _ _ { s with heap:=h1.push (FD "list" its.toArray 0) }
 rw[z1]
 have at1:(h1.push (FD "list" its.toArray 0)).get? (s.heap.objs.size+1)=some (FD "list" its.toArray 0):=by rw[<-z1];exact EC _ rfl
 refine cc (Fs (wpAny_call_entry_kw slot_list_sort ⟨_,at1,rfl⟩ entry_list_sort ?body (ksk_l1 _ _)))
 show E8 (ED X.prog X.w) X.A.in1.in1 (Hm.«list.sort» ⟨[.ref (s.heap.objs.size+1)],[(F9 "key",.ref g)]⟩) _ _ _
 rw[ksk_t1]
 obtain⟨e0,at2⟩:∃e0,((h1.push (FD "list" its.toArray 0)).update (s.heap.objs.size+1) (FL fun _=>#[])).get? (s.heap.objs.size+1)=some (FD "list" #[] e0):=⟨_,get?_update_seq at1 fun _=>#[]⟩
 unfold ksk_tree
 refine cc (listItems_at at1 rfl ?_)
 refine cc (listUpdate_at at1 rfl ?_ (by rw[EI,Gi];omega) (Fz _))
 refine cc (seqEpoch_at at2 rfl ?_)
 refine cc (wpAny_newTuple ?_ (by show its.length<=_;rw[Gi];omega))
 refine cc (wpAny_newList (Fs ?_) (Fz _))
 generalize e2:(((h1.push (FD "list" its.toArray 0)).update (s.heap.objs.size+1) (FL fun _=>#[])).push (FD "tuple" its.toArray 0))=h2
 have at3:h2.get? (s.heap.objs.size+1)=some (FD "list" #[] e0):=by rw[<-e2];exact E4 _ at2
 have z2:h2.objs.size=s.heap.objs.size+3:=by rw[<-e2,size_push',Heap.size_update,size_push',z1]
 have o2:∀b o,s.heap.get? b=some o->h2.get? b=some o:=fun b o q=>by
  rw[<-e2]
  refine E4 _ ?_
  rw[Heap.get?_update_ne _ _ _ _ (EV (Nat.lt_succ_of_lt (E7 q)))]
  exact E4 _ (o1 b o q)
 have I2:Inv X pins σ (upd H (s.heap.objs.size+1) (.ext (cg (s.heap.objs.size+1) (FD "list" #[] e0)))) { s with heap:=h2 }:=I.laid (t':=s.toks) (h':=h2) o2 (Nat.le_succ _) (gP at3)
 have I3:=I2.laid (t':=s.toks) (a:=h2.objs.size) (o:=.ext (cg h2.objs.size (FD "list" #[] 0))) (h':=h2.push (FD "list" #[] 0)) (fun b u q=>E4 _ q) (E9 _) (gP (EC _ rfl))
 have fa:H (s.heap.objs.size+1)=none:=I.hok.fresh (Nat.le_succ _)
 have g2:=Grow.new (K:=X.K) (o:=.ext (cg (s.heap.objs.size+1) (FD "list" #[] e0))) fa
 have fk:(upd H (s.heap.objs.size+1) (.ext (cg (s.heap.objs.size+1) (FD "list" #[] e0)))) h2.objs.size=none:=I2.hok.fresh (E9 _)
 have g3:=Grow.new (K:=X.K) (o:=.ext (cg h2.objs.size (FD "list" #[] 0))) fk
 have ne:h2.objs.size≠s.heap.objs.size+1:=by rw[z2];exact fun e=>absurd (id e:@Eq Nat _ _) (by omega)
 have fkH:H h2.objs.size=none:=by rw[az ne]at fk;exact fk
 have a2:=(aM.p9 (A:=fun _ H a=>H a=some (.ext (cg a (FD "list" #[] e0)))) g2 ay (fun H9 _ e9=>e9)).p9 (A:=fun _ H a=>H a=some (.ext (cg a (FD "list" #[] 0)))) g3 ay (fun H9 _ e9=>e9)
 have ma:=aM.fresh fa
 have mk:=aM.fresh fkH
 have sb0:Sub M2 (ax (ax M2 (s.heap.objs.size+1) (mS (FD "list" #[] e0))) h2.objs.size (mS (FD "list" #[] 0))):=fun b o z=>by
  rw[ak (av z mk),ak (av z ma)];exact z
 show E8 (ED X.prog X.w) X.A.in1.in1 (ksk_rest (s.heap.objs.size+1) (.ref g) false its.toArray e0 (.ref h2.objs.size)) _ _ { s with heap:=h2.push (FD "list" #[] 0) }
 refine yc (X:=X) (H0:=H) (M2:=M2) ne ma mk rs rv hn hb.1 turn ⟨_,_,#[],0,[],I3,g2.trans g3,a2,sb0,by rw[ak ne.symm,ai];rfl,by rw[ai];rfl,.nil,by rw[List.take_zero];trivial⟩ fun H' M' kA e ks s' I' g' aM' sb' hMa hMk vk pk=>?_
 refine ud ne I' aM' hMa hMk vk pk rv hil.symm hb fun π H4 M4 s4 I4 g4 same n1 n2 aM4 hH4 hπ hu=>⟨_,rfl,E5 ⟨_,rfl,?_⟩⟩
 refine done _ π H4 (ax M4 (s.heap.objs.size+1) (.lst (π.toList.map fun i=>ds.getD i .non))) s4 I4 (g'.trans g4) (fun b o z=>?_) (fun b o z=>?_) ma ai hπ hu
 ·by_cases hb':b=s.heap.objs.size+1
  ·subst hb'
   rw[ai]at z;cases z
   exact⟨_,hH4,qW (rs.mono (g'.trans g4)) _⟩
  ·rw[ak hb']at z;exact aM4 b o z
 ·have nb1:=av z ma
  have nb2:=av z mk
  rw[ak nb1,same b nb1 nb2];exact sb' b o z
end
def wH(q:Str)(Pt:Addr)(lpos:Pos)(j:Nat)(spg:D->SpD)(ta:TAD):TD:=fun δ M Q=>ta δ M fun es M1=>∃(l:Addr) (ds:List D) (us:List (Int×Int)) (d2:D),es=[.ref l]/\M1 l=some (.lst ds)/\l≠Pt/\δ[j]?=some (some d2)/\cT q Pt lpos M1/\us.length=ds.length/\Pb us/\
 (∀(i:Nat) d M' Q',ds[i]?=some d->cD Pt M1 M'->Q' (.tup [.int (p0 us i).1,.int (p0 us i).2]) M'->spg d2 [d] M' Q')/\
 ∀p π M',M' p=some (.lst (π.toList.map fun i=>ds.getD i .non))->Pmu us.length π->Up (pky us) π us.length->cT q Pt lpos M'->cD Pt M1 M'->Q (.ref p) M'
section
variable{X:Cx}{y lx:Str}{k:Nat}{params:Arguments}{body:Expr}{lscope:Gz}{lpos p pos kp:Pos}{e1:Expr}{ta:TAD}{c0 Pt:Addr}{spg:D->SpD}
theorem qd(j:Nat)(hcode:X.env.code=.ref c0)(m:Mk X.K X.mg c0 Pt)(S:LamScope lx y lscope)
 (hb:∀(name qual:Str) (c:Addr) (pm cdv ct u1:E2),bindArgs (PySem.W.kla_fn name qual params body lscope [(y,c)] pm cdv ct) ⟨[u1],[]⟩=pure [(lx,u1)])
 (len:∀d ds M Q,spg d ds M Q->ds.length=1)
 (ht:∀(base:Heap) (g c c':Addr) (d2:D) (A:EX) (outer:List Env) (s:E3) (H:Hp),Room k (A.deeper (jF lscope s.heap.objs.size [(y,c)] (X.env.qual++"<lambda>") g (.ref c')))->
  ∃t,DE (oS X.prog X.w X.K X.mg base [lx,y] (X.env.qual++"<lambda>") lscope [(y,c)] g (.ref c') A outer s H) body t/\∀d1 M Q,spg d2 [d1] M Q->t [some d1,some d2] M Q)
 (hr:Room (k+1+1+1) X.A) (hm:X.mg "sorted"=none) (ha:DA X [e1] ta)
 (hg:Gl X "sorted":=by rfl) (hfil:(lscope.names.filter fun z=>z.2==.free)=[(y,.free)]:=by rfl) (hdef:defaultsOf params X.env=([],[]):=by rfl) (hfn:X.fn y=true:=by rfl) (hNj:X.N[j]?=some y:=by rfl) (hcy:X.env.scope.names.lookup y=some .cell:=by rfl)
 (he:G6 pos (EH [e1] X.env)=(false,eval e1 X.env)::G6 pos (EH [] X.env):=by rfl) (hpl:(G6 pos (EH [e1] X.env)).any (·.1)=false:=by rfl) :
 DE X (.Call (.Name "sorted" p) [e1] [⟨some "key",.Lambda params body lscope lpos,kp⟩] pos) (wH (X.env.qual++"<lambda>") Pt lpos j spg ta):=by
 intro pins s σ H Q I h
 obtain⟨δ,M,R,hs,hM,q,fin⟩:=h
 refine GY (fx I hg hm t8 (PyProof.Rows.callWith_kw (thn (ha pos pins s σ H _ I ⟨δ,M,_,hs,hM,q,fun es M1 vs H1 g1 r1 a1 q1=>(show ∃es M1,Grow X.K H H1/\aB X.K H1 es vs/\Abs X.K H1 M1/\_ from⟨es,M1,g1,r1,a1,q1⟩)⟩) fun us s1 z=>?_) he hpl rfl rfl))
 obtain⟨vs,H1,I1,rv1,es,M1,g1,r1,a1,l,ds,us',d2,rfl,hl,nlP,hj,htab,hn,hpb,hsp,hq⟩:=z
 obtain⟨v1,rfl,rl⟩:=bF r1
 rw[Rep]at rl;subst rl
 obtain⟨u1,rfl,ru⟩:=vals1 rv1
 cases ru
 obtain⟨v2,hv2,rd⟩:=hs.at' j d2 hj
 obtain⟨c,hc⟩:=I1.ok.has y (.inl hcy)
 refine PyProof.Rows.kws_cons (uR hcode m hfil (fun z hz hk=>S.only z hz hk) hdef I1 a1 hc htab (rd.mono g1) fun g c' ctv pm H2 M2 s2 I2 g2 a2 hgM hcM ht2 hsub=>?_)
 refine PyProof.Rows.kws_nil ?_
 show E8 (ED X.prog X.w) X.A (call (.builtin "sorted") [.ref l] [(F9 "key",.ref g)]) _ _ _
 have hl2:M2 l=some (.lst ds):=hsub _ _ nlP hl
 refine Cb I2 a2 hl2 hn hpb (fun i d1 v1 u1 M' H' s' I' aM' sb' hd r1' ru1 hi=>?_) fun p π H' M' s' I' g' aM' sb' hp hMp hπ hu=>?_
 ·have hsub':cD Pt M1 M':=fun a o na e=>sb' _ _ (hsub a o na e)
  obtain⟨mm,hnn,hll⟩:=I'.loc
  obtain⟨u2,ru2,lk⟩:=hll j y v2 hNj hv2 (.inr (.inl hcy))
  obtain⟨oc,hoc,hod⟩:s'.heap.IsCell c (some u2):=by
   rcases lk with⟨z,_⟩|⟨_,c2,hc2,z⟩
   ·rw[show X.env.kindOf y=X.env.scope.names.lookup y from rfl,hcy]at z;cases z
   ·rw[hc]at hc2;cases hc2;exact z
  have CV:=yP (P:=X.prog) (w:=X.w) (K:=X.K) (mg:=X.mg) (k:=k) (g:=g) (d2:=d2) (base:=g9 s'.heap (nN X.base c)) (sp:=spg d2) S (gL hoc (vC (.inr rfl))) hod ru2 (fun u1=>hb "<lambda>" (X.env.qual++"<lambda>") c pm (.ref c') ctv u1) (len d2) (fun A outer s H hr=>ht _ g c c' d2 A outer s H hr)
  obtain⟨Pg,look,run⟩:=CV.ex
  have e0:=xp I' hfn hc
  obtain⟨_,h2⟩:=run X.A.in1.in1 X.stack s' H' M' hr.in1.in1 ⟨e0.frames,e0.mod,e0.bs,e0.bsz,e0.eL,e0.frf,e0.hok,e0.bare⟩ aM' ⟨sb' _ _ hgM,sb' _ _ hcM⟩
  refine wpAny_call (codeAny_mono (h2 [u1] [v1] (fun v H''=>Grow X.K H' H''/\Rep X.K H'' (.tup [.int (p0 us' i).1,.int (p0 us' i).2]) v/\Abs X.K H'' M') (.cons ru1 .nil) ⟨[d1],M',fun d M''=>d=.tup [.int (p0 us' i).1,.int (p0 us' i).2]/\M''=M',.cons r1' .nil,aM',hsp i d1 M' _ hd hsub' ⟨rfl,rfl⟩,fun d M'' v H'' gg rr aa z=>by obtain⟨rfl,rfl⟩:=z;exact⟨gg,rr,aa⟩⟩) fun r s'' hq'=>?_)
  cases r with
  |error e=>exact FC hq'
  |ok fl=>
   cases fl with
   |ret u=>exact I'.after hq'
   |next=>exact FC hq'
   |brk=>exact FC hq'
   |cont=>exact FC hq'
 ·exact⟨.ref p,H',I',rfl,fin _ M' _ H' ((g1.trans g2).trans g') (by rw[Rep]) aM' (hq p π M' hMp hπ hu (ht2.sub sb') fun a o na e=>sb' _ _ (hsub a o na e))⟩
end
structure Nbs(cs:List Sq)(i:Nat)(kvs:SpT):Prop where
 ks:kvs.map (·.1)=(cs.take i).map kq
 vs:∀j v,j<i->cs[j]?=some v->gE kvs (kq v)=some (.int (j:Int))
theorem Nbs.nil(cs:List Sq):Nbs cs 0 []:=⟨by simp,fun j v h=>absurd h (Nat.not_lt_zero _)⟩
theorem Nbs.len{cs:List Sq}{i:Nat}{kvs:SpT}(h:Nbs cs i kvs):kvs.length<=i:=by have:=congrArg List.length h.ks;rw[E6,E6,FJ]at this;omega
theorem Nbs.put{cs:List Sq}{i:Nat}{kvs:SpT}{v:Sq}(h:Nbs cs i kvs)(up:cs.Pairwise plq)(e:cs[i]?=some v):Nbs cs (i+1) (putD kvs (kq v) (.int (i:Int))):=by
 obtain⟨li,ei⟩:=EB.mp e
 have no:∀x∈kvs,x.1≠kq v:=fun x hx q=>by
  have:x.1∈(cs.take i).map kq:=by rw[<-h.ks];exact FH.mpr ⟨x,hx,rfl⟩
  obtain⟨u,hu,eu⟩:=FH.mp this
  obtain⟨j,hj,ej⟩:=GQ hu
  rw[FJ]at hj
  rw[List.getElem_take]at ej
  have:=Fj.mp up j i (by omega) li (by omega)
  rw[ej,ei,gb (eu.trans q)]at this
  exact jn _ this
 have nf:(kvs.find? fun x=>decide (x.1=kq v))=none:=List.find?_eq_none.mpr fun x hx=>by simpa using no x hx
 have pe:putD kvs (kq v) (.int (i:Int))=kvs++[(kq v,.int (i:Int))]:=by unfold putD;rw[if_neg];intro q;obtain⟨x,hx,hq⟩:=List.any_eq_true.mp q;exact no x hx (of_decide_eq_true hq)
 rw[pe];refine⟨by rw[Fg,h.ks,G9,e,Fg];rfl,fun j u hj eu=>?_⟩;unfold gE;rw[List.find?_append];by_cases z:j=i
 ·subst z;rw[e]at eu;cases eu;rw[nf];simp
 ·have:=h.vs j u (by omega) eu;unfold gE at this;cases q:kvs.find? (fun x=>decide (x.1=kq u))with
  |none=>rw[q]at this;cases this
  |some x=>rw[q]at this;exact this
def ix(cs:List Sq)(v:Sq):Nat:=cs.findIdx fun u=>decide (u=v)
theorem kY{cs:List Sq}{v:Sq}(h:v∈cs):cs[ix cs v]?=some v:=by have hl:ix cs v<cs.length:=List.findIdx_lt_length_of_exists ⟨v,h,decide_eq_true rfl⟩;rw[EL hl];have:=List.findIdx_getElem (w:=hl);exact congrArg some (of_decide_eq_true this)
theorem se{cs:List Sq}{v:Sq}(h:v∈cs):ix cs v<cs.length:=(EB.mp (kY h)).1
theorem qq{cs:List Sq}{u v:Sq}(hu:u∈cs)(hv:v∈cs)(e:ix cs u=ix cs v):u=v:=by have h1:=kY hu;rw[e,kY hv]at h1;cases h1;rfl
theorem zK{cs:List Sq}(up:cs.Pairwise plq){u v:Sq}(hu:u∈cs)(hv:v∈cs)(h:ix cs u<ix cs v):plq u v:=by obtain⟨l1,e1⟩:=EB.mp (kY hu);obtain⟨l2,e2⟩:=EB.mp (kY hv);have:=Fj.mp up _ _ l1 l2 h;rw[e1,e2]at this;exact this
def ixP(cs:List Sq)(y:Pc):Int×Int:=((ix cs y.1:Int),(ix cs y.2:Int))
def pc0(ps:List Pc)(i:Nat):Pc:=ps.getD i ((0,0),(0,0))
section
variable{cs:List Sq}{ps:List Pc}(up:cs.Pairwise plq)(hm:∀y∈ps,y.1∈cs/\y.2∈cs)(hc:cs.length<=80)(hn:ps.length<=40)(nd:ps.Nodup)
include hm hc hn nd
theorem BD:Pb (ps.map (ixP cs)):=by
 refine⟨by rw[E6];omega,?_,fun u hu=>?_⟩
 ·refine List.pairwise_map.mpr (List.Pairwise.imp_of_mem (fun{a b} ha hb h e=>h ?_) nd);unfold ixP at e;simp only[Prod.mk.injEq]at e;exact Prod.ext (qq (hm a ha).1 (hm b hb).1 (by omega)) (qq (hm a ha).2 (hm b hb).2 (by omega))
 ·obtain⟨y,hy,rfl⟩:=FH.mp hu;have:=se (hm y hy).2;show 0<=(ix cs y.2:Int)/\(ix cs y.2:Int)<100;omega
omit nd in
include up in
theorem vR{π:Array Nat}(h:Pmu (ps.map (ixP cs)).length π)(u:Up (pky (ps.map (ixP cs))) π (ps.map (ixP cs)).length):(π.toList.map (pc0 ps)).Pairwise pcl:=by
 rw[Fj];intro i j hi hj hij;have sz:=h.size;have hj':j<ps.length:=by rw[E6,Fu,sz,E6]at hj;exact hj
 have:=u i j hij (by rw[E6];exact hj');rw[E6]at sz
 have at1:∀a,a<ps.length->p0 (ps.map (ixP cs)) a=ixP cs (pc0 ps a)/\pc0 ps a∈ps:=fun a ha=>by
  have e:ps.getD a ((0,0),(0,0))=ps[a]:=by simp[ha]
  unfold p0 pc0
  rw[e]
  exact⟨by simp[ha],List.getElem_mem ha⟩
 have lt1:∀a,a<ps.length->π.getD a 0<ps.length:=fun a ha=>by
  have:=h.lt (i:=a) (by rw[E6];exact ha)
  rw[E6]at this;exact this
 have ei:π.toList[i]'(by rw[E6]at hi;exact hi)=π.getD i 0:=by
  have:i<π.size:=by omega
  simp[Array.getD,this]
 have ej:π.toList[j]'(by rw[E6]at hj;exact hj)=π.getD j 0:=by
  have:j<π.size:=by omega
  simp[Array.getD,this]
 rw[List.getElem_map,List.getElem_map,ei,ej];obtain⟨a1,a2⟩:=at1 _ (lt1 i (by omega));obtain⟨b1,b2⟩:=at1 _ (lt1 j hj');unfold ky pky at this;rw[a1,b1]at this;generalize pc0 ps (π.getD i 0)=y at *;generalize pc0 ps (π.getD j 0)=z at *;have y2:=se (hm y a2).2;have z2:=se (hm z b2).2;unfold ixP at this;dsimp only at this;by_cases e:ix cs y.1=ix cs z.1
 ·exact .inr ⟨qq (hm y a2).1 (hm z b2).1 e,zK up (hm y a2).2 (hm z b2).2 (by omega)⟩
 ·exact .inl (zK up (hm y a2).1 (hm z b2).1 (by omega))
omit hm hc hn nd in
theorem xB{π:Array Nat}(h:Pmu ps.length π):(π.toList.map (pc0 ps)).Perm ps/\(π.toList.map fun i=>(ps.map pcq).getD i .non)=(π.toList.map (pc0 ps)).map pcq:=by
 constructor
 ·have e1:=(Array.perm_iff_toList_perm.mp h.perm).map (pc0 ps)
  have e2:(Fl ps.length).map (pc0 ps)=ps:=by
   apply List.ext_getElem
   ·simp
   ·intro i h1 h2;simp[pc0,h2]
  simpa[e2]using e1
 ·rw[GR];refine List.map_congr_left fun i hi=>?_
  have hi':i<ps.length:=by
   have:i∈π:=by simpa using hi
   have:=h.perm.mem_iff.mp this
   simpa using this
  simp[pc0,hi']
end
structure Row(t b X Y:Int)(ws:List Wl)(qs:List Pc):Prop where
 up:qs.Pairwise pcl
 me:∀y,y∈qs↔oP t b X Y ws y
theorem Row.len{t b X Y:Int}{ws:List Wl}{qs ps:List Pc}(h:Row t b X Y ws qs)(nd:ps.Nodup)(me:∀y,y∈ps↔oP t b X Y ws y):ps.length=qs.length:=Ah nd (B6 vW h.up) fun y=>(me y).trans (h.me y).symm
theorem Row.one{t b X Y:Int}{ws:List Wl}{qs ps:List Pc}(h:Row t b X Y ws qs)(g:Row t b X Y ws ps):ps=qs:=uniq vW g.up h.up fun y=>(g.me y).trans (h.me y).symm
theorem qM{t b X Y:Int}(S:Scl t b X Y){ws:List Wl}(hB:∀w∈ws,Bw 30 w){y:Pc}(h:oP t b X Y ws y):BS y.1/\BS y.2:=by obtain⟨w,hw,c,ic,i,e1,e2⟩:=h;exact⟨mJ S hB hw ((ic.me _).mp (F0 e1)),mJ S hB hw ((ic.me _).mp (F0 e2))⟩
theorem jf{t b X Y:Int}{ws us:List Wl}(h:∀w,w∈ws↔w∈us)(w:Wl)(v:Sq):iC t b X Y ws w v↔iC t b X Y us w v:=by unfold iC;simp only[h]
theorem tK{t b X Y:Int}{ws us:List Wl}(h:∀w,w∈ws↔w∈us)(y:Pc):oP t b X Y ws y↔oP t b X Y us y:=by have e:∀w c,IsCut t b X Y ws w c↔IsCut t b X Y us w c:=fun w c=>⟨fun q=>⟨q.up,fun v=>(q.me v).trans (jf h w v)⟩,fun q=>⟨q.up,fun v=>(q.me v).trans (jf h w v).symm⟩⟩;unfold oP;simp only[h,e]
theorem Row.perm{t b X Y:Int}{ws us:List Wl}{qs:List Pc}(h:Row t b X Y ws qs)(e:∀w,w∈ws↔w∈us):Row t b X Y us qs:=⟨h.up,fun y=>(h.me y).trans (tK e y)⟩
theorem cD.atR{r:Addr}{M M':MH}{o:MO}(h:cD r M M'):cD r M (ax M' r o):=fun a u n e=>by rw[ak n];exact h a u n e
theorem cD.fresh{r p:Addr}{M M':MH}{o:MO}(h:cD r M M')(hp:M' p=none):cD r M (ax M' p o):=fun a u n e=>by rw[ak (av (h a u n e) hp)];exact h a u n e
theorem cD.old{r p:Addr}{M M':MH}{o:MO}(h:cD r M M')(hp:M p=none):cD r M (ax M' p o):=fun a u n e=>by rw[ak (av e hp)];exact h a u n e
theorem cT.but{q:Str}{Pt r:Addr}{pos:Pos}{M M':MH}{ds:List D}(h:cT q Pt pos M)(hr:M r=some (.lst ds))(s:cD r M M'):cT q Pt pos M':=h.kx (xs:=[r]) (fun a u n e=>s a u (by simpa using n) e) (fun a ha A e=>by rw[show a=r by simpa using ha,hr]at e;cases e)
theorem cT.ne{q:Str}{Pt:Addr}{pos:Pos}{M:MH}(h:cT q Pt pos M):M Pt≠none:=by rcases h with h|⟨_,h,_⟩<;>rw[h]<;>exact fun z=>nomatch z
theorem cT.pb{q:Str}{Pt:Addr}{pos:Pos}{M:MH}(h:cT q Pt pos M){l:Addr}{ds:List D}(hl:M l=some (.lst ds)):l≠Pt:=fun e=>by subst e;rcases h with h|⟨_,h,_⟩<;>rw[h]at hl<;>cases hl
def j2(qs:List Pc):D:=if 40<qs.length then .tup [.str "many",.int (qs.length:Int)]else .tup (qs.map pcq)
theorem qN:∀ys:List Pc,Gy (ys.map pcP)<=10
 |[]=>Fz _
 |y::ys=>Nat.max_le.mpr ⟨nbL rfl,qN ys⟩
theorem jb:∀ys:List Pc,FP (ys.map pcP) (ys.map pcP)=true
 |[]=>rfl
 |y::ys=>by rw[EJ,FP,l9,jb ys];simp
theorem xI(qs:List Pc):∃xs,j2 qs=.tup xs:=by
 unfold j2;split
 ·exact⟨_,rfl⟩
 ·exact⟨_,rfl⟩
theorem wN(qs:List Pc)(M:MH)(Q:DK)(q:Q (.bl false) M):zq (j2 qs) (j2 qs) M Q:=by
 unfold j2;split
 ·refine⟨_,_,Pd.of rfl,Pd.of rfl,?_,?_,?_⟩
  ·simp[G2,PyData.canLay0,G5,rT,PyData.depth,Gy]
  ·simp[G2,PyData.canLay0,G5,rT,PyData.depth,Gy]
  ·rw[Ff,FP,FP,FP,qO];simpa[Ff]using q
 ·have sh:G2 (.tuple (qs.map pcP))=true:=by
   have h2:=qN qs
   unfold G2
   rw[FF]
   refine⟨by rw[PyData.canLay0];exact m5 qs,decide_eq_true ?_⟩
   rw[PyData.depth]
   omega
  refine⟨_,_,.tup (iN qs),.tup (iN qs),sh,sh,?_⟩;rw[Ff,jb];exact q
theorem Bo{α:Type}(f:α->D)(l:List α)(i:Nat)(hi:i<=l.length):cutD (l.map f) none (some (i:Int))=(l.take i).map f:=by unfold cutD;rw[HT.iP,HT.nS,E6,Nat.min_eq_left hi,Nat.sub_zero,List.drop_zero,List.map_take]
def w11(j:Nat):Wl:=(0,(j:Int),1+(j:Int).fmod 2,(j:Int))
theorem AN{j:Nat}(h:j<=25):Bw 30 (w11 j):=by have a:0<=(j:Int).fmod 2:=Int.fmod_nonneg_of_pos _ (by decide);have b:(j:Int).fmod 2<2:=Int.fmod_lt_of_pos _ (by decide);exact⟨by unfold Uok w11;dsimp only;omega,by unfold Ow w11;dsimp only;omega⟩
section
variable{X:Cx}
end
open PySem PySem.Spec PyProof.Rows L2 PySem.Builtin PySem.Builtin.Str
section
variable{X:Cx}
end
section
variable{X:Cx}{tg:Expr}
end
section
variable{X:Cx}
variable{a:Expr}{te:TD}{tl th:TOD}{lo hi:Option Expr}{pos p2:Pos}
end
theorem uu(its:List E2):slicePick its.toArray none none (some (-1))=its.reverse.toArray:=by
 unfold slicePick sliceBounds sliceRange;simp only[EI,Option.getD_some];rw[if_neg (show ¬(-1:Int)>0 by decide),if_neg (show ¬(-1:Int)>0 by decide),if_neg (show ¬(-1:Int)>0 by decide)]
 have e:(if(its.length:Int)-1 > -1 then((its.length:Int)-1 - -1 - -1-1) / - -1 else 0).toNat=its.length:=by
  split
  ·rw[show((its.length:Int)-1 - -1 - -1-1)=(its.length:Int) by omega,show(- -1:Int)=1 by rfl,Int.ediv_one];exact Int.toNat_natCast _
  ·show 0=its.length;omega
 rw[e,List.filterMap_map]
 congr 1
 have key:∀n,n<=its.length->(Fl n).filterMap ((fun i=>its.toArray[i]?)∘fun k:Nat=>((its.length:Int)-1+-1*(k:Int)).toNat)=its.reverse.take n:=fun n=>by
  induction n with
  |zero=>intro _;rfl
  |succ n ih=>
   intro h
   rw[List.range_succ,List.filterMap_append,ih (by omega),G9,List.getElem?_reverse (by omega)]
   congr 1
   have h2:its.toArray[((its.length:Int)-1+-1*(n:Int)).toNat]?=some its[its.length-1-n]:=by rw[show((its.length:Int)-1+-1*(n:Int)).toNat=its.length-1-n by omega,List.getElem?_toArray,EL (by omega)]
   rw[List.filterMap_cons_some (f:=(fun i=>its.toArray[i]?)∘fun k:Nat=>((its.length:Int)-1+-1*(k:Int)).toNat) (a:=n) (b:=its[its.length-1-n]) h2,List.filterMap_nil,EL (by omega)]
   rfl
 rw[key its.length (E9 _),List.take_of_length_le (by rw[List.length_reverse];exact E9 _)]
section
variable{X:Cx}{e st:Expr}{pos p2:Pos}
def Dm(K:E1)(te:TE)(ts:TO):TE:=fun σ H Q=>te σ H fun x H1=>ts σ H1 fun o H2=>o=some (-1)/\∃a xs,x=.ref a/\SqL K H2 a xs/\∀p,H2 p=none->Q (.ref p) (upd H2 p (.lst xs.reverse))
theorem Vals.rev:∀{xs:List V} {us:List E2},Vals xs us->Vals xs.reverse us.reverse
 |_,_,.nil=>.nil
 |_,_,.cons r q=>by
  rw[List.reverse_cons,List.reverse_cons]
  exact(Vals.rev q).append (.cons r .nil)
theorem yZ{te:TE}{ts:TO}(he:PE X e te)(hs:PO X (some st) ts):PE X (.Subscript e (.Slice none none (some st) p2) pos) (Dm X.K te ts):=by
 intro pins s σ H Q I h;refine Subscript_ (thn (he pins s σ H _ I h) fun v s1 zz1_0=>?_);obtain⟨x,H1,I1,r1,q1⟩:=zz1_0;refine wpAny_Slice ?_;rw[evalPart_none];refine E5 (E5 (thn (hs pins s1 σ H1 _ I1 q1) fun vs s3 zz2_0=>?_));obtain⟨o,H3,I3,ps,eo,a,xs,ex,hx,q3⟩:=zz2_0;subst eo ex;cases r1;obtain⟨tk,rfl⟩:∃tk,vs=Value.int (-1) tk:=by cases ps;exact⟨_,rfl⟩
 have I4:Inv X pins σ H3 { s3 with heap:=s3.heap.push { cls:=.type "slice",data:=.fields #[.none,.none,.int (-1) tk] } }:=I3.kept (t':=s3.toks) fun b ob q=>E4 _ q;obtain⟨its,r,ht,hz⟩:=I4.list hx;have hg:E8 (ED X.prog X.w) X.A (getItem (.ref a) (.ref s3.heap.objs.size)) (EP X pins σ Q) X.xe { s3 with heap:=s3.heap.push { cls:=.type "slice",data:=.fields #[.none,.none,.int (-1) tk] } }:=by refine wpAny_getItem_list_slice ht.isList (Heap.IsSliceOf.new ..) .none .none (.int _ _) (by decide) ?_ (by rw[EI];have:=r.length;omega);rw[uu];refine⟨.ref _,_,I4.laid (t':=s3.toks) (o:=.lst xs.reverse) (fun b ob q=>E4 _ q) (E9 _) ⟨by rw[List.length_reverse];exact hz,_,0,Vals.rev r,EC _ rfl⟩,rfl,q3 _ (I4.hok.fresh (E9 _))⟩
 show E8 (ED X.prog X.w) X.A (subscriptTail e (.Slice none none (some st) p2) (.ref a) (.ref s3.heap.objs.size)) (EP X pins σ Q) X.xe { s3 with heap:=s3.heap.push { cls:=.type "slice",data:=.fields #[.none,.none,.int (-1) tk] } };exact tail_any (ops:=[.ref a,.ref s3.heap.objs.size]) ht.isList.typeIs slot_list_getitem.lookup hg (by with_unfolding_all rfl)
def Ec(te:TD)(ts:TOD):TD:=fun δ M Q=>te δ M fun x M1=>ts δ M1 fun o M2=>o=some (-1)/\∃a ds,x=.ref a/\M2 a=some (.lst ds)/\∀p,M2 p=none->Q (.ref p) (ax M2 p (.lst ds.reverse))
theorem yr{te ts:TD}(he:DE X e te)(hs:DE X st ts):DE X (.Subscript e (.Slice none none (some st) p2) pos) (Ec te (qe ts)):=
 aV (yZ he (eC hs)) fun σ H Q zz3_0=>by obtain⟨δ,M,R,hs,a,q,fin⟩:=zz3_0;exact(⟨δ,M,_,hs,a,q,fun x M1 v H1 g1 r1 a1 q1=>⟨δ,M1,_,hs.mono g1,a1,q1,fun o M2 H2 g2 a2 q2=>by
  obtain⟨eo,b,ds,ex,hb,q2⟩:=q2
  subst eo ex
  have r2:=r1.mono g2
  rw[Rep]at r2
  subst r2
  obtain⟨xs,hx,rs⟩:=a2 _ _ hb
  exact⟨rfl,_,xs,rfl,SqL.of hx,fun z hz=>fin _ _ _ _ ((g1.trans g2).trans (.new hz)) (by rw[Rep]) (a2.km hz rs.rev) (q2 z (a2.fresh hz))⟩⟩⟩)
end
section
variable{X:Cx}{pins:List (Addr×Obj)}{σ:L2.St}{H:Hp}{s:E3}{a b:Addr}{k:SpK}
theorem u5{A:EX}{E:E2->E3->Prop}{Q:Unit->E3->Prop}{xs:List SpE}{v:V}{u:E2}(hu:A.units+8<FQ)(I:L2.Inv X pins σ H s)(e:H a=some (.ext (bT X.prog X.w a xs)))(hk:∀x∈xs,cL X.K H x.2.1 x.1)(hb:cL X.K H b k)(rv:RelV v u)(hl:xs.length<ER)
 (h:∀s',L2.Inv X pins σ (upd H a (.ext (bT X.prog X.w a (fO xs k b v)))) s'->Q () s'):E8 (ED X.prog X.w) A (dictSet a (.ref b) u) Q E s:=by
 obtain⟨hd,hz,ys,r,dd⟩:=pX I e hk
 refine wpAny_dictSet_heap (knd:=d3 X.prog X.w) (hsz:=by rw[<-mO r];exact hz) (show A.units+4<FQ by omega) (lG I hb) dd fun h' dd' hs=>h _ ?_
 obtain⟨q,es,ep,hq,q2,q3,q4,_,q5⟩:=dd'
 refine lL I (by rw[e];exact GB) hs ⟨q,hq⟩ ⟨⟨hd,?_,?_,_,iM r k b rv,q,es,ep,hq,q2,q3,q4⟩,⟨q,hq⟩,fun h1 h2 x y=>mj h1 h2 x y⟩
 ·have:=oY xs k b v;omega
 ·rw[<-je (iM r k b rv)];exact q5
end
theorem pL{prog:EF}{w:EZ}{A:EX}{R:Result->E3->Prop}{s:E3}{kx vx target iter:Expr}{ifs:List Expr}{scope:Gz}{pos:Pos}{it:E2}{D:Addr}{env:Env}(J:Nat->E3->Prop)
 (step:∀n s,J n s->E8 (ED prog w) A (pyNext it) (fun r s1=>match r with
  |none=>R (.ok .next) s1
  |some v=>E8 (ED prog w) A (letOwnedTupleGo target it v) (fun _ s2=>E8 (ED prog w) A (assign target env v) (fun _ s3=>
   E8 (ED prog w) A (forIn ifs true fun c r=>if r=true then do let ok <-isTrue c env (eval c env);pure (GN ok)else pure (GN r)) (fun ok s4=>
    if ok=true then E8 (ED prog w) A (eval kx env) (fun kv s5=>E8 (ED prog w) A (eval vx env) (fun vv s6=>E8 (ED prog w) A (dictSet D kv vv) (fun _ s7=>∃m,m<n/\J m s7) NoE s6) NoE s5) NoE s4
    else ∃m,m<n/\J m s4) NoE s3) NoE s2) NoE s1) NoE s)
 (n:Nat) (h:J n s):Hc (ED prog w) A (.compLoop (.DictComp kx vx [⟨target,iter,ifs,0⟩] scope pos) 0 it (.ref D) env) R s:=by
 have no:∀{E:E2->E3->Prop} e s',NoE e s'->E e s':=fun _ _ z=>z.elim
 refine codeAny_loop rfl J (fun n s hJ=>?_) n h
 show E8 _ _ (Sem.onRaise (compTurn (.DictComp kx vx [⟨target,iter,ifs,0⟩] scope pos) 0 it (.ref D) env) (fun x=>do noteFrame x env;theTreesLotGoes x)) _ _ s
 refine wpAny_noted ?_
 rw[compTurn_dict]
 refine cc (Hq (cc (ES (step n s hJ) (fun r s1 h1=>?_) no)))
 cases r with
 |none=>exact E5 h1
 |some v=>
  refine cc (ES h1 (fun _ s2 h2=>cc (ES h2 (fun _ s3 h3=>cc (ES h3 (fun ok s4 h4=>?_) no)) no)) no)
  cases ok with
  |false=>exact E5 ⟨rfl,h4⟩
  |true=>exact cc (cc (ES h4 (fun kv s5 h5=>cc (Fs (ES h5 (fun vv s6 h6=>cc (Hq (Fs (ES h6 (fun _ s7 h7=>E5 ⟨rfl,h7⟩) no)))) no))) no))
def wk(X:Cx)(js:List Nat)(own:Own)(tc:TT)(tk te:TE)(σ:L2.St)(J:It)(H1:Hp)(Q:VK):Prop:=∀D,H1 D=none->∃W:Nat->Nat->Hp->Prop,(∃m,W 0 m (upd H1 D (.ext (bT X.prog X.w D []))))/\∀i m H,W i m H->
 (J.stop i H/\Q (.ref D) H)\/(J.go i H/\∀y H',J.yld i H y H'->∃os,own y H' os/\tc (cσ os js σ) H' fun b H2=>if b=true then
  tk (cσ os js σ) H2 fun kv H3=>te (cσ os js σ) H3 fun v H4=>∃b k xs,kv=.ref b/\H4 D=some (.ext (bT X.prog X.w D xs))/\(∀x∈xs,cL X.K H4 x.2.1 x.1)/\cL X.K H4 b k/\xs.length<ER/\∃m',m'<m/\W (i+1) m' (upd H4 D (.ext (bT X.prog X.w D (fO xs k b v))))else ∃m',m'<m/\W (i+1) m' H2)
def rB(X:Cx)(js:List Nat)(own:Own)(wi:TI)(tc:TT)(tk te:TE):TE:=fun σ H Q=>wi σ H fun J H1=>wk X js own tc tk te σ J H1 Q
section
variable{X:Cx}{xs:List Str}{tg:Expr}{pos:Pos}{js:List Nat}{scope:Gz}{kx vx iter:Expr}{ifs:List Expr}{tk te:TE}{tc:TT}{g:TG}{own:Own}{wi:TI}{pins:List (Addr×Obj)}{σ:L2.St}{H:Hp}{s:E3}{fp:List Addr}{it:Addr}{tn:Nat->Heap->Prop}{J:It}
theorem sj(c:CScope X xs js scope)(hc:X.calm=true)(hG:TgOk xs.length g own)(hg:∀C s H fp,PG (cxC X xs js scope C s H fp) tg g)(ht:∀C s H fp,PTs (cxC X xs js scope C s H fp) ifs tc)(hk:∀C s H fp,PE (cxC X xs js scope C s H fp) kx tk)(he:∀C s H fp,PE (cxC X xs js scope C s H fp) vx te)(hu:X.A.units+8<FQ)
 {R:E2->Addr->Result->E3->Prop} {E:E2->E3->Prop} {Q:VK}
 (I:Inv X pins σ H s) (T:Turn X.prog X.w X.K tg J fp it tn) (st:tn 0 s.heap) (hf:∀b∈fp,cI X pins H b) (wc:wk X js own tc tk te σ J H Q)
 (hR:∀D C H' s',Inv X pins σ H' s'->cI X pins H' C->(∃m,s'.heap.Ns C m)->Q (.ref D) H'->R (.ref D) C (.ok .next) s') :
 E8 (ED X.prog X.w) X.A newDict (fun acc s₃=>E8 (ED X.prog X.w) X.A (newFunctionEnv scope X.env.globals (dS scope.names X.env) [] X.env.qual none .none (some X.env)) (fun cenv s₄=>
  Hc (ED X.prog X.w) X.A (.compStart (.DictComp kx vx [⟨tg,iter,ifs,0⟩] scope pos) 0 (.ref it) acc { cenv with scope:=relabel scope X.env }) (R acc cenv.locals) s₄) E s₃) E s:=by
 have hfp:∀b∈fp,b<s.heap.objs.size:=fun b hb=>let⟨o,e,_⟩:=T.obj 0 _ st b hb;E7 e
 have hD:H s.heap.objs.size=none:=I.hok.fresh (E9 _)
 refine Fq (sf ?_)
 generalize hh:s.heap.push { cls:=.type "dict",data:=.dict #[] }=h3
 generalize hh1:pushCells (({ s with heap:=h3 }:E3).heap.push { cls:=.type "dict",data:=.dict #[] }) scope.names=h₁
 have k3:∀b o,s.heap.get? b=some o->h3.get? b=some o:=fun b o e=>by rw[<-hh];exact E4 _ e
 have I3:Inv X pins σ (upd H s.heap.objs.size (.ext (bT X.prog X.w s.heap.objs.size []))) { s with heap:=h3 }:=by
  rw[<-hh];exact rR I
 have hf3:∀b∈fp,cI X pins (upd H s.heap.objs.size (.ext (bT X.prog X.w s.heap.objs.size []))) b:=fun b hb=>⟨by rw[az (EV (hfp b hb))];exact(hf b hb).1,(hf b hb).2⟩
 have hsz:h3.objs.size=s.heap.objs.size+1:=by rw[<-hh,G8]
 have hfp3:∀b∈fp,b<h3.objs.size:=fun b hb=>by rw[hsz];exact Nat.lt_succ_of_lt (hfp b hb)
 have k4:∀b o,h3.get? b=some o->h₁.get? b=some o:=fun b o e=>by rw[<-hh1];exact pushCells_keeps _ _ b o (E4 _ e)
 have I4:=nr c I3 hf3 hfp3 (h':=h₁) hh1.symm k4
 obtain⟨W,⟨m0,w0⟩,turn⟩:=wc _ hD
 have st4:tn 0 h₁:=T.keep 0 _ _ st fun b hb o e=>k4 b o (k3 b o e)
 generalize hX:cxC X xs js scope h3.objs.size { s with heap:=h3 } (upd H s.heap.objs.size (.ext (bT X.prog X.w s.heap.objs.size []))) fp=X' at I4
 have fok:∀{pins':List (Addr×Obj)} {H':Hp} {σ':L2.St} {s':E3},Inv X' [] σ' H' s'->(∀b∈fp,H' b=none)->∀b∈fp,cI X' [] H' b:=fun{pins' H' σ' s'} J' hn b hb=>by
  subst hX
  obtain⟨a1,a2⟩:=J'.ok.exf b hb
  exact⟨hn b hb,a1,J'.ok.exfs b hb,.inl hb,a2,fun p hp=>absurd (show p∈([]:List (Addr×Obj))from hp) (by simp)⟩
 have loop:Hc (ED X.prog X.w) X.A (.compLoop (.DictComp kx vx [⟨tg,iter,ifs,0⟩] scope pos) 0 (.ref it) (.ref s.heap.objs.size) (ku scope h3.objs.size X.env)) (R (.ref s.heap.objs.size) h3.objs.size)
  { s with heap:=h₁ }:=by
  refine pL (fun n s'=>∃i os H',os.length=xs.length/\Inv X' [] (cσ os js σ) H' s'/\tn i s'.heap/\(∀b∈fp,H' b=none)/\W i n H') ?_ m0 ⟨0,_,_,by simp,I4,st4,fun b hb=>(hf3 b hb).1,w0⟩
  rintro n s5 ⟨i,os,H5,hl5,I5,st5,fr5,w5⟩
  rcases turn i n H5 w5 with⟨stop,q⟩|⟨go,step⟩
  ·subst hX
   refine ES (T.done (cxC X xs js scope h3.objs.size { s with heap:=h3 } (upd H s.heap.objs.size (.ext (bT X.prog X.w s.heap.objs.size []))) fp) rfl rfl rfl hc i [] s5 _ H5 NoE I5 (fok (pins':=[]) I5 fr5) st5 stop) (fun r s6 zz1_0=>?_) fun _ _ z=>z
   obtain⟨hr,I6⟩:=zz1_0
   subst hr
   refine hR _ _ H5 s6 (I3.qF I6.os I6.base I6.hok I6.bare fun b hb=>⟨(hf3 b hb).2.2.2.1,(hf3 b hb).2.1,(hf3 b hb).2.2.2.2.1,(hf3 b hb).2.2.2.2.2⟩) (I3.p5 (E9 _) I6.free) (let⟨m,hm,_⟩:=I6.loc;⟨m,hm⟩) q
  ·subst hX
   refine ES (T.item (cxC X xs js scope h3.objs.size { s with heap:=h3 } (upd H s.heap.objs.size (.ext (bT X.prog X.w s.heap.objs.size []))) fp) rfl rfl rfl hc i [] s5 _ H5 NoE I5 (fok (pins':=[]) I5 fr5) st5 go) (fun r s6 zz2_0=>?_) fun _ _ z=>z
   obtain⟨u,hr,h6⟩:=zz2_0
   subst hr
   refine ES h6 (fun _ s7 zz3_0=>?_) fun _ _ z=>z
   obtain⟨y,H7,I7,r7,y7,st7,fr7⟩:=zz3_0
   have I7':=I7.pinned (fok (pins':=[]) I7 fr7) (T.obj _ _ st7)
   obtain⟨os8,ow8,q8⟩:=step y H7 y7
   have l8:=hG.len _ _ _ ow8
   refine ES (hg _ _ _ _ _ s7 _ H7 y u (fun σ' H'=>σ'=cσ os8 js σ/\H'=H7) I7' r7 (hG.run y H7 os _ os8 _ hl5 ow8 ⟨rfl,rfl⟩)) (fun _ s8 zz4_0=>?_) fun _ _ z=>z
   obtain⟨σ8,H8,I8,e8,e8'⟩:=zz4_0
   subst e8 e8'
   refine ES (ht _ _ _ _ _ s8 _ _ _ I8 q8) (fun ok s9 zz5_0=>?_) fun _ _ z=>z
   obtain⟨H9,I9,q9⟩:=zz5_0
   have back:∀{m':Nat} {H10:Hp} {s10:E3},Inv (cxC X xs js scope h3.objs.size { s with heap:=h3 } (upd H s.heap.objs.size (.ext (bT X.prog X.w s.heap.objs.size []))) fp) ([]++ib fp s7.heap) (cσ os8 js σ) H10 s10->m'<n->W (i+1) m' H10->
    ∃m,m<n/\∃i os H',os.length=xs.length/\Inv (cxC X xs js scope h3.objs.size { s with heap:=h3 } (upd H s.heap.objs.size (.ext (bT X.prog X.w s.heap.objs.size []))) fp) [] (cσ os js σ) H' s10/\tn i s10.heap/\(∀b∈fp,H' b=none)/\W i m H':=fun{m' H10 s10} I10 hm' w10=>by
    refine⟨m',hm',i+1,os8,H10,l8,I10.fu,T.keep _ _ _ st7 fun b hb o e=>(I10.pin (b,o) (F7 _ (F7 _ (cB hb e)))).1,fun b hb=>?_,w10⟩
    obtain⟨o',e,d⟩:=T.obj _ _ st7 b hb
    exact(I10.pin (b,o') (F7 _ (F7 _ (cB hb e)))).2.1
   cases ok with
   |false=>
    rw[if_neg ET]at q9 ⊢
    obtain⟨m',hm',w9⟩:=q9
    exact back I9 hm' w9
   |true=>
    rw[if_pos rfl]at q9 ⊢
    refine ES (hk _ _ _ _ _ s9 _ _ _ I9 q9) (fun kv s10 zz6_0=>?_) fun _ _ z=>z
    obtain⟨kk,H10,I10,r10,q10⟩:=zz6_0
    refine ES (he _ _ _ _ _ s10 _ _ _ I10 q10) (fun v s11 zz7_0=>?_) fun _ _ z=>z
    obtain⟨vv,H11,I11,r11,b,k,ys,ek,hd11,hks,hkb,hl11,m',hm',w11⟩:=zz7_0
    subst ek
    cases r10
    exact u5 (X:=cxC X xs js scope h3.objs.size { s with heap:=h3 } (upd H s.heap.objs.size (.ext (bT X.prog X.w s.heap.objs.size []))) fp) hu I11 hd11 hks hkb r11 hl11 fun s12 I12=>back I12 hm' w11
 exact codeAny_compStart_dict loop (T.self X.A 0 _ _ _ st4 loop)
theorem xg(c:CScope X xs js scope)(hc:X.calm=true)(hi:PI X tg iter wi)(hG:TgOk xs.length g own)(hg:∀C s H fp,PG (cxC X xs js scope C s H fp) tg g)(ht:∀C s H fp,PTs (cxC X xs js scope C s H fp) ifs tc)(hk:∀C s H fp,PE (cxC X xs js scope C s H fp) kx tk)(he:∀C s H fp,PE (cxC X xs js scope C s H fp) vx te)(hu:X.A.units+8<FQ)(hs:∀x,FG iter X.env x=pure x:=by intro _;rfl) : PE X (.DictComp kx vx [⟨tg,iter,ifs,0⟩] scope pos) (rB X js own wi tc tk te):=by intro pins s σ H Q I h;rw[arm_eval_DictComp];refine wpAny_comprehension_free (use:=none) rfl hs (c.Aw I.ok) c.kind c.names (thn (hi pins s σ H _ I h) fun v s1 h1=>thn h1 fun itv s2 zz8_0=>?_);obtain⟨it,fp,tn,J,H2,e,I2,T,st,f2,w⟩:=zz8_0;subst e;refine sj (R:=fun acc C=>compPost (ED X.prog X.w) X.A X.xe none (EP X pins σ Q) acc C) c hc hG hg ht hk he hu I2 T st f2 w fun D C H' s' I' fC zz9_0 q=>?_;obtain⟨m,hm⟩:=zz9_0;exact⟨m,hm,fun h' hsb=>⟨.ref D,H',I'.turned (t':=s'.toks) (fun b o ne e=>hsb.extBut b o ne e) fC.1 fC.2.1 fC.2.2.2.1 fC.2.2.2.2.1 fC.2.2.2.2.2,rfl,q⟩⟩
end
def A8(I:ItD)(tk:Tgt)(js:List Nat)(tc:TTD)(tx te:TD)(δ:DS)(M1:MH)(Q:DK):Prop:=I.n<=900000/\∀p,M1 p=none->∃W:Nat->SpT->MH->Prop,W 0 [] (ax M1 p (dsM []))/\(∀i kvs M,i<=I.n->W i kvs M->I.C M)/\
 (∀i kvs d M,i<I.n->I.item i=some d->W i kvs M->∃os,vQ tk d os/\tc (cδ os js δ) M fun b M2=>if b=true then tx (cδ os js δ) M2 fun y M3=>te (cδ os js δ) M3 fun e M4=>∃k,y=spD k/\M4 p=some (dsM kvs)/\kvs.length<=i/\W (i+1) (putD kvs k e) (ax M4 p (dsM (putD kvs k e)))else W (i+1) kvs M2)/\∀kvs M,W I.n kvs M->Q (.ref p) M
def rJ(wd:TID)(tk:Tgt)(js:List Nat)(tc:TTD)(tx te:TD):TD:=fun δ M Q=>wd δ M fun I M1=>A8 I tk js tc tx te δ M1 Q
section
variable{X:Cx}
theorem qj{wd:TID}{tk:Tgt}{js:List Nat}{tc:TTD}{tx te:TD}{σ:L2.St}{H:Hp}{Q:VK}(h:lift X.K (rJ wd tk js tc tx te) σ H Q):rB X js (p7 X.K tk) (qD X.K wd) (liftT X.K tc) (lift X.K tx) (lift X.K te) σ H Q:=by
 obtain⟨δ,M,R,hs,hM,q,fin⟩:=h;refine⟨δ,M,_,hs,hM,q,fun I M1 H1 J g1 a1 kc io p hp=>?_⟩;obtain⟨hn,kc⟩:=kc;obtain⟨W,w0,hC,turn,done⟩:=kc p (a1.fresh hp);refine⟨fun i m H2=>m=I.n-i/\i<=I.n/\Grow X.K H1 H2/\∃kvs M,Abs X.K H2 M/\W i kvs M,⟨I.n,by simp,Fz _,.new hp,[],_,a1.zv _ _ hp,w0⟩,?_⟩;rintro i m H2 ⟨rfl,hi,g2,kvs,M2,a2,w2⟩;by_cases hin:i<I.n
 ·refine .inr ⟨io.go i H2 M2 hin g2 a2 (hC _ _ _ hi w2),fun v H3 hy=>?_⟩;obtain⟨g3,a3,d,ed,rd⟩:=io.yld i H2 M2 v H3 hin g2 a2 (hC _ _ _ hi w2) hy;obtain⟨os,ow,q3⟩:=turn i kvs d M2 hin ed w2;obtain⟨us,uv,su⟩:=nF rd ow;have s3:=rK (js:=js) (hs.mono ((g1.trans g2).trans g3)) su;refine⟨us,uv,cδ os js δ,M2,_,s3,a3,q3,fun b M4 H4 g4 a4 q4=>?_⟩;cases b with
  |false=>
   rw[if_neg ET]at q4 ⊢
   exact⟨I.n-(i+1),by omega,rfl,hin,(g2.trans g3).trans g4,kvs,M4,a4,q4⟩
  |true=>
   rw[if_pos rfl]at q4 ⊢
   refine⟨cδ os js δ,M4,_,s3.mono g4,a4,q4,fun y M5 u H5 g5 r5 a5 q5=>⟨cδ os js δ,M5,_,(s3.mono g4).mono g5,a5,q5,fun e M6 u6 H6 g6 r6 a6 zz12_0=>?_⟩⟩
   obtain⟨k,ey,e6,hl6,w6⟩:=zz12_0
   subst ey
   obtain⟨b,rfl,sp⟩:=lI (r5.mono g6)
   obtain⟨xs,h1,h2,h3,h4⟩:=a6.dsp e6
   have hlen:xs.length=kvs.length:=by have:=congrArg List.length h2;simpa using this
   have sz:1000000<=ER:=nbL rfl
   have g7:Grow X.K H6 (upd H6 p (.ext (bT X.prog X.w p (fO xs k b u6)))):=.ext (h1 X.prog X.w)
   exact⟨b,k,xs,rfl,h1 _ _,h3,sp,by omega,I.n-(i+1),by omega,rfl,hin,((((g2.trans g3).trans g4).trans g5).trans g6).trans g7,putD kvs k e,_,a6.zN _ _ h1 h2 h4 h3 sp r6,w6⟩
 ·obtain rfl:i=I.n:=by omega
  exact .inl ⟨io.stop H2 M2 g2 a2 (hC _ _ _ hi w2),fin _ _ _ _ (g1.trans g2) (by rw[Rep]) a2 (done kvs M2 w2)⟩
variable{xs:List Str}{tg:Expr}{pos:Pos}{js:List Nat}{scope:Gz}{kx vx iter:Expr}{ifs:List Expr}{tx te:TD}{tc:TTD}{g:TG}{tk:Tgt}{wd:TID}
end
section
variable{X:Cx}{pins:List (Addr×Obj)}{σ:L2.St}{H:Hp}{s:E3}
theorem dM{h':Heap}{t':Nat}{ch:List Addr}(I:Inv X pins σ H s)(k:∀b o,b∉ch->s.heap.get? b=some o->h'.get? b=some o)(f:∀b∈ch,cI X pins H b):Inv X pins σ H { s with heap:=h',toks:=t' }:=by
 have ne:∀b u,H b=some u->b∉ch:=fun b u q hb=>by rw[(f b hb).1]at q;cases q
 refine I.step (g':=s.gens) (d':=s.drawn) (ch:=ch) (fun b hb=>?_) (fun b o _ _ hc q _=>k b o hc q) (fun b o _ _ hc q _=>⟨o.slots,k b o hc q⟩) (fun _ _ _ _ n=>n) (fun b o hc q=>⟨o,k b o hc q⟩) (fun _ _ q=>q) (fun _ _ _ q=>q) (fun b ps q=>⟨#[],by rw[q];simp⟩) (fun m hm=>?_) (fun b u q=>?_) I.bare
 ·obtain⟨e0,e1,_,e3,e4,e5⟩:=f b hb;exact⟨e3,e1,e4,e5⟩
 ·obtain⟨o,es,ep,ho,r⟩:=hm;exact⟨o,es,ep,k _ o (fun hb=>(f _ hb).2.1 rfl) ho,r⟩
 ·refine(I.hok b u q).dq (fun c v hc z=>?_) (fun _ z=>z) fun _ _ z=>z;rcases hc with y|y
  ·subst y;exact k _ v (ne _ u q) z
  ·exact k c v (ne c _ y) z
end
def Itz(K:E1)(a b:Addr):It:=
 ⟨fun i H=>∃xs ys x y,SqL K H a xs/\SqL K H b ys/\xs[i]?=some x/\ys[i]?=some y,fun i H x H'=>∃T y z,x=.ref T/\H T=none/\H'=upd H T (.tup [y,z])/\(∀xs,SqL K H a xs->xs[i]?=some y)/\∀ys,SqL K H b ys->ys[i]?=some z,fun i H=>∃xs ys,SqL K H a xs/\SqL K H b ys/\(xs.length<=i\/ys.length<=i)⟩
theorem wC{P:EF}{w:EZ}{K:E1}{elts:List Expr}{kt}{pt:Pos}(a b z TI TO i1 i2:Addr)(D:ZipApart z TI TO i1 i2 a b):Turn P w K (.Tuple elts kt pt) (Itz K a b) [z,TI,TO,i1,i2] z (fun i h=>IsZip h z TI TO .none/\IsPair h TI (.ref i1) (.ref i2)/\(∃p q,IsPair h TO p q)/\h.IsListIter i1 a i/\h.IsListIter i2 b i) where
 mem:=by simp
 obj:=fun i h st c hc=>by
  obtain⟨h1,h2,⟨p,q,h3⟩,h4,h5⟩:=st
  rcases(show c=z\/c=TI\/c=TO\/c=i1\/c=i2 by simpa using hc)with rfl|rfl|rfl|rfl|rfl
  ·exact⟨_,h1,fun v y=>by cases (show Data.fields _=Data.cell v from y)⟩
  ·exact⟨_,h2,fun v y=>by cases (show Data.seq _ _=Data.cell v from y)⟩
  ·exact⟨_,h3,fun v y=>by cases (show Data.seq _ _=Data.cell v from y)⟩
  ·obtain⟨o,q1,_,d⟩:=h4
   exact⟨o,q1,fun v y=>by rw[d]at y;cases y⟩
  ·obtain⟨o,q1,_,d⟩:=h5
   exact⟨o,q1,fun v y=>by rw[d]at y;cases y⟩
 keep:=fun i h h' st k=>by
  obtain⟨h1,h2,⟨p,q,h3⟩,h4,h5⟩:=st
  exact⟨k z (by simp) _ h1,k TI (by simp) _ h2,⟨p,q,k TO (by simp) _ h3⟩,h4.at fun o y=>k i1 (by simp) o y,h5.at fun o y=>k i2 (by simp) o y⟩
 item:=by
  intro X hP hw hK hc i pins s σ H E I hf st hg
  subst hP hw hK
  obtain⟨xs,ys,x,y,hq1,hq2,hx,hy⟩:=hg
  obtain⟨h1,h2,⟨p,q,h3⟩,h4,h5⟩:=st
  obtain⟨its1,rv1,p1,hz1⟩:=I.list hq1
  obtain⟨its2,rv2,p2,hz2⟩:=I.list hq2
  obtain⟨u1,hu1,ru1⟩:=rv1.get hx
  obtain⟨u2,hu2,ru2⟩:=rv2.get hy
  refine wpAny_pyNext_zip_item D h1 h2 h3 h4 h5 p1.isList p2.isList (x:=u1) (y:=u2) (by simpa using hu1) (by simpa using hu2) fun h' a1 a2 a3 a4 a5 a6 a7=>⟨_,rfl,wpAny_letOwnedTupleGo_zip (s:={ s with heap:=h' }) a1 fun h'' b1 b2=>?_⟩
  have b2:Hi z h' h'':=b2
  have fr:=I.fresh
  have lt:∀c∈[z,TI,TO,i1,i2],c<s.heap.objs.size:=fun c hc=>by
   rcases(show c=z\/c=TI\/c=TO\/c=i1\/c=i2 by simpa using hc)with rfl|rfl|rfl|rfl|rfl
   ·exact E7 h1
   ·exact E7 h2
   ·exact E7 h3
   ·obtain⟨o,q1,_⟩:=h4;exact E7 q1
   ·obtain⟨o,q1,_⟩:=h5;exact E7 q1
  have I1:Inv X pins σ (upd H s.heap.objs.size (.tup [x,y])) { s with heap:=s.heap.push { cls:=.type "tuple",data:=.seq #[u1,u2] },toks:=s.toks }:=
   I.laid (fun b v q=>E4 _ q) (E9 _) ⟨nbL rfl,[u1,u2],.cons ru1 (.cons ru2 .nil),⟨_,EC _ rfl,rfl,_,rfl⟩⟩
  have fk:∀c∈[z,TI,TO,i1,i2],cI X pins (upd H s.heap.objs.size (.tup [x,y])) c:=fun c hc=>⟨by rw[az (EV (lt c hc))];exact(hf c hc).1,(hf c hc).2⟩
  have I2:Inv X pins σ (upd H s.heap.objs.size (.tup [x,y])) { s with heap:=h'',toks:=s.toks }:=by
   refine dM (ch:=[z,TO,i1,i2]) (s:={ s with heap:=s.heap.push { cls:=.type "tuple",data:=.seq #[u1,u2] },toks:=s.toks }) I1 (fun c o nc q=>?_) fun c hc=>fk c (by simp at hc ⊢;rcases hc with rfl|rfl|rfl|rfl<;>simp)
   have q:(s.heap.push { cls:=.type "tuple",data:=.seq #[u1,u2] }).get? c=some o:=q
   simp at nc
   refine(b2.2 c nc.1).trans ?_
   rcases Heap.get?_push_cases q with⟨rfl,rfl⟩|q
   ·exact a5
   ·exact a7 c o nc.1 nc.2.1 nc.2.2.1 nc.2.2.2 q
  have kz:∀c o,c≠z->h'.get? c=some o->h''.get? c=some o:=fun c o n e=>(b2.2 c n).trans e
  refine⟨.ref s.heap.objs.size,_,I2,rfl,⟨_,x,y,rfl,fr,rfl,fun zs hzs=>by rw[I.d0 hzs hq1];exact hx,fun zs hzs=>by rw[I.d0 hzs hq2];exact hy⟩,⟨b1,kz _ _ D.TIz (a7 _ _ D.TIz D.TITO D.TIi1 D.TIi2 h2),⟨_,_,kz _ _ D.TOz a2⟩,a3.at fun o e=>kz _ o D.i1z e,a4.at fun o e=>kz _ o D.i2z e⟩,fun c hc=>(fk c hc).1⟩
 done:=by
  intro X hP hw hK hc i pins s σ H E I hf st hg
  subst hP hw hK
  obtain⟨xs,ys,hq1,hq2,he⟩:=hg
  obtain⟨h1,h2,⟨p,q,h3⟩,h4,h5⟩:=st
  obtain⟨its1,rv1,p1,hz1⟩:=I.list hq1
  obtain⟨its2,rv2,p2,hz2⟩:=I.list hq2
  have l1:=rv1.length
  have l2:=rv2.length
  refine wpAny_pyNext_zip_end (I.ok.hd hc) D h1 h2 h3 h4 h5 p1.isList p2.isList (he.imp (fun e=>by simp;omega) fun e=>by simp;omega) fun h' k=>⟨rfl,?_⟩
  exact dM (t':=s.toks) (ch:=[z,TO,i1,i2]) I (fun c o nc q=>by simp at nc;exact k c o nc.1 nc.2.1 nc.2.2.1 nc.2.2.2 q) fun c hc=>hf c (by simp at hc ⊢;rcases hc with rfl|rfl|rfl|rfl<;>simp)
 self:=fun _ _ _ _ _ st h=>wpAny_pyIter_zip st.1 h
theorem vK{n l1 l2:Nat}(a1:l1<n)(a2:l2<n):ZipApart (n+4) (n+2) (n+3) n (n+1) l1 l2:=by constructor<;>exact fun e=>absurd (id e:@Eq Nat _ _) (by omega)
theorem wI:Fp "zip"=some (.type "zip"):=by decide +kernel
section
variable{X:Cx}{elts:List Expr}{kt:Nat}{pt:Pos}
def BM(K:E1)(ta:TA):TI:=fun σ H R=>ta σ H fun vs H1=>∃a b xs ys,vs=[.ref a,.ref b]/\H1 a=some (.lst xs)/\H1 b=some (.lst ys)/\R (Itz K a b) H1
theorem AO{a b:Expr}{ta:TA}{p pos:Pos}(hg:Gl X "zip")(hm:X.mg "zip"=none)(ha:PA X [a,b] ta)(hs:EH [a,b] X.env=(false,eval a X.env)::EH [b] X.env:=by rfl)(hpl:(G6 pos (EH [b] X.env)).any (·.1)=false:=by rfl):PI X (.Tuple elts kt pt) (.Call (.Name "zip" p) [a,b] [] pos) (BM X.K ta):=by
 intro pins s σ H R I h;refine Call_ (fx I hg hm wI (Gn (thn (ha pos pins s σ H _ I h) fun us s1 zz1_0=>?_) hs hpl));obtain⟨vs,H1,I1,r1,q1⟩:=zz1_0;obtain⟨l1,l2,xs,ys,ev,hH1,hH2,q⟩:=q1;subst ev;obtain⟨u1,u2,rfl,ru1,ru2⟩:=vals2 r1;cases ru1;cases ru2;obtain⟨z1,its1,n1,rr1,hl1,e1⟩:=I1.kh hH1;obtain⟨z2,its2,n2,rr2,hl2,e2⟩:=I1.kh hH2;have L1:s1.heap.IsList l1 its1.toArray:=⟨_,e1,rfl,n1,rfl⟩;have L2:s1.heap.IsList l2 its2.toArray:=⟨_,e2,rfl,n2,rfl⟩;have lt1:=E7 e1;have lt2:=E7 e2;refine call_zip_2 L1 L2 fun h' hz hTI hTO hi1 hi2 hsz hk=>wpAny_pyIter_zip hz ?_
 have fp:∀b∈[s1.heap.objs.size+4,s1.heap.objs.size+2,s1.heap.objs.size+3,s1.heap.objs.size,s1.heap.objs.size+1],cI X pins H1 b:=fun b hb=>by
  have hb':s1.heap.objs.size<=b:=by simp at hb;rcases hb with rfl|rfl|rfl|rfl|rfl<;>first|exact Nat.le_add_right _ _|exact E9 _
  exact I1.p5 hb' (I1.hok.fresh hb')
 have D:ZipApart (s1.heap.objs.size+4) (s1.heap.objs.size+2) (s1.heap.objs.size+3) s1.heap.objs.size (s1.heap.objs.size+1) l1 l2:=by exact vK lt1 lt2
 exact⟨_,_,_,_,H1,rfl,I1.kept (t':=s1.toks) hk,wC l1 l2 _ _ _ _ _ D,⟨hz,hTI,⟨_,_,hTO⟩,hi1,hi2⟩,fp,q⟩
def xQ(ta:TAD):TID:=fun δ M R=>ta δ M fun ds M1=>∃a b es fs,ds=[.ref a,.ref b]/\M1 a=some (.lst es)/\M1 b=some (.lst fs)/\R ⟨min es.length fs.length,fun i=>(es[i]?).bind fun d=>(fs[i]?).map fun e=>.tup [d,e],fun M=>M a=some (.lst es)/\M b=some (.lst fs)⟩ M1
theorem ou{K:E1}{ta:TAD}:∀(σ:L2.St) (H:Hp) R,qD K (xQ ta) σ H R->BM K (uF K ta) σ H R:=
 fun σ H R ⟨δ,M,RD,hs,hM,q,fin⟩=>⟨δ,M,_,hs,hM,q,fun ds M1 vs H1 g1 r1 a1 ⟨l1,l2,es,fs,e,hl1,hl2,q1⟩=>by
  subst e
  obtain⟨v1,v2,rfl,r,r'⟩:=dJ r1
  rw[Rep]at r r';subst r r'
  obtain⟨xs,hx,rs⟩:=a1 _ _ hl1
  obtain⟨ys,hy,rt⟩:=a1 _ _ hl2
  refine⟨l1,l2,xs,ys,rfl,hx,hy,fin _ M1 H1 _ g1 a1 q1 ⟨fun H2 M2 g2 a2 c2=>?_,fun i H2 M2 hi g2 a2 c2=>?_,?_⟩⟩
  ·obtain⟨c3,c4⟩:=(show M2 l1=some (.lst es)/\M2 l2=some (.lst fs)from c2)
   obtain⟨xs2,hx2,rx2⟩:=a2 _ _ c3
   obtain⟨ys2,hy2,ry2⟩:=a2 _ _ c4
   refine⟨xs2,ys2,SqL.of hx2,SqL.of hy2,?_⟩
   show xs2.length<=min es.length fs.length\/ys2.length<=min es.length fs.length
   rw[<-rx2.length,<-ry2.length];omega
  ·obtain⟨c3,c4⟩:=(show M2 l1=some (.lst es)/\M2 l2=some (.lst fs)from c2)
   obtain⟨xs2,hx2,rx2⟩:=a2 _ _ c3
   obtain⟨ys2,hy2,ry2⟩:=a2 _ _ c4
   have hi:i<min es.length fs.length:=hi
   have h1:i<xs2.length:=by rw[<-rx2.length];omega
   have h2:i<ys2.length:=by rw[<-ry2.length];omega
   exact⟨xs2,ys2,xs2[i],ys2[i],SqL.of hx2,SqL.of hy2,by simp[h1],by simp[h2]⟩
  ·rintro i H2 M2 v H3 hi g2 a2 c2 ⟨T,y,z,rfl,hT,rfl,hy,hz⟩
   obtain⟨c3,c4⟩:=(show M2 l1=some (.lst es)/\M2 l2=some (.lst fs)from c2)
   have hi:i<min es.length fs.length:=hi
   have he:i<es.length:=by omega
   have hf:i<fs.length:=by omega
   obtain⟨xs2,hx2,rx2⟩:=a2 _ _ c3
   obtain⟨ys2,hy2,ry2⟩:=a2 _ _ c4
   obtain⟨x,e1,e2⟩:=rx2.get (show es[i]?=some es[i] by simp[he])
   obtain⟨x',e1',e2'⟩:=ry2.get (show fs[i]?=some fs[i] by simp[hf])
   have t1:=hy xs2 (SqL.of hx2)
   have t2:=hz ys2 (SqL.of hy2)
   rw[e1]at t1;cases t1
   rw[e1']at t2;cases t2
   exact⟨.new hT,a2.new hT,.tup [es[i],fs[i]],by simp[he,hf],by rw[Rep];exact⟨T,_,rfl,SqT.of ay,.cons (e2.mono (.new hT)) (.cons (e2'.mono (.new hT)) .nil)⟩⟩⟩
theorem wR{a b:Expr}{ta:TAD}{p pos:Pos}(hg:Gl X "zip")(hm:X.mg "zip"=none)(ha:DA X [a,b] ta)(hs:EH [a,b] X.env=(false,eval a X.env)::EH [b] X.env:=by rfl)(hpl:(G6 pos (EH [b] X.env)).any (·.1)=false:=by rfl):DI X (.Tuple elts kt pt) (.Call (.Name "zip" p) [a,b] [] pos) (xQ ta):=jN (AO hg hm ha hs hpl) ou
end
abbrev IsZ(h:Heap)(z TI TO:Addr)(f0 f1:E2):Prop:=h.get? z=some { cls:=.type "zip",dict:=none,data:=.fields #[f0,f1,.bool false,.ref TI,.ref TO],slots:=#[] }
def uh(f0:E2):Prop:=f0=.none\/∃a:Nat,f0=Gg a
section
variable{prog:EF}{w:EZ}{A:EX}{E:E2->E3->Prop}{s:E3}{z TI TO i1 i2 l1 l2:Addr}{k1 k2:Nat}{xs ys:Array E2}{f0 f1:E2}
theorem alive{a:Addr}{Q:Option Obj->E3->Prop}(h:Q (s.heap.get? a) s):E8 (ED prog w) A (loadIfAlive a) Q E s:=by exact fun _ _ _=>h
theorem rS{Q:Bool->E3->Prop}(o:uh f0)(hz:IsZ s.heap z TI TO f0 f1)(h1:Q true s)(h2:∀h' f1',IsZ h' z TI TO f0 f1'->Hi z s.heap h'->Q false { s with heap:=h' }):E8 (ED prog w) A (Ga (.ref z)) Q E s:=by
 unfold Ga;rcases o with rfl|⟨a,rfl⟩
 ·exact cc (GH hz rfl (x:=.none) rfl (E5 h1))
 ·refine cc (GH hz rfl (x:=Gg a) rfl ?_);show E8 _ _ (loadIfAlive ((a:Int).toNat) >>= _) _ _ _;rw[Int.toNat_natCast];refine cc (alive ?_);cases s.heap.get? a with
  |none=>
   simp only[Option.isNone_none,if_true]
   exact E5 h1
  |some oa=>
   simp only[Option.isNone_some,EO,if_false]
   refine cc (GH hz rfl (x:=f1) rfl ?_)
   by_cases hf:(f1 != FY true)=true
   ·rw[if_pos hf];exact cc (GD hz (by simp) fun h' hz' hs'=>E5 (h2 h' (.bool true) hz' hs'))
   ·rw[if_neg hf];exact E5 (h2 s.heap f1 hz (Heap.SameBut.refl _ _))
def C1(h:Heap)(z TI TO i1 i2 a b:Addr)(i:Nat):Prop:=(∃f0 f1,uh f0/\IsZ h z TI TO f0 f1)/\IsPair h TI (.ref i1) (.ref i2)/\(∃p q,IsPair h TO p q)/\h.IsListIter i1 a i/\h.IsListIter i2 b i
theorem tD{x y a b:E2}{Q:E2->E3->Prop}(D:ZipApart z TI TO i1 i2 l1 l2)(o:uh f0)
 (hz:IsZ s.heap z TI TO f0 f1) (hTI:IsPair s.heap TI (.ref i1) (.ref i2)) (hTO:IsPair s.heap TO a b)
 (h1:s.heap.IsListIter i1 l1 k1) (h2:s.heap.IsListIter i2 l2 k2) (hl1:s.heap.IsList l1 xs) (hl2:s.heap.IsList l2 ys) (hx:xs[k1]?=some x) (hy:ys[k2]?=some y)
 (hQ:∀h' f0' f1',uh f0'->IsZ h' z TI TO f0' f1'->(∃p q,IsPair h' TO p q)->h'.IsListIter i1 l1 (k1+1)->h'.IsListIter i2 l2 (k2+1)->IsPair h' s.heap.objs.size x y->h'.objs.size=s.heap.objs.size+1->
  (∀c o,c≠z->c≠TO->c≠i1->c≠i2->s.heap.get? c=some o->h'.get? c=some o)->Q (.ref s.heap.objs.size) { s with heap:=h' }) :
 E8 (ED prog w) A (Hm.«zip.__next__» ⟨[.ref z],[]⟩) (fun fin s'=>∃v,fin=.done (.ret v)/\Q v s') E s:=by
 show E8 _ _ (field (.ref z) 2 >>= _) _ _ _
 refine cc (GH hz rfl (x:=.bool false) rfl ?_)
 show E8 _ _ (field (.ref z) 3 >>= _) _ _ _
 refine cc (GH hz rfl (x:=.ref TI) rfl ?_)
 refine cc (Fx hTI rfl ?_)
 show E8 _ _ (Ga (.ref z) >>= _) _ _ _
 refine cc (rS o hz ?_ fun h₁ f1' hz₁ hs₁=>?_)
 ·simp only[if_true]
  refine cc (wpAny_rule ?_)
  refine cc (GH hz rfl (x:=.ref TO) rfl ?_)
  refine cc (GD hz (by simp) fun h₁ hz₁ hs₁=>?_)
  replace hz₁:IsZ h₁ z TI TO .ellipsis f1:=hz₁
  refine cc ?_
  simp only[List.zipIdx_cons,List.zipIdx_nil,FW,FZ]
  refine cc (cc (wpAny_onRaise ?_))
  show E8 _ _ (FE (.ref i1) >>= _) _ _ _
  refine cc (Gu (h1.extBut hs₁.extBut D.i1z) (hl1.extBut hs₁.extBut D.l1z) hx fun h₂ h1₂ hs₂=>E5 ?_)
  have hTO₂:IsPair h₂ TO a b:=hs₂.extBut _ _ D.TOi1 (hs₁.extBut _ _ D.TOz hTO)
  refine cc (Fx hTO₂ rfl ?_)
  refine cc (wpAny_updateSeq_pair hTO₂ fun h₃ hTO₃ hs₃=>?_)
  replace hTO₃:IsPair h₃ TO x b:=hTO₃
  refine cc (Gw (E5 ?_))
  refine cc (cc (wpAny_onRaise ?_))
  show E8 _ _ (FE (.ref i2) >>= _) _ _ _
  refine cc (Gu (((h2.extBut hs₁.extBut D.i2z).extBut hs₂.extBut D.i12.symm).extBut hs₃.extBut D.TOi2.symm)
   (((hl2.extBut hs₁.extBut D.l2z).extBut hs₂.extBut D.l2i1).extBut hs₃.extBut D.l2TO) hy fun h₄ h2₄ hs₄=>E5 ?_)
  have hTO₄:IsPair h₄ TO x b:=hs₄.extBut _ _ D.TOi2 hTO₃
  refine cc (Fx hTO₄ rfl ?_)
  refine cc (wpAny_updateSeq_pair hTO₄ fun h₅ hTO₅ hs₅=>?_)
  replace hTO₅:IsPair h₅ TO x y:=hTO₅
  refine cc (Gw (E5 (E5 ?_)))
  refine cc (Fx hTO₅ rfl ?_)
  refine cc (wpAny_newTuple ?_)
  have hsz:h₅.objs.size=s.heap.objs.size:=by rw[hs₅.1,hs₄.1,hs₃.1,hs₂.1,hs₁.1]
  have hz₅:IsZ h₅ z TI TO .ellipsis f1:=hs₅.extBut _ _ D.TOz.symm (hs₄.extBut _ _ D.i2z.symm (hs₃.extBut _ _ D.TOz.symm (hs₂.extBut _ _ D.i1z.symm hz₁)))
  have hk₅:∀c o,c≠z->c≠TO->c≠i1->c≠i2->s.heap.get? c=some o->h₅.get? c=some o:=fun c o c1 c2 c3 c4 e=>
   hs₅.extBut _ _ c2 (hs₄.extBut _ _ c4 (hs₃.extBut _ _ c2 (hs₂.extBut _ _ c3 (hs₁.extBut _ _ c1 e))))
  have h1₅:h₅.IsListIter i1 l1 (k1+1):=((h1₂.extBut hs₃.extBut D.TOi1.symm).extBut hs₄.extBut D.i12).extBut hs₅.extBut D.TOi1.symm
  have h2₅:h₅.IsListIter i2 l2 (k2+1):=h2₄.extBut hs₅.extBut D.TOi2.symm
  have hzlt:z<h₅.objs.size:=E7 hz₅
  show E8 _ _ (Builtin.SmallTypes.ownedTupleHandOut (.ref z) (.ref h₅.objs.size) >>= _) _ _ _
  refine cc ?_
  unfold Builtin.SmallTypes.ownedTupleHandOut
  have hz₆:IsZ (h₅.push { cls:=.type "tuple",data:=.seq #[x,y] }) z TI TO .ellipsis f1:=E4 _ hz₅
  refine cc (GD hz₆ (by simp) fun h₇ hz₇ hs₇=>?_)
  replace hz₇:IsZ h₇ z TI TO (Gg h₅.objs.size) f1:=hz₇
  refine GD hz₇ (by simp) fun h₈ hz₈ hs₈=>?_
  replace hz₈:IsZ h₈ z TI TO (Gg h₅.objs.size) (.bool false):=hz₈
  have up:∀c o,c≠z->h₅.get? c=some o->h₈.get? c=some o:=fun c o c1 e=>hs₈.extBut _ _ c1 (hs₇.extBut _ _ c1 (E4 _ e))
  have hT₈:IsPair h₈ h₅.objs.size x y:=hs₈.extBut _ _ (Nat.ne_of_gt hzlt) (hs₇.extBut _ _ (Nat.ne_of_gt hzlt) (EC _ rfl))
  have hz8:h₈.objs.size=h₅.objs.size+1:=by rw[hs₈.1,hs₇.1,G8]
  rw[hsz]at hz₈ hT₈ hz8
  refine E5 ⟨_,rfl,?_⟩
  show Q (.ref h₅.objs.size) _
  rw[hsz]
  exact hQ h₈ _ _ (.inr ⟨_,rfl⟩) hz₈ ⟨_,_,up _ _ D.TOz hTO₅⟩ (h1₅.at fun o e=>up _ o D.i1z e) (h2₅.at fun o e=>up _ o D.i2z e) hT₈ hz8 fun c o c1 c2 c3 c4 e=>up c o c1 (hk₅ c o c1 c2 c3 c4 e)
 ·simp only[EO,if_false,<-FV]
  refine cc ?_
  simp only[FW,FZ,FT,Hb]
  refine cc (Fs ?_)
  show E8 _ _ (FE (.ref i1) >>= _) _ _ _
  refine cc (Gu (h1.extBut hs₁.extBut D.i1z) (hl1.extBut hs₁.extBut D.l1z) hx fun h₂ h1₂ hs₂=>E5 ?_)
  simp only[FT]
  refine cc (Fs ?_)
  show E8 _ _ (FE (.ref i2) >>= _) _ _ _
  refine cc (Gu ((h2.extBut hs₁.extBut D.i2z).extBut hs₂.extBut D.i12.symm)
   ((hl2.extBut hs₁.extBut D.l2z).extBut hs₂.extBut D.l2i1) hy fun h₄ h2₄ hs₄=>E5 ?_)
  simp only[FT]
  refine E5 ?_
  try dsimp only
  refine cc (wpAny_newTuple ?_ (show 2<=ER from nbL rfl))
  have hsz:h₄.objs.size=s.heap.objs.size:=by rw[hs₄.1,hs₂.1,hs₁.1]
  have hz₄:IsZ h₄ z TI TO f0 f1':=hs₄.extBut _ _ D.i2z.symm (hs₂.extBut _ _ D.i1z.symm hz₁)
  have hk₄:∀c o,c≠z->c≠i1->c≠i2->s.heap.get? c=some o->h₄.get? c=some o:=fun c o c1 c3 c4 e=>
   hs₄.extBut _ _ c4 (hs₂.extBut _ _ c3 (hs₁.extBut _ _ c1 e))
  refine E5 ⟨_,rfl,?_⟩
  show Q (.ref h₄.objs.size) _
  rw[hsz]
  refine hQ _ _ _ o (E4 _ hz₄) ⟨_,_,E4 _ (hk₄ _ _ D.TOz D.TOi1 D.TOi2 hTO)⟩ ((h1₂.extBut hs₄.extBut D.i12).at fun o e=>E4 _ e) (h2₄.at fun o e=>E4 _ e) (by rw[<-hsz];exact EC _ rfl) (by rw[G8,hsz]) fun c o c1 c2 c3 c4 e=>E4 _ (hk₄ c o c1 c3 c4 e)
theorem uO{a b:E2}{Q:PySem.Fin->E3->Prop}(hh:A.handled=none)(D:ZipApart z TI TO i1 i2 l1 l2)(o:uh f0)
 (hz:IsZ s.heap z TI TO f0 f1) (hTI:IsPair s.heap TI (.ref i1) (.ref i2)) (hTO:IsPair s.heap TO a b)
 (h1:s.heap.IsListIter i1 l1 k1) (h2:s.heap.IsListIter i2 l2 k2) (hl1:s.heap.IsList l1 xs) (hl2:s.heap.IsList l2 ys) (hend:xs[k1]?=none\/ys[k2]?=none)
 (hE:∀h' e,(∀c o,c≠z->c≠TO->c≠i1->c≠i2->s.heap.get? c=some o->h'.get? c=some o)->(∃o,h'.get? e=some o/\o.cls=.type "StopIteration")->E (.ref e) { s with heap:=h' }) :
 E8 (ED prog w) A (Hm.«zip.__next__» ⟨[.ref z],[]⟩) Q E s:=by
 show E8 _ _ (field (.ref z) 2 >>= _) _ _ _
 refine cc (GH hz rfl (x:=.bool false) rfl ?_)
 show E8 _ _ (field (.ref z) 3 >>= _) _ _ _
 refine cc (GH hz rfl (x:=.ref TI) rfl ?_)
 refine cc (Fx hTI rfl ?_)
 show E8 _ _ (Ga (.ref z) >>= _) _ _ _
 refine cc (rS o hz ?_ fun h₁ f1' hz₁ hs₁=>?_)
 ·simp only[if_true]
  refine cc (wpAny_rule ?_)
  refine cc (GH hz rfl (x:=.ref TO) rfl ?_)
  refine cc (GD hz (by simp) fun h₁ hz₁ hs₁=>?_)
  replace hz₁:IsZ h₁ z TI TO .ellipsis f1:=hz₁
  refine cc ?_
  simp only[List.zipIdx_cons,List.zipIdx_nil,FW,FZ]
  refine cc (cc (wpAny_onRaise ?_))
  show E8 _ _ (FE (.ref i1) >>= _) _ _ _
  cases hx:xs[k1]? with
  |none=>
   refine cc (wpAny_nextOf_list_end hh (h1.extBut hs₁.extBut D.i1z) (hl1.extBut hs₁.extBut D.l1z) hx fun h₂ e hs₂ he=>?_)
   obtain⟨oe,hoe,hce⟩:=he
   have hz₂:IsZ h₂ z TI TO .ellipsis f1:=hs₂ _ _ D.i1z.symm hz₁
   have hez:e≠z:=fun x=>by subst x;rw[hz₂]at hoe;cases hoe;simp at hce
   refine GD hz₂ (by simp) fun h₃ _ hs₃=>hE h₃ e (fun c o c1 _ c3 _ x=>hs₃.extBut _ _ c1 (hs₂ _ _ c3 (hs₁.extBut _ _ c1 x))) ⟨oe,hs₃.extBut _ _ hez hoe,hce⟩
  |some x=>
   have hy:ys[k2]?=none:=by rcases hend with h|h;rw[hx]at h;cases h;exact h
   refine cc (Gu (h1.extBut hs₁.extBut D.i1z) (hl1.extBut hs₁.extBut D.l1z) hx fun h₂ h1₂ hs₂=>E5 ?_)
   have hTO₂:IsPair h₂ TO a b:=hs₂.extBut _ _ D.TOi1 (hs₁.extBut _ _ D.TOz hTO)
   refine cc (Fx hTO₂ rfl ?_)
   refine cc (wpAny_updateSeq_pair hTO₂ fun h₃ hTO₃ hs₃=>?_)
   refine cc (Gw (E5 ?_))
   refine cc (cc (wpAny_onRaise ?_))
   show E8 _ _ (FE (.ref i2) >>= _) _ _ _
   refine cc (wpAny_nextOf_list_end hh (((h2.extBut hs₁.extBut D.i2z).extBut hs₂.extBut D.i12.symm).extBut hs₃.extBut D.TOi2.symm)
    (((hl2.extBut hs₁.extBut D.l2z).extBut hs₂.extBut D.l2i1).extBut hs₃.extBut D.l2TO) hy fun h₄ e hs₄ he=>?_)
   obtain⟨oe,hoe,hce⟩:=he
   have hz₄:IsZ h₄ z TI TO .ellipsis f1:=hs₄ _ _ D.i2z.symm (hs₃.extBut _ _ D.TOz.symm (hs₂.extBut _ _ D.i1z.symm hz₁))
   have hez:e≠z:=fun x=>by subst x;rw[hz₄]at hoe;cases hoe;simp at hce
   refine GD hz₄ (by simp) fun h₅ _ hs₅=>hE h₅ e (fun c o c1 c2 c3 c4 x=>hs₅.extBut _ _ c1 (hs₄ _ _ c4 (hs₃.extBut _ _ c2 (hs₂.extBut _ _ c3 (hs₁.extBut _ _ c1 x))))) ⟨oe,hs₅.extBut _ _ hez hoe,hce⟩
 ·simp only[EO,if_false,<-FV]
  refine cc ?_
  simp only[FW,FZ,FT,Hb]
  refine cc (Fs ?_)
  show E8 _ _ (FE (.ref i1) >>= _) _ _ _
  cases hx:xs[k1]? with
  |none=>
   refine cc (wpAny_nextOf_list_end hh (h1.extBut hs₁.extBut D.i1z) (hl1.extBut hs₁.extBut D.l1z) hx fun h₂ e hs₂ he=>?_)
   exact hE h₂ e (fun c o c1 _ c3 _ x=>hs₂ _ _ c3 (hs₁.extBut _ _ c1 x)) he
  |some x=>
   have hy:ys[k2]?=none:=by rcases hend with h|h;rw[hx]at h;cases h;exact h
   refine cc (Gu (h1.extBut hs₁.extBut D.i1z) (hl1.extBut hs₁.extBut D.l1z) hx fun h₂ h1₂ hs₂=>E5 ?_)
   simp only[FT]
   refine cc (Fs ?_)
   show E8 _ _ (FE (.ref i2) >>= _) _ _ _
   refine cc (wpAny_nextOf_list_end hh ((h2.extBut hs₁.extBut D.i2z).extBut hs₂.extBut D.i12.symm)
    ((hl2.extBut hs₁.extBut D.l2z).extBut hs₂.extBut D.l2i1) hy fun h₄ e hs₄ he=>?_)
   exact hE h₄ e (fun c o c1 c2 c3 c4 x=>hs₄ _ _ c4 (hs₂.extBut _ _ c3 (hs₁.extBut _ _ c1 x))) he
end
theorem sH{P:EF}{w:EZ}{K:E1}{x:Str}{pt:Pos}(a b z TI TO i1 i2:Addr)(D:ZipApart z TI TO i1 i2 a b):Turn P w K (.Name x pt) (Itz K a b) [z,TI,TO,i1,i2] z (fun i h=>C1 h z TI TO i1 i2 a b i) where
 mem:=by simp
 obj:=fun i h st c hc=>by
  obtain⟨⟨f0,f1,_,h1⟩,h2,⟨p,q,h3⟩,h4,h5⟩:=st
  rcases(show c=z\/c=TI\/c=TO\/c=i1\/c=i2 by simpa using hc)with rfl|rfl|rfl|rfl|rfl
  ·exact⟨_,h1,fun v y=>by cases (show Data.fields _=Data.cell v from y)⟩
  ·exact⟨_,h2,fun v y=>by cases (show Data.seq _ _=Data.cell v from y)⟩
  ·exact⟨_,h3,fun v y=>by cases (show Data.seq _ _=Data.cell v from y)⟩
  ·obtain⟨o,q1,_,d⟩:=h4
   exact⟨o,q1,fun v y=>by rw[d]at y;cases y⟩
  ·obtain⟨o,q1,_,d⟩:=h5
   exact⟨o,q1,fun v y=>by rw[d]at y;cases y⟩
 keep:=fun i h h' st k=>by
  obtain⟨⟨f0,f1,ow,h1⟩,h2,⟨p,q,h3⟩,h4,h5⟩:=st
  exact⟨⟨f0,f1,ow,k z (by simp) _ h1⟩,k TI (by simp) _ h2,⟨p,q,k TO (by simp) _ h3⟩,h4.at fun o y=>k i1 (by simp) o y,h5.at fun o y=>k i2 (by simp) o y⟩
 item:=by
  intro X hP hw hK hc i pins s σ H E I hf st hg
  subst hP hw hK
  obtain⟨xs,ys,x,y,hq1,hq2,hx,hy⟩:=hg
  obtain⟨⟨f0,f1,ow,h1⟩,h2,⟨p,q,h3⟩,h4,h5⟩:=st
  obtain⟨its1,rv1,p1,hz1⟩:=I.list hq1
  obtain⟨its2,rv2,p2,hz2⟩:=I.list hq2
  obtain⟨u1,hu1,ru1⟩:=rv1.get hx
  obtain⟨u2,hu2,ru2⟩:=rv2.get hy
  have hT:s.TypeIs (.ref z) "zip":=⟨_,h1,rfl⟩
  unfold pyNext
  refine cc (wpAny_attempt (Gk (name:=F9 "__next__") hT F.slot_zip_next
   (GV F.slot_zip_next hT F.entry_zip_next
    (tD D ow h1 h2 h3 h4 h5 p1.isList p2.isList (x:=u1) (y:=u2) (by simpa using hu1) (by simpa using hu2) fun h' f0' f1' ow' a1 a2 a3 a4 a5 a6 a7=>E5 ?_) (F.args_zip_next_1 _))))
  refine⟨_,rfl,E5 ?_⟩
  have fr:=I.fresh
  have lt:∀c∈[z,TI,TO,i1,i2],c<s.heap.objs.size:=fun c hc=>by
   rcases(show c=z\/c=TI\/c=TO\/c=i1\/c=i2 by simpa using hc)with rfl|rfl|rfl|rfl|rfl
   ·exact E7 h1
   ·exact E7 h2
   ·exact E7 h3
   ·obtain⟨o,q1,_⟩:=h4;exact E7 q1
   ·obtain⟨o,q1,_⟩:=h5;exact E7 q1
  have I1:Inv X pins σ (upd H s.heap.objs.size (.tup [x,y])) { s with heap:=s.heap.push { cls:=.type "tuple",data:=.seq #[u1,u2] },toks:=s.toks }:=
   I.laid (fun b v q=>E4 _ q) (E9 _) ⟨nbL rfl,[u1,u2],.cons ru1 (.cons ru2 .nil),⟨_,EC _ rfl,rfl,_,rfl⟩⟩
  have fk:∀c∈[z,TI,TO,i1,i2],cI X pins (upd H s.heap.objs.size (.tup [x,y])) c:=fun c hc=>⟨by rw[az (EV (lt c hc))];exact(hf c hc).1,(hf c hc).2⟩
  have I2:Inv X pins σ (upd H s.heap.objs.size (.tup [x,y])) { s with heap:=h',toks:=s.toks }:=by
   refine dM (ch:=[z,TO,i1,i2]) (s:={ s with heap:=s.heap.push { cls:=.type "tuple",data:=.seq #[u1,u2] },toks:=s.toks }) I1 (fun c o nc q=>?_) fun c hc=>fk c (by simp at hc ⊢;rcases hc with rfl|rfl|rfl|rfl<;>simp)
   have q:(s.heap.push { cls:=.type "tuple",data:=.seq #[u1,u2] }).get? c=some o:=q
   simp at nc
   rcases Heap.get?_push_cases q with⟨rfl,rfl⟩|q
   ·exact a5
   ·exact a7 c o nc.1 nc.2.1 nc.2.2.1 nc.2.2.2 q
  exact⟨.ref s.heap.objs.size,_,I2,rfl,⟨_,x,y,rfl,fr,rfl,fun zs hzs=>by rw[I.d0 hzs hq1];exact hx,fun zs hzs=>by rw[I.d0 hzs hq2];exact hy⟩,⟨⟨_,_,ow',a1⟩,a7 _ _ D.TIz D.TITO D.TIi1 D.TIi2 h2,a2,a3,a4⟩,fun c hc=>(fk c hc).1⟩
 done:=by
  intro X hP hw hK hc i pins s σ H E I hf st hg
  subst hP hw hK
  obtain⟨xs,ys,hq1,hq2,he⟩:=hg
  obtain⟨⟨f0,f1,ow,h1⟩,h2,⟨p,q,h3⟩,h4,h5⟩:=st
  obtain⟨its1,rv1,p1,hz1⟩:=I.list hq1
  obtain⟨its2,rv2,p2,hz2⟩:=I.list hq2
  have l1:=rv1.length
  have l2:=rv2.length
  have hT:s.TypeIs (.ref z) "zip":=⟨_,h1,rfl⟩
  unfold pyNext
  refine cc (wpAny_attempt (Gk (name:=F9 "__next__") hT F.slot_zip_next
   (GV F.slot_zip_next hT F.entry_zip_next (uO (I.ok.hd hc) D ow h1 h2 h3 h4 h5 p1.isList p2.isList (he.imp (fun e=>by simp;omega) fun e=>by simp;omega) fun h' e hk he=>?_) (F.args_zip_next_1 _))))
  obtain⟨o,ho,hc'⟩:=he
  refine cc (wpAny_isInstance (T:="StopIteration") (b:=true) ⟨o,ho,hc'⟩ isSubtype_stop ?_)
  refine E5 ⟨rfl,?_⟩
  exact dM (t':=s.toks) (ch:=[z,TO,i1,i2]) I (fun c o nc q=>by simp at nc;exact hk c o nc.1 nc.2.1 nc.2.2.1 nc.2.2.2 q) fun c hc=>hf c (by simp at hc ⊢;rcases hc with rfl|rfl|rfl|rfl<;>simp)
 self:=fun _ _ s _ _ st h=>by
  obtain⟨⟨f0,f1,_,h1⟩,_⟩:=st
  have hT:s.TypeIs (.ref z) "zip":=⟨_,h1,rfl⟩
  refine wpAny_pyIter_slot hT F.slot_zip_iter (GV F.slot_zip_iter hT F.entry_zip_iter ?_ (F.args_zip_iter_1 _))
  show E8 _ _ (ret (.ref z)) _ _ s
  exact E5 ⟨_,rfl,"zip",_,hT,F.slot_zip_next.lookup,h⟩
section
variable{X:Cx}{x:Str}{pt:Pos}
theorem zk{a b:Expr}{ta:TA}{p pos:Pos}(hg:Gl X "zip")(hm:X.mg "zip"=none)(ha:PA X [a,b] ta)(hs:EH [a,b] X.env=(false,eval a X.env)::EH [b] X.env:=by rfl)(hpl:(G6 pos (EH [b] X.env)).any (·.1)=false:=by rfl):PI X (.Name x pt) (.Call (.Name "zip" p) [a,b] [] pos) (BM X.K ta):=by
 intro pins s σ H R I h;refine Call_ (fx I hg hm wI (Gn (thn (ha pos pins s σ H _ I h) fun us s1 zz1_0=>?_) hs hpl));obtain⟨vs,H1,I1,r1,q1⟩:=zz1_0;obtain⟨l1,l2,xs,ys,ev,hH1,hH2,q⟩:=q1;subst ev;obtain⟨u1,u2,rfl,ru1,ru2⟩:=vals2 r1;cases ru1;cases ru2;obtain⟨z1,its1,n1,rr1,hl1,e1⟩:=I1.kh hH1;obtain⟨z2,its2,n2,rr2,hl2,e2⟩:=I1.kh hH2;have L1:s1.heap.IsList l1 its1.toArray:=⟨_,e1,rfl,n1,rfl⟩;have L2:s1.heap.IsList l2 its2.toArray:=⟨_,e2,rfl,n2,rfl⟩;have lt1:=E7 e1;have lt2:=E7 e2;refine call_zip_2 L1 L2 fun h' hz hTI hTO hi1 hi2 hsz hk=>wpAny_pyIter_zip hz ?_
 have fp:∀b∈[s1.heap.objs.size+4,s1.heap.objs.size+2,s1.heap.objs.size+3,s1.heap.objs.size,s1.heap.objs.size+1],cI X pins H1 b:=fun b hb=>by
  have hb':s1.heap.objs.size<=b:=by simp at hb;rcases hb with rfl|rfl|rfl|rfl|rfl<;>first|exact Nat.le_add_right _ _|exact E9 _
  exact I1.p5 hb' (I1.hok.fresh hb')
 have D:ZipApart (s1.heap.objs.size+4) (s1.heap.objs.size+2) (s1.heap.objs.size+3) s1.heap.objs.size (s1.heap.objs.size+1) l1 l2:=by exact vK lt1 lt2
 exact⟨_,_,_,_,H1,rfl,I1.kept (t':=s1.toks) hk,sH l1 l2 _ _ _ _ _ D,⟨⟨_,_,.inl rfl,hz⟩,hTI,⟨_,_,hTO⟩,hi1,hi2⟩,fp,q⟩
theorem xo{a b:Expr}{ta:TAD}{p pos:Pos}(hg:Gl X "zip")(hm:X.mg "zip"=none)(ha:DA X [a,b] ta)(hs:EH [a,b] X.env=(false,eval a X.env)::EH [b] X.env:=by rfl)(hpl:(G6 pos (EH [b] X.env)).any (·.1)=false:=by rfl):DI X (.Name x pt) (.Call (.Name "zip" p) [a,b] [] pos) (xQ ta):=jN (zk hg hm ha hs hpl) ou
end
section
variable{X:Cx}{x y:Str}{px py pt pos:Pos}{kt:Nat}{js:List Nat}{scope:Gz}{kx vx iter:Expr}{ifs:List Expr}{tx te:TD}{tc:TTD}{wd:TID}
theorem sR(hu:X.A.units+66<FQ)(c:CScope X [x,y] js scope)(hc:X.calm=true)(hi:DI X (.Tuple [.Name x px,.Name y py] kt pt) iter wd)(ht:∀C s H fp,DTs (cxC X [x,y] js scope C s H fp) ifs tc)(hk:∀C s H fp,DE (cxC X [x,y] js scope C s H fp) kx tx)(he:∀C s H fp,DE (cxC X [x,y] js scope C s H fp) vx te) (hs:∀x,FG iter X.env x=pure x:=by intro _;rfl):DE X (.DictComp kx vx [⟨.Tuple [.Name x px,.Name y py] kt pt,iter,ifs,0⟩] scope pos) (rJ wd (.many 2) js tc tx te):=aV (xg (tk:=lift X.K tx) (te:=lift X.K te) (tc:=liftT X.K tc) c hc hi vz (fun _ _ _ _=>rm c hc) ht hk he (by omega) hs) fun _ _ _ h=>qj h
end
section
variable{P:EF}{w:EZ}{K:E1}{mg:Str->Option E2}{base:Heap}{x:Str}{st:Stmt}{N:List Str}{k:Nat}
def sD1(C:D->MH->DK->Prop):SpD:=fun ds M Q=>match ds with
 |[a]=>C a M Q
 |_=>False
theorem jk{p:Str}{C:D->MH->DK->Prop}(T:Txt K mg x st)(S:FnScope N [p] (aq st))
 (body:∀(f:Addr) (cdv:E2) (A:EX) (outer:List Env) (s:E3) (H:Hp) (E:XK),Room k (A.deeper (envOfC x (aq st) s.heap.objs.size f cdv))->
  ∃t,DSs (aW CX0 P w K mg base N x (aq st) f cdv A outer s H E).nox (aL st) t/\∀a M Q,C a M Q->t { nx:=fun _ M'=>Ret Q .non M',rt:=Ret Q } (cZ N [a]) M)
 (hb:∀(kV doc pm:E2) (an:Option Addr) (cdv ct a:E2),bindArgs (FI x x (aX st) (aL st) (aq st) .none kV doc pm an cdv ct) ⟨[a],[]⟩=pure ([p].zip [a]):=by intros;rfl):Cal P w K mg base (k+1) x (sD1 C):=by
 refine tS T S (fun kV doc pm an cdv ct us hl=>?_) (fun ds M Q h=>?_) fun f cdv A outer s H E hr=>?_
 ·match us,hl with
  |[_],_=>exact hb ..
 ·unfold sD1 at h
  split at h
  ·rfl
  ·exact h.elim
 ·obtain⟨t,h,hq⟩:=body f cdv A outer s H E hr
  refine⟨t,h,fun ds M Q h=>?_⟩
  unfold sD1 at h
  split at h
  ·exact hq _ _ _ h
  ·exact h.elim
def sD2(C:D->D->MH->DK->Prop):SpD:=fun ds M Q=>match ds with
 |[a,b]=>C a b M Q
 |_=>False
theorem a9{p q:Str}{C:D->D->MH->DK->Prop}(T:Txt K mg x st)(S:FnScope N [p,q] (aq st))
 (body:∀(f:Addr) (cdv:E2) (A:EX) (outer:List Env) (s:E3) (H:Hp) (E:XK),Room k (A.deeper (envOfC x (aq st) s.heap.objs.size f cdv))->
  ∃t,DSs (aW CX0 P w K mg base N x (aq st) f cdv A outer s H E).nox (aL st) t/\∀a b M Q,C a b M Q->t { nx:=fun _ M'=>Ret Q .non M',rt:=Ret Q } (cZ N [a,b]) M)
 (hb:∀(kV doc pm:E2) (an:Option Addr) (cdv ct a b:E2),bindArgs (FI x x (aX st) (aL st) (aq st) .none kV doc pm an cdv ct) ⟨[a,b],[]⟩=pure ([p,q].zip [a,b]):=by intros;rfl):Cal P w K mg base (k+1) x (sD2 C):=by
 refine tS T S (fun kV doc pm an cdv ct us hl=>?_) (fun ds M Q h=>?_) fun f cdv A outer s H E hr=>?_
 ·match us,hl with
  |[_,_],_=>exact hb ..
 ·unfold sD2 at h
  split at h
  ·rfl
  ·exact h.elim
 ·obtain⟨t,h,hq⟩:=body f cdv A outer s H E hr
  refine⟨t,h,fun ds M Q h=>?_⟩
  unfold sD2 at h
  split at h
  ·exact hq _ _ _ _ h
  ·exact h.elim
def sD3(C:D->D->D->MH->DK->Prop):SpD:=fun ds M Q=>match ds with
 |[a,b,c]=>C a b c M Q
 |_=>False
theorem zT{p q r:Str}{C:D->D->D->MH->DK->Prop}(T:Txt K mg x st)(S:FnScope N [p,q,r] (aq st))
 (body:∀(f:Addr) (cdv:E2) (A:EX) (outer:List Env) (s:E3) (H:Hp) (E:XK),Room k (A.deeper (envOfC x (aq st) s.heap.objs.size f cdv))->
  ∃t,DSs (aW CX0 P w K mg base N x (aq st) f cdv A outer s H E).nox (aL st) t/\∀a b c M Q,C a b c M Q->t { nx:=fun _ M'=>Ret Q .non M',rt:=Ret Q } (cZ N [a,b,c]) M)
 (hb:∀(kV doc pm:E2) (an:Option Addr) (cdv ct a b c:E2),bindArgs (FI x x (aX st) (aL st) (aq st) .none kV doc pm an cdv ct) ⟨[a,b,c],[]⟩=pure ([p,q,r].zip [a,b,c]):=by intros;rfl):Cal P w K mg base (k+1) x (sD3 C):=by
 refine tS T S (fun kV doc pm an cdv ct us hl=>?_) (fun ds M Q h=>?_) fun f cdv A outer s H E hr=>?_
 ·match us,hl with
  |[_,_,_],_=>exact hb ..
 ·unfold sD3 at h
  split at h
  ·rfl
  ·exact h.elim
 ·obtain⟨t,h,hq⟩:=body f cdv A outer s H E hr
  refine⟨t,h,fun ds M Q h=>?_⟩
  unfold sD3 at h
  split at h
  ·exact hq _ _ _ _ _ h
  ·exact h.elim
end
end SD
namespace QQ
open PySem PySem.Spec PyProof.Rows L2 SD
def top(i:Nat):Stmt:=Fe.main.body.getD i (.Pass ⟨0,0,0,0⟩)
abbrev dZ:Stmt:=top 41
abbrev gj:Stmt:=top 42
abbrev eZ:Stmt:=top 44
abbrev ie:Stmt:=top 54
abbrev cQ:Stmt:=top 50
abbrev eJ:Stmt:=top 51
abbrev d9:Stmt:=top 53
abbrev gR:Stmt:=top 43
abbrev fU:Stmt:=top 45
abbrev fv:Stmt:=top 47
abbrev fY:Stmt:=top 48
abbrev dR:Stmt:=top 49
abbrev eA:Stmt:=top 52
abbrev f6:Stmt:=top 46
abbrev ik:Stmt:=top 16
abbrev fX:Stmt:=top 18
abbrev uY:Stmt:=top 25
abbrev qu:Stmt:=top 26
abbrev ia:Stmt:=top 27
abbrev g8:Stmt:=top 28
abbrev bY:Stmt:=top 10
abbrev f7:Stmt:=top 11
abbrev gf:Stmt:=top 23
abbrev gp:Stmt:=top 19
abbrev ec:Stmt:=top 20
abbrev gm:Stmt:=top 24
abbrev ck:Stmt:=top 32
abbrev p6:Stmt:=top 15
abbrev pM:Stmt:=top 13
abbrev qz:Stmt:=top 12
abbrev mE:Stmt:=top 14
abbrev cx:Stmt:=top 34
abbrev cO:Stmt:=top 33
abbrev ij:Stmt:=top 31
abbrev dO:Stmt:=top 21
abbrev dY:Stmt:=top 22
abbrev gU:Stmt:=top 38
abbrev eP:Stmt:=top 35
abbrev cX:Stmt:=top 39
abbrev jD:Stmt:=top 37
abbrev fB:Stmt:=top 55
abbrev fW:Stmt:=top 56
abbrev ui:Stmt:=top 57
abbrev gi:Stmt:=rZ (top 4) 0
theorem nV:FnScope ["self","count"] ["self","count"] (aq gi):=⟨rfl,rfl,rfl,by decide,rfl,by decide,by decide⟩
local macro_rules | `(tactic| walk_at "sc") => `(tactic| exact ⟨rfl, rfl, rfl, by decide, rfl, by decide, by decide⟩)
theorem _root_.SD.Cal.m{P:EF}{w:EZ}{K:E1}{mg:Str->Option E2}{base:Heap}{j k:Nat}{x:Str}{sp:SpD}(h:Cal P w K mg base j x sp)(l:j<=k:=by decide):Cal P w K mg base k x sp:=h.mono l
structure Tx(K:E1)(mg:Str->Option E2):Prop where
 f_law_cell_at:Txt K mg "_law_cell_at" dZ
 f_law_take:Txt K mg "_law_take" gj
 f_law_scale:Txt K mg "_law_scale" eZ
 f_law_any:Txt K mg "_law_any" ie
 f_law_is_sooner:Txt K mg "_law_is_sooner" cQ
 f_law_sorted:Txt K mg "_law_sorted" eJ
 f_law_in_row:Txt K mg "_law_in_row" d9
 f_law_low:Txt K mg "_law_low" gR
 f_law_spot:Txt K mg "_law_spot" fU
 f_law_cross:Txt K mg "_law_cross" fv
 f_law_meet:Txt K mg "_law_meet" fY
 f_law_spot_at:Txt K mg "_law_spot_at" dR
 f_law_pieces:Txt K mg "_law_pieces" eA
 f_law_made:Txt K mg "_law_made" f6
 f_is_less:Txt K mg "is_less" ik
 f_is_ahead:Txt K mg "is_ahead" fX
 f_gap:Txt K mg "gap" uY
 f_lean:Txt K mg "lean" qu
 f_side_of:Txt K mg "side_of" ia
 f_lies_on:Txt K mg "lies_on" g8
 f_greatest_divisor:Txt K mg "greatest_divisor" bY
 f_fraction:Txt K mg "fraction" f7
 f_own_spot:Txt K mg "own_spot" gf
 f_later_of:Txt K mg "later_of" gp
 f_earlier_of:Txt K mg "earlier_of" ec
 f_own_wall:Txt K mg "own_wall" gm
 f_meeting_in_line:Txt K mg "meeting_in_line" ck
 f_over:Txt K mg "over" p6
 f_less:Txt K mg "less" pM
 f_plus:Txt K mg "plus" qz
 f_times:Txt K mg "times" mE
 f_number_between:Txt K mg "number_between" cx
 f_crossing_spot:Txt K mg "crossing_spot" cO
 f_meeting:Txt K mg "meeting" ij
 f_place_among:Txt K mg "place_among" dO
 f_ahead_first:Txt K mg "ahead_first" dY
 f_cuts_of:Txt K mg "cuts_of" gU
 f_corners_of:Txt K mg "corners_of" eP
 f_by_ends:Txt K mg "by_ends" cX
 f_parted:Txt K mg "parted" jD
 f_law_alone:Txt K mg "_law_alone" fB
 f_law_told:Txt K mg "_law_told" fW
 f_law:Txt K mg "law" ui
 fc_by_ends:uc K mg "by_ends" cX 318
 lm:Mk K mg 318 316
 b_ValueError:mg "ValueError"=none
 b_abs:mg "abs"=none
 b_enumerate:mg "enumerate"=none
 b_int:mg "int"=none
 b_isinstance:mg "isinstance"=none
 b_len:mg "len"=none
 b_list:mg "list"=none
 b_max:mg "max"=none
 b_min:mg "min"=none
 b_range:mg "range"=none
 b_sorted:mg "sorted"=none
 b_tuple:mg "tuple"=none
 b_zip:mg "zip"=none
 g_MOST_WALLS:∃t,mg "MOST_WALLS"=some (.int 40 t)
 r_Absent:mg "Absent"=some (.ref (cl K "Absent"))
 r_Crossing:mg "Crossing"=some (.ref (cl K "Crossing"))
 r_NoFraction:mg "NoFraction"=some (.ref (cl K "NoFraction"))
 r_NoRow:mg "NoRow"=some (.ref (cl K "NoRow"))
 r_NoText:mg "NoText"=some (.ref (cl K "NoText"))
 r_NoWall:mg "NoWall"=some (.ref (cl K "NoWall"))
 r_SpotError:mg "SpotError"=some (.ref (cl K "SpotError"))
 r_TooMany:mg "TooMany"=some (.ref (cl K "TooMany"))
 e_SpotError:ClsE K "SpotError" (cl K "SpotError")
 eb_SpotError:Fd K (.ref (cl K "SpotError")) (.type "BaseException")=some true
 B_SpotError:ClsB K (cl K "SpotError")
 eb_TooMany:Fd K (.ref (cl K "TooMany")) (.type "BaseException")=some true
 es_TooMany_SpotError:Fd K (.ref (cl K "TooMany")) (.ref (cl K "SpotError"))=some true
 fn_TooMany_count:PySem.W.findIn K (.ref (cl K "TooMany")) "count"=some none
 hd_TooMany:Gs K (cl K "TooMany")=true
 m_TooMany:∃fI fd,ClsI K (cl K "TooMany") (cl K "SpotError") fI/\Fun K "__init__" "TooMany.__init__" gi fI fd
 ek_TooMany:ErrK K (cl K "TooMany")
 kv_TooMany:F5 K (.ref (cl K "TooMany")) (.type "ValueError")=some true
 ki_TooMany_Absent:F5 K (.ref (cl K "TooMany")) (.ref (cl K "Absent"))=some false
 ki_TooMany_Crossing:F5 K (.ref (cl K "TooMany")) (.ref (cl K "Crossing"))=some false
 ki_TooMany_NoFraction:F5 K (.ref (cl K "TooMany")) (.ref (cl K "NoFraction"))=some false
 ki_TooMany_NoRow:F5 K (.ref (cl K "TooMany")) (.ref (cl K "NoRow"))=some false
 ki_TooMany_NoText:F5 K (.ref (cl K "TooMany")) (.ref (cl K "NoText"))=some false
 ki_TooMany_NoWall:F5 K (.ref (cl K "TooMany")) (.ref (cl K "NoWall"))=some false
 ki_TooMany_TooMany:F5 K (.ref (cl K "TooMany")) (.ref (cl K "TooMany"))=some true
variable{P:EF}{w:EZ}{K:E1}{mg:Str->Option E2}{base:Heap}
theorem pT(T:Tx K mg):MkE P w K mg base 1 "TooMany" (cl K "TooMany") ["count"]:=by obtain⟨fI,fd,M,F⟩:=T.m_TooMany;refine⟨_,fI,fd,["self","count"],M,T.eb_TooMany,F.ok (k:=0) (N:=["self","count"]) nV (fun vs H Q E h=>by obtain⟨a,ys,rfl,hl,_⟩:=h;simp[hl]) (fun cdv A outer s H vs Q E hr h=>⟨_,nD (rH (xD T.B_SpotError rfl T.r_SpotError (mD (pv 0) (mD (yO (iY (uN (by decide)) (iY (wX (pv 1)) parts_nil)) (by decide) rfl) w8)) (by decide) rfl rfl rfl)) (sg (xW (pv 0) (pv 1) rfl)),B9 M T.fn_TooMany_count rfl h (fun a y0 hy0=>⟨trivial,⟨_,rfl,rfl,hy0⟩,trivial⟩)⟩),F.binds (fun _ _ _ _ _ _ us hl=>match us,hl with|[_,_],_=>rfl),T.r_TooMany⟩
theorem jq:FnScope ["_law_script","_law_k"] ["_law_script","_law_k"] (aq dZ):=by walk_at "sc"
inductive Cn_law_cell_at(x y:D)(M:MH)(Q:DK):Prop
 |mk (ns:_) (k:_) (_:x=.rol (Gr D.int ns)) (_:y=.int k) (_:0<=k) (_:∀z,Q (.int z) M)
theorem j4(T:Tx K mg):Cal P w K mg base 1 "_law_cell_at" (sD2 Cn_law_cell_at):=by
 refine a9 (k:=0) T.f_law_cell_at jq fun f cdv A outer s H E hr=>⟨_,(aj (aS (aG (c7 hr.units) (dv 1) (aD dU rfl T.b_len cC (ae (dv 0) ag))) (ar (aC (au (dv 0) (dv 1)))) aJ) (ar (aC af))),fun _ _ M Q h=>?_⟩;obtain⟨ns,k,rfl,rfl,hk,q⟩:=h;(repeat (first|refine⟨_,rfl,?_⟩|refine⟨trivial,?_⟩|refine⟨_,_,rfl,?_⟩|refine⟨rfl,?_⟩|refine⟨nbL rfl,?_⟩))
 refine bL (fun hl=>?_) (fun _=>?_)
 ·have hl':k<(ns.length:Int):=by simpa using hl
  obtain⟨j,rfl⟩:∃j:Nat,k=(j:Int):=⟨k.toNat,by omega⟩;have hj:j<ns.length:=by omega
  refine⟨_,rfl,_,rfl,.int ns[j],iQ (by simp[hj]),rtn (q _)⟩
 ·exact rtn (q 0)
theorem dz:FnScope ["_law_row","_law_base","_law_rest","_law_number"] ["_law_row","_law_base"] (aq gj):=by walk_at "sc"
inductive Cn_law_take(y z:D)(M:MH)(Q:DK):Prop
 |mk (r:_) (b:_) (x:_) (c:_) (_:y=.ref r) (_:z=.int b) (_:M r=some (.lst [.int x,.int c])) (_:0<=c) (_:c<1000000) (_:0<b) (_:Bd 8000 b) (_:∀x' v,0<=v->v<b->Q (.int v) (ax M r (.lst [.int x',.int (c+1)])))
theorem aH(T:Tx K mg):Cal P w K mg base 1 "_law_take" (sD2 Cn_law_take):=by
 refine a9 (k:=0) T.f_law_take dz fun f cdv A outer s H E hr=>⟨_,(aj (dg (aw aO (au (dv 0) af) af) (vF (dv 0) af)) (aj (aS (aG (Az hr.units) (au (dv 0) af) (aw gW af af)) (aj (aA 2 dz.nd (aw cP (au (dv 0) af) (aw gW af af))) (aj (dg (aw aO (aw gW af af) (aw jQ (dv 2) (dv 1))) (vF (dv 0) af)) (ar (aC (aw fT (dv 2) (dv 1)))))) aJ) (aj (aA 3 dz.nd (aw fT (aw aO (aw aO (aw aO (aw aF (au (dv 0) af) af) (aw aF (aw aF af (au (dv 0) af)) (au (dv 0) af))) (aw aF af (au (dv 0) af))) af) af)) (aj (aA 3 dz.nd (aw fT (aw aO (aw aO (aw aF (dv 3) (dv 3)) (aw aF af (dv 3))) (au (dv 0) af)) af)) (ar (aC (aw fT (aw jQ (dv 3) af) (dv 1)))))))),fun _ _ M Q h=>?_⟩;obtain⟨r,b,x,c,rfl,rfl,hM,hc0,hc1,hb,hbd,q⟩:=h;have hc64:Bd 64 (c+1):=by show(c+1).natAbs<2^64;omega
 have hb0:b≠0:=by omega
 have hm:∀n:Int,0<=n.fmod b/\n.fmod b<b:=fun n=>⟨Int.fmod_nonneg_of_pos _ hb,Int.fmod_lt_of_pos _ hb⟩;refine⟨_,rfl,_,_,hM,rfl,?_⟩;refine⟨_,rfl,_,_,hM,rfl,?_⟩;refine⟨_,rfl,_,_,ai,rfl,⟨by decide,by decide,by decide⟩,trivial,_,rfl,?_⟩;refine bL (fun h=>?_) (fun h=>?_)
 ·refine⟨_,rfl,_,_,ai,rfl,⟨by decide,by decide,by decide⟩,trivial,?_⟩;refine⟨⟨by decide,by decide,by decide⟩,_,rfl,_,rfl,⟨hb0,hbd⟩,_,rfl,_,_,ai,rfl,?_⟩;refine⟨_,rfl,_,rfl,hb0,?_⟩;rw[b5];exact rtn (q _ _ (hm _).1 (hm _).2)
 ·refine⟨_,rfl,_,_,ai,rfl,cF (by decide),?_⟩;refine⟨_,rfl,_,_,ai,rfl,bG (by decide),?_⟩;refine⟨_,rfl,_,_,ai,rfl,cF hc64,?_⟩;refine⟨_,rfl,_,_,ai,rfl,bG (by decide),(show(2147483399:Int)≠0 by decide),?_⟩
  have hn:∀n:Int,Bd 64 (n.fmod 2147483399):=fun n=>by
   have h1:=Int.fmod_nonneg_of_pos n (show(0:Int)<2147483399 by decide)
   have h2:=Int.fmod_lt_of_pos n (show(0:Int)<2147483399 by decide)
   show(n.fmod 2147483399).natAbs<2^64
   omega
  refine⟨_,rfl,_,rfl,bG (hn _),_,rfl,bG (by decide),_,rfl,_,_,ai,rfl,(show(2147483647:Int)≠0 by decide),?_⟩;refine⟨_,rfl,⟨by decide,cy (by decide)⟩,_,rfl,hb0,?_⟩;exact rtn (q _ _ (hm _).1 (hm _).2)
theorem cV:FnScope ["_law_row","_law_top","_law_bottom","_law_far"] ["_law_row"] (aq eZ):=by walk_at "sc"
inductive Cn_law_scale(u:D)(M:MH)(Q:DK):Prop
 |mk (r:Addr) (x c:Int) (_:u=.ref r) (_:M r=some (.lst [.int x,.int c])) (_:0<=c) (_:c<900000) (_:∀x' c' t b p q,Scl t b p q->0<=c'->c'<=c+10->Q (scl t b p q) (ax M r (.lst [.int x',.int c'])))
theorem nG(T:Tx K mg):Cal P w K mg base 2 "_law_scale" (sD1 Cn_law_scale):=by
 refine jk (k:=1) T.f_law_scale cV fun f cdv A outer s H E hr=>⟨_,(aj (eO 1 2 rfl cV.nd (ae (aw aO af (ao (aH T).m hr (ae (dv 0) (ae af ag)))) (ae (aw aO af (ao (aH T).m hr (ae (dv 0) (ae af ag)))) ag))) (aj (aS (aG (cw hr.units) (ao (aH T).m hr (ae (dv 0) (ae af ag))) af) (ar (eO 1 2 rfl cV.nd (ae (aw aO af (ao (aH T).m hr (ae (dv 0) (ae (aw gW af af) ag)))) (ae (aw aO af (ao (aH T).m hr (ae (dv 0) (ae (aw gW af af) ag)))) ag)))) aJ) (aj (aA 3 cV.nd (au (bR (ae af (ae (aw gW af af) ag))) (bP Al rfl T.b_int BL (ae (gZ (cw hr.units) (ao (aH T).m hr (ae (dv 0) (ae af ag))) af) ag)))) (ar (aC (aK (ae (dv 1) (ae (dv 2) (ae (aw aF (dv 3) (aw cP (ao (aH T).m hr (ae (dv 0) (ae af ag))) af)) (ae (aw aF (dv 3) (aw cP (ao (aH T).m hr (ae (dv 0) (ae af ag))) af)) ag)))))))))),fun _ M Q h=>?_⟩;obtain⟨r,x,c,rfl,hM,hc0,hc1,k⟩:=h;refine⟨_,rfl,r,6,x,c,rfl,rfl,hM,hc0,by omega,by decide,cy (by decide),fun x1 v1 h10 h11=>?_⟩;refine⟨_,rfl,r,6,x1,c+1,rfl,rfl,ai,by omega,by omega,by decide,cy (by decide),fun x2 v2 h20 h21=>?_⟩;refine⟨_,_,rfl,?_⟩;(try dsimp only[SD.aQ])
 refine bV (fun δ M'=>∃x c' t b o3,0<=c'/\c'<=c+5/\(0<t/\t<=10^9/\0<b/\b<=10^9)/\M'=ax M r (.lst [.int x,.int c'])/\δ=[some (.ref r),some (.int t),some (.int b),o3]) ?_ (fun hu=>?_);rotate_left
 ·refine⟨_,rfl,r,4,x2,c+1+1,rfl,rfl,ai,by omega,by omega,by decide,cy (by decide),fun x3 v3 h30 h31=>⟨_,rfl,?_⟩⟩;refine bL (fun _=>?_) (fun _=>?_)
  ·refine⟨_,rfl,⟨by decide,by decide,by decide⟩,r,10^9,x3,c+1+1+1,rfl,rfl,ai,by omega,by omega,by decide,cy (by decide),fun x4 v4 h40 h41=>?_⟩;refine⟨_,rfl,⟨by decide,by decide,by decide⟩,r,10^9,x4,c+1+1+1+1,rfl,rfl,ai,by omega,by omega,by decide,cy (by decide),fun x5 v5 h50 h51=>?_⟩;refine⟨_,_,rfl,hu _ _ ⟨x5,c+1+1+1+1+1,1+v4,1+v5,none,by omega,by omega,by omega,?_,rfl⟩⟩;simp only[b5]
  ·refine hu _ _ ⟨x3,c+1+1+1,1+v1,1+v2,none,by omega,by omega,by omega,?_,rfl⟩;simp only[b5]
 rintro δ M' ⟨x,c',t,b,o3,hc0',hc1',hb,rfl,rfl⟩;refine⟨⟨by decide,by decide,by decide⟩,nbL rfl,fun p hp=>?_⟩;have npr:r≠p:=av ai hp;refine⟨_,rfl,r,6,x,c',rfl,rfl,(by rw[ak npr,ai]),by omega,by omega,by decide,cy (by decide),fun x6 v6 h60 h61=>?_⟩
 have hf:∃f:Int,atI [D.int 1,D.int (10^15)] (if decide (v6=0)=true then 1 else 0)=some (.int f)/\1<=f/\f<=10^15:=by
  by_cases z:v6=0
  ·exact⟨10^15,by rw[if_pos (by simpa using z)];rfl,by decide,by decide⟩
  ·exact⟨1,by rw[if_neg (by simpa using z)];rfl,by decide,by decide⟩
 obtain⟨f,ef,hf0,hf1⟩:=hf;refine⟨_,_,(by rw[ak npr.symm,ai];rfl),ef,?_⟩;have bf:Bd 64 f:=by show f.natAbs<2^64;omega
 refine⟨_,rfl,_,rfl,_,rfl,_,rfl,r,41,x6,c'+1,rfl,rfl,ai,by omega,by omega,by decide,cy (by decide),fun x7 v7 h70 h71=>⟨trivial,bG bf,?_⟩⟩;refine⟨_,rfl,_,rfl,r,41,x7,c'+1+1,rfl,rfl,ai,by omega,by omega,by decide,cy (by decide),fun x8 v8 h80 h81=>⟨trivial,bG bf,nbL rfl,?_⟩⟩
 have bnd:∀v:Int,0<=v->v<41->-(10^17)<=f*(v-20)/\f*(v-20)<=10^17:=fun v a b=>by
  have h1:f*(v-20)<=f*20:=Int.mul_le_mul_of_nonneg_left (by omega) (by omega)
  have h2:f*(-20)<=f*(v-20):=Int.mul_le_mul_of_nonneg_left (by omega) (by omega)
  omega
 have q7:=bnd v7 h70 h71;have q8:=bnd v8 h80 h81;refine⟨ax M r (.lst [.int x8,.int (c'+1+1+1)]),?_,k _ _ _ _ _ _ ⟨hb.1,hb.2.1,hb.2.2.1,hb.2.2.2,q7.1,q7.2,q8.1,q8.2⟩ (by omega) (by omega)⟩;simp only[b5];refine .DO ?_;intro a o ne e;have:a≠p:=fun z=>by subst z;rw[ak ne]at hp;rw[hp]at e;cases e
 rw[ak this,ak ne];exact e
theorem bZ:FnScope ["_law_row","_law_most","_law_size","_law_shuts","_law_turn","_law_one","_law_other"] ["_law_row","_law_most","_law_size"] (aq ie):=by walk_at "sc"
inductive Cn_law_any(u m n:D)(M:MH)(Q:DK):Prop
 |mk (r:Addr) (x c m' s:Int) (_:u=.ref r) (_:m=.int m') (_:(0<=m'/\m'<=12)) (_:(n=.int s/\1<=s/\s<=6)) (_:M r=some (.lst [.int x,.int c])) (_:0<=c) (_:c<1000) (_:∀(M'':MH) (x' c':Int) (l:Addr) (ws:List Wl),r≠l->cD r M M''->M'' r=some (.lst [.int x',.int c'])->M'' l=some (.lst (ws.map uw))->0<=c'->c'<=c+160->ws.length<=13->(∀w∈ws,Un5 w)->Q (.ref l) M'')
theorem sL(T:Tx K mg):Cal P w K mg base 2 "_law_any" (sD3 Cn_law_any):=by
 refine zT (k:=1) T.f_law_any bZ fun f cdv A outer s H E hr=>⟨_,(aj (aA 3 bZ.nd (bR ag)) (aj (rD Fn rfl rfl T.b_range (ae (ao (aH T).m hr (ae (dv 0) (ae (aw aO (dv 1) af) ag))) ag) (aE 4 bZ.nd) (aj (aA 5 bZ.nd (aK (ae (ao (aH T).m hr (ae (dv 0) (ae (dv 2) ag))) (ae (ao (aH T).m hr (ae (dv 0) (ae (dv 2) ag))) ag)))) (aj (aA 6 bZ.nd (aK (ae (ao (aH T).m hr (ae (dv 0) (ae (dv 2) ag))) (ae (ao (aH T).m hr (ae (dv 0) (ae (dv 2) ag))) ag)))) (aj (aS (iH (fz (aG (fQ hr.units) (dv 3) (bR ag)) (dH (aG (cw hr.units) (ao (aH T).m hr (ae (dv 0) (ae af ag))) af)))) (ar (aA 5 bZ.nd (au (au (dv 3) (ao (aH T).m hr (ae (dv 0) (ae (aD dU rfl T.b_len cC (ae (dv 3) ag)) ag)))) (ao (aH T).m hr (ae (dv 0) (ae af ag)))))) aJ) (aj (aS (aG (cw hr.units) (dv 5) (dv 6)) (ar (aA 6 bZ.nd (aK (ae (aw aO (aw aO (au (dv 5) af) af) (ao (aH T).m hr (ae (dv 0) (ae af ag)))) (ae (au (dv 5) af) ag))))) aJ) (ar (fG (dA (dv 3) (ae (aK (ae (aD (mv rfl hr.units) rfl T.b_min mU (ae (dv 5) (ae (dv 6) ag))) (ae (aD (lV rfl hr.units) rfl T.b_max l0 (ae (dv 5) (ae (dv 6) ag))) ag))) ag))))))))) (aj (aS (iH (fz (aG (fQ hr.units) (dv 3) (bR ag)) (dH (aG (cw hr.units) (ao (aH T).m hr (ae (dv 0) (ae af ag))) af)))) (ar (fG (dA (dv 3) (ae (au (dv 3) (ao (aH T).m hr (ae (dv 0) (ae (aD dU rfl T.b_len cC (ae (dv 3) ag)) ag)))) ag)))) aJ) (ar (aC (dv 3)))))),fun _ _ _ M Q h=>?_⟩;obtain⟨r,x0,c0,m,s,rfl,rfl,hm,⟨rfl,hs0,hs1⟩,hM,hc0,hc1,k⟩:=h;refine⟨nbL rfl,fun l hl=>?_⟩;have nrl:r≠l:=av hM hl;refine⟨_,rfl,_,rfl,r,m+1,x0,c0,rfl,rfl,(by rw[ak nrl];exact hM),hc0,by omega,by omega,cy (by omega),fun x1 v h0 h1=>?_⟩;refine⟨v.toNat,?_,by omega,fun i δ M'=>∃(x c:Int) (ws:List Wl) (o4 o5 o6:Option D),δ=[some (.ref r),some (.int m),some (.int s),some (.ref l),o4,o5,o6]/\cD r M M'/\M' r=some (.lst [.int x,.int c])/\M' l=some (.lst (ws.map uw))/\0<=c/\c<=c0+1+11*i/\ws.length<=i/\(∀w∈ws,Un5 w),?_,?_,?_⟩
 ·rw[Int.toNat_of_nonneg h0]
 ·refine⟨x1,c0+1,[],_,_,_,rfl,(cD.refl.fresh hl).atR,ai,(by rw[ak nrl.symm,ai];rfl),by omega,by omega,by decide,fun w hw=>absurd hw (by simp)⟩
 rotate_left
 ·rintro δ M' ⟨x,c,ws,o4,o5,o6,rfl,sT,hr',hl',g0,g1,g2,g3⟩;(try dsimp only[SD.aQ])
  refine bV (fun δ M'=>∃(x c:Int) (ws:List Wl) (o4 o5 o6:Option D),δ=[some (.ref r),some (.int m),some (.int s),some (.ref l),o4,o5,o6]/\cD r M M'/\M' r=some (.lst [.int x,.int c])/\M' l=some (.lst (ws.map uw))/\0<=c/\c<=c0+160/\ws.length<=13/\(∀w∈ws,Un5 w)) ?_ (fun hu=>?_);rotate_left;rotate_left
  ·rintro δ M' ⟨x,c,ws,o4,o5,o6,rfl,sT,hr',hl',g0,g1,g2,g3⟩;exact⟨_,rfl,rtn (k M' x c l ws nrl sT hr' hl' g0 (by omega) (by omega) g3)⟩
  refine⟨_,rfl,nbL rfl,fun z hz=>?_⟩;have nrz:r≠z:=av hr' hz;have nlz:l≠z:=av hl' hz;have hl5:(ax M' z (.lst [])) l=some (.lst (ws.map uw)):=by rw[ak nlz];exact hl'
  have hr5:(ax M' z (.lst [])) r=some (.lst [.int x,.int c]):=by rw[ak nrz];exact hr'
  refine⟨_,_,.lst hl5 (pY ws),.lst ai .nil,kH ws,rfl,_,rfl,?_⟩;rw[jx];refine bL (fun hne=>?_) (fun hnil=>?_)
  ·have hpos:0<ws.length:=by
    cases ws with
    |nil=>simp at hne
    |cons w ws=>simp
   refine⟨_,rfl,r,6,x,c,rfl,rfl,hr5,by omega,by omega,by decide,cy (by decide),fun x5 v5 h50 h51=>⟨_,rfl,?_⟩⟩;have hl6:(ax (ax M' z (.lst [])) r (.lst [.int x5,.int (c+1)])) l=some (.lst (ws.map uw)):=by rw[ak nrl.symm];exact hl5
   refine bL (fun _=>?_) (fun _=>?_)
   ·refine⟨_,rfl,l,_,rfl,hl6,_,rfl,_,rfl,_,rfl,_,hl6,r,((ws.map uw).length:Int),x5,c+1,rfl,rfl,ai,by omega,by omega,by simpa using hpos,cy (by simp;omega),fun x6 v6 h60 h61=>?_⟩;obtain⟨w,hw,ew⟩:=qQ (ws:=ws) h60 (by simpa using h61);refine⟨_,_,(by rw[ak nrl.symm];exact hl6),ew,ws.map uw,_,rfl,(by rw[ak nrl.symm];exact hl6),by simp;omega,hu _ _ ⟨x6,_,ws++[w],_,_,_,rfl,(((sT.fresh hz).atR).atR).old hl,(by rw[ak nrl];exact ai),by rw[ai,Fg];rfl,by omega,by omega,by simp;omega,fun v hv=>?_⟩⟩;rcases EM.mp hv with y|y
    ·exact g3 v y
    ·rw[F1.mp y];exact g3 w hw
   ·exact hu _ _ ⟨x5,_,ws,_,_,_,rfl,(sT.fresh hz).atR,ai,hl6,by omega,by omega,by omega,g3⟩
  ·refine dQ rfl ?_;exact hu _ _ ⟨x,c,ws,_,_,_,rfl,sT.fresh hz,hr5,hl5,by omega,by omega,by omega,g3⟩
 rintro i δ M' hi ⟨x,c,ws,o4,o5,o6,rfl,sT,hr',hl',g0,g1,g2,g3⟩;have hi8:i<=12:=by omega
 refine⟨_,rfl,_,rfl,r,s,x,c,rfl,rfl,hr',g0,by omega,by omega,cy (by omega),fun x1 p hp0 hp1=>?_⟩;refine⟨_,rfl,_,rfl,r,s,x1,c+1,rfl,rfl,ai,by omega,by omega,by omega,cy (by omega),fun x2 q hq0 hq1=>⟨nbL rfl,?_⟩⟩;refine⟨_,rfl,_,rfl,r,s,x2,c+1+1,rfl,rfl,ai,by omega,by omega,by omega,cy (by omega),fun x3 e he0 he1=>?_⟩;refine⟨_,rfl,_,rfl,r,s,x3,c+1+1+1,rfl,rfl,ai,by omega,by omega,by omega,cy (by omega),fun x4 f hf0 hf1=>⟨nbL rfl,?_⟩⟩;have hl4:(ax (ax (ax (ax M' r (.lst [.int x1,.int (c+1)])) r (.lst [.int x2,.int (c+1+1)])) r (.lst [.int x3,.int (c+1+1+1)])) r (.lst [.int x4,.int (c+1+1+1+1)])) l=some (.lst (ws.map uw)):=by rw[ak nrl.symm,ak nrl.symm,ak nrl.symm,ak nrl.symm];exact hl'
 have hr4:(ax (ax (ax (ax M' r (.lst [.int x1,.int (c+1)])) r (.lst [.int x2,.int (c+1+1)])) r (.lst [.int x3,.int (c+1+1+1)])) r (.lst [.int x4,.int (c+1+1+1+1)])) r=some (.lst [.int x4,.int (c+1+1+1+1)]):=ai;have sT4:cD r M (ax (ax (ax (ax M' r (.lst [.int x1,.int (c+1)])) r (.lst [.int x2,.int (c+1+1)])) r (.lst [.int x3,.int (c+1+1+1)])) r (.lst [.int x4,.int (c+1+1+1+1)])):=(((sT.atR).atR).atR).atR;generalize ax (ax (ax (ax M' r (.lst [.int x1,.int (c+1)])) r (.lst [.int x2,.int (c+1+1)])) r (.lst [.int x3,.int (c+1+1+1)])) r (.lst [.int x4,.int (c+1+1+1+1)])=M4 at hl4 hr4 sT4 ⊢;(try dsimp only[SD.aQ])
 refine bV (fun δ M'=>∃(x c' p q:Int),δ=[some (.ref r),some (.int m),some (.int s),some (.ref l),some (.int (i:Int)),some (.tup [.int p,.int q]),some (.tup [.int e,.int f])]/\cD r M M'/\M' r=some (.lst [.int x,.int c'])/\M' l=some (.lst (ws.map uw))/\0<=c'/\c'<=c+10/\(0<=p/\p<=20)/\(0<=q/\q<=20)) ?_ (fun hu=>?_);rotate_left
 ·refine⟨_,rfl,nbL rfl,fun z hz=>?_⟩;have nrz:r≠z:=av hr4 hz;have nlz:l≠z:=av hl4 hz;have hl5:(ax M4 z (.lst [])) l=some (.lst (ws.map uw)):=by rw[ak nlz];exact hl4
  have hr5:(ax M4 z (.lst [])) r=some (.lst [.int x4,.int (c+1+1+1+1)]):=by rw[ak nrz];exact hr4
  refine⟨_,_,.lst hl5 (pY ws),.lst ai .nil,kH ws,rfl,_,rfl,?_⟩;rw[jx];refine bL (fun hne=>?_) (fun hnil=>?_)
  ·have hpos:0<ws.length:=by
    cases ws with
    |nil=>simp at hne
    |cons w ws=>simp
   refine⟨_,rfl,r,4,x4,c+1+1+1+1,rfl,rfl,hr5,by omega,by omega,by decide,cy (by decide),fun x5 v5 h50 h51=>⟨_,rfl,?_⟩⟩;have hl6:(ax (ax M4 z (.lst [])) r (.lst [.int x5,.int (c+1+1+1+1+1)])) l=some (.lst (ws.map uw)):=by rw[ak nrl.symm];exact hl5
   refine bL (fun _=>?_) (fun _=>?_)
   ·refine⟨_,rfl,_,rfl,_,rfl,_,hl6,r,((ws.map uw).length:Int),x5,c+1+1+1+1+1,rfl,rfl,ai,by omega,by omega,by simpa using hpos,cy (by simp;omega),fun x6 v6 h60 h61=>?_⟩;obtain⟨w,hw,ew⟩:=qQ (ws:=ws) h60 (by simpa using h61);have hw5:=g3 w hw;refine⟨_,_,(by rw[ak nrl.symm];exact hl6),ew,?_⟩;refine⟨_,rfl,r,2,x6,c+1+1+1+1+1+1,rfl,rfl,ai,by omega,by omega,by decide,cy (by decide),fun x7 v7 h70 h71=>?_⟩;obtain⟨a,b,ea,ha,hb⟩:=wG hw5 h70 h71;refine⟨_,ea,hu _ _ ⟨x7,_,a,b,rfl,(((sT4.fresh hz).atR).atR).atR,ai,(by rw[ak nrl.symm,ak nrl.symm];exact hl6),by omega,by omega,ha,hb⟩⟩
   ·exact hu _ _ ⟨x5,_,p,q,rfl,(sT4.fresh hz).atR,ai,hl6,by omega,by omega,by omega,by omega⟩
  ·refine dQ rfl ?_;exact hu _ _ ⟨x4,_,p,q,rfl,sT4.fresh hz,hr5,hl5,by omega,by omega,by omega,by omega⟩
 rintro δ M5 ⟨x5,c5,p,q,rfl,sT5,hr5,hl5,k0,k1,hp,hq⟩;have he:0<=e/\e<=20:=by omega
 have hf:0<=f/\f<=20:=by omega
 have he5:e<=5:=by omega
 refine bV (fun δ M'=>∃(x c' g h:Int),δ=[some (.ref r),some (.int m),some (.int s),some (.ref l),some (.int (i:Int)),some (.tup [.int p,.int q]),some (.tup [.int g,.int h])]/\cD r M M'/\M' r=some (.lst [.int x,.int c'])/\M' l=some (.lst (ws.map uw))/\0<=c'/\c'<=c+11/\(0<=g/\g<=20)/\(0<=h/\h<=20)/\¬(p=g/\q=h)) ?_ (fun hv=>?_);rotate_left
 ·refine⟨_,rfl,_,rfl,_,_,Pd.of rfl,Pd.of rfl,rfl,rfl,_,rfl,?_⟩;rw[rj];refine bL (fun heq=>?_) (fun hne=>?_)
  ·have heq:p=e/\q=f:=by simpa using heq
   obtain⟨rfl,rfl⟩:=heq;refine⟨_,rfl,_,rfl,_,rfl,r,2,x5,c5,rfl,rfl,hr5,k0,by omega,by decide,cy (by decide),fun x7 v7 h70 h71=>?_⟩;refine⟨_,rfl,_,rfl,nbL rfl,?_⟩;exact hv _ _ ⟨x7,_,p+1+v7,q,rfl,sT5.atR,ai,(by rw[ak nrl.symm];exact hl5),by omega,by omega,by omega,hq,by omega⟩
  ·have hne:¬(p=e/\q=f):=by simpa using hne
   exact hv _ _ ⟨x5,c5,e,f,rfl,sT5,hr5,hl5,k0,by omega,he,hf,hne⟩
 rintro δ M6 ⟨x6,c6,g,h,rfl,sT6,hr6,hl6,n0,n1,hg,hh,hne⟩;refine⟨_,rfl,l,_,rfl,hl6,?_⟩;refine⟨_,rfl,_,rfl,[p,q],[g,h],rfl,rfl,?_⟩;refine⟨_,rfl,_,rfl,[p,q],[g,h],rfl,rfl,nbL rfl,?_⟩;obtain⟨w,e1,e2,hw⟩:=sQ hp hq hg hh hne;rw[e1,e2];refine⟨ws.map uw,_,rfl,hl6,by simp;omega,?_⟩;refine⟨x6,c6,ws++[w],_,_,_,rfl,sT6.old hl,by rw[ak nrl];exact hr6,by rw[ai,Fg];rfl,n0,by omega,by simp;omega,fun v hv=>?_⟩;rcases EM.mp hv with y|y
 ·exact g3 v y
 ·rw[F1.mp y];exact hw
theorem h9:FnScope ["_law_one","_law_other"] ["_law_one","_law_other"] (aq cQ):=by walk_at "sc"
inductive Cn_law_is_sooner(x y:D)(M:MH)(Q:DK):Prop
 |mk (a b c d:Rat) (_:x=Ma.spt a b) (_:y=Ma.spt c d) (_:Ma.Bq 100 a) (_:Ma.Bq 100 b) (_:Ma.Bq 100 c) (_:Ma.Bq 100 d) (_:Q (.bl (decide (Ma.ah a b c d))) M)
theorem iK(T:Tx K mg):Cal P w K mg base 1 "_law_is_sooner" (sD2 Cn_law_is_sooner):=by
 refine a9 (k:=0) T.f_law_is_sooner h9 fun f cdv A outer s H E hr=>⟨_,(aj (aS (aG (fQ hr.units) (au (dv 0) af) (au (dv 1) af)) (ar (aC (gZ (c7 hr.units) (aw aF (au (au (dv 0) af) af) (au (au (dv 1) af) af)) (aw aF (au (au (dv 1) af) af) (au (au (dv 0) af) af))))) aJ) (ar (aC (gZ (c7 hr.units) (aw aF (au (au (dv 0) af) af) (au (au (dv 1) af) af)) (aw aF (au (au (dv 1) af) af) (au (au (dv 0) af) af)))))),fun _ _ M Q h=>?_⟩;obtain⟨a,b,c,d,rfl,rfl,ha,hb,hc,hd,k⟩:=h;have lt:∀(q r:Rat),decide (q.num*(r.den:Int)<r.num*(q.den:Int))=decide (q<r):=Ma.zX;have m1:=ha.mOk hc (by decide);have m2:=hb.mOk hd (by decide);refine⟨_,rfl,_,rfl,_,rfl,_,rfl,_,_,Pd.of rfl,Pd.of rfl,rfl,rfl,_,rfl,?_⟩;rw[Ma.uD];refine bL (fun e=>?_) (fun e=>?_)
 ·have e:¬a=c:=by simpa using e
  refine⟨_,rfl,_,rfl,_,rfl,_,rfl,_,rfl,_,rfl,m1.2.1,_,rfl,_,rfl,_,rfl,_,rfl,_,rfl,_,rfl,m1.2.2.1,trivial,?_⟩;dsimp only;rw[lt,decide_eq_decide.mpr (show a<c↔Ma.ah a b c d from⟨fun h=>.inl h,fun h=>h.elim id (fun h=>absurd h.1 e)⟩)];exact rtn k
 ·have e:a=c:=by simpa using e
  subst e;refine⟨_,rfl,_,rfl,_,rfl,_,rfl,_,rfl,_,rfl,m2.2.1,_,rfl,_,rfl,_,rfl,_,rfl,_,rfl,_,rfl,m2.2.2.1,trivial,?_⟩;dsimp only;rw[lt,decide_eq_decide.mpr (show b<d↔Ma.ah a b a d from⟨fun h=>.inr ⟨rfl,h⟩,fun h=>h.elim (fun h=>absurd h Rat.lt_irrefl) (fun h=>h.2)⟩)];exact rtn k
theorem bU:FnScope ["_law_spots","_law_found","_law_spot_here","_law_at"] ["_law_spots"] (aq eJ):=by walk_at "sc"
inductive Cn_law_sorted(x:D)(M:MH)(Q:DK):Prop
 |mk (l:Addr) (vs:List Sq) (_:x=.ref l) (_:M l=some (.lst (vs.map spq))) (_:vs.length<=100000) (_:(∀v∈vs,BS v)) (_:∀(M':MH) (z:Addr) (fs:List Sq),SD.Sub M M'->M z=none->M' z=some (.lst (fs.map spq))->fs.Pairwise plq->(∀v,v∈fs↔v∈vs)->fs.length<=vs.length->Q (.ref z) M')
theorem eF(T:Tx K mg):Cal P w K mg base 2 "_law_sorted" (sD1 Cn_law_sorted):=by
 refine jk (k:=1) T.f_law_sorted bU fun f cdv A outer s H E hr=>⟨_,(aj (aA 1 bU.nd (bR ag)) (aj (cE Fn rfl (bQ (dv 0)) (aE 2 bU.nd) (aj (aA 3 bU.nd af) (aj (gJ Fn (iH (fz (aG (c7 hr.units) (dv 3) (aD dU rfl T.b_len cC (ae (dv 1) ag))) (dH (dX (ao (iK T).m hr (ae (au (dv 1) (dv 3)) (ae (dv 2) ag))))))) (ar (aA 3 bU.nd (aw aO (dv 3) af)))) (ar (aS (aG (fQ hr.units) (fy (dv 1) (eC (dv 3)) (eC (aw aO (dv 3) af))) (bR (ae (dv 2) ag))) (ar (fG (iE (dv 1) (ae (dv 3) (ae (dv 2) ag))))) aJ))))) (ar (aC (dv 1))))),fun _ M Q h=>?_⟩;obtain⟨l,vs,rfl,hl,hn,hB,k⟩:=h;refine⟨nbL rfl,fun z hz=>?_⟩;have nlz:l≠z:=av hl hz;refine⟨_,rfl,vs.map spq,(by show(ax M z _) l=_;rw[ak nlz];exact hl),?_⟩;refine⟨fun i δ M'=>∃(fs:List Sq) (o2 o3:Option D),δ=[some (.ref l),some (.ref z),o2,o3]/\SD.Sub M M'/\M' z=some (.lst (fs.map spq))/\fs.Pairwise plq/\(∀v,v∈fs↔v∈vs.take i)/\fs.length<=i,⟨[],_,_,rfl,.new hz .refl,ai,.nil,by simp,Fz _⟩,fun i δ M' _ q=>let⟨_,_,_,_,sb,_⟩:=q;sb _ _ hl,?_,?_⟩;rotate_left
 ·rintro δ M' ⟨fs,o2,o3,rfl,sb,hz',up,me,ln⟩;have e:(vs.map spq).length=vs.length:=E6 ..;refine⟨_,rfl,rtn (k M' z fs sb hz hz' up (fun v=>?_) (by rw[<-e];exact ln))⟩;rw[me v];show v∈vs.take (vs.map spq).length↔_;rw[e,Gm]
 rintro i d δ M' hi hd ⟨fs,o2,o3,rfl,sb,hz',up,me,ln⟩;have hd:(vs.map spq)[i]?=some d:=hd;rw[EN]at hd;cases ev:vs[i]? with
 |none=>rw[ev]at hd;cases hd
 |some v=>
 rw[ev]at hd;cases hd;have iv:i<vs.length:=(EB.mp ev).1;have bv:=hB v (F0 ev);have bf:∀u∈fs,BS u:=fun u hu=>hB u (List.mem_of_mem_take ((me u).mp hu));have mt:∀u,u∈vs.take (i+1)↔u∈fs\/u=v:=fun u=>by rw[G9,ev,EM,me u];simp
 change fS (rC _ _) _ _ _ _;refine bV (fun δ M''=>M''=M'/\∃j:Nat,δ=[some (.ref l),some (.ref z),some (spq v),some (.int (j:Int))]/\j<=fs.length/\(∀i x,i<j->fs[i]?=some x->plq x v)/\(∀x,fs[j]?=some x->¬plq x v)) ?_ (fun hu=>?_);rotate_left
 ·refine⟨fun m δ M''=>M''=M'/\∃j:Nat,δ=[some (.ref l),some (.ref z),some (spq v),some (.int (j:Int))]/\j<=fs.length/\(∀i x,i<j->fs[i]?=some x->plq x v)/\m=fs.length-j,⟨_,rfl,0,rfl,Fz _,fun i x h=>absurd h (Nat.not_lt_zero _),rfl⟩,?_⟩;rintro m δ M'' ⟨rfl,j,rfl,hj,lo,hm⟩;refine⟨_,rfl,_,rfl,_,hz',trivial,_,rfl,?_⟩;refine bL (fun h=>?_) (fun h=>?_)
  ·have hjl:j<fs.length:=by simpa using h
   have ej:fs[j]?=some fs[j]:=EL hjl;have bj:=bf _ (List.getElem_mem hjl);refine⟨_,rfl,_,rfl,_,_,hz',iQ (by rw[EN,ej];rfl),_,rfl,_,_,_,_,rfl,rfl,bj.1,bj.2,bv.1,bv.2,_,rfl,?_⟩;refine bL (fun h=>?_) (fun h=>?_)
   ·have hp:plq fs[j] v:=by simpa[plq]using h
    refine⟨_,rfl,fs.length-(j+1),by omega,rfl,j+1,rfl,by omega,fun i x hi e=>?_,rfl⟩;by_cases y:i=j
    ·subst y;rw[ej]at e;cases e;exact hp
    ·exact lo i x (by omega) e
   ·have hp:¬plq fs[j] v:=by simpa[plq]using h
    exact hu _ _ ⟨rfl,j,rfl,hj,lo,fun x e=>by rw[ej]at e;cases e;exact hp⟩
  ·have hjl:¬j<fs.length:=by simpa using h
   exact dQ rfl (hu _ _ ⟨rfl,j,rfl,hj,lo,fun x e=>by rw[List.getElem?_eq_none (by omega)]at e;cases e⟩)
 rintro δ M'' ⟨rfl,j,rfl,hj,lo,hjx⟩;have hi2:=zL up hjx;have mem:=Cp up lo hi2;refine⟨_,rfl,_,rfl,_,rfl,_,rfl,_,rfl,_,hz',fun p hp=>?_⟩;rw[Dd _ _ _ hj];have npz:z≠p:=av hz' hp;refine⟨_,rfl,nbL rfl,fun p2 hp2=>?_⟩;have np2:z≠p2:=av (by rw[ak npz];exact hz') hp2;have npp:p≠p2:=fun e=>by subst e;rw[ai]at hp2;cases hp2
 have sb2:=SD.Sub.new (o:=.lst [spq v]) hp2 (SD.Sub.new (o:=.lst (Gr spq fs[j]?.toList)) hp sb);have hz2:ax (ax M'' p (.lst (Gr spq fs[j]?.toList))) p2 (.lst [spq v]) z=some (.lst (fs.map spq)):=by rw[ak np2,ak npz];exact hz'
 refine⟨_,_,.lst (by rw[ak npp,ai]) (l4 _),.lst ai (l4 [v]),yL _,rfl,_,rfl,?_⟩;rw[yh];refine bL (fun h=>?_) (fun h=>?_)
 ·have nv:v∉fs:=fun q=>by rw[mem.mp q]at h;simp at h
  refine⟨_,rfl,z,_,rfl,hz2,_,rfl,_,rfl,_,_,j,rfl,hz2,by rw[E6];exact hj,by rw[E6];omega,fP fs j v,_,_,rfl,fun a o h=>?_,by rw[ai];unfold fP;simp,rF up lo hi2 nv,fun u=>?_,?_⟩
  ·rw[ak (av h hz)];exact sb2 _ _ h
  ·rw[rq,mt u]
  ·unfold fP;simp;omega
 ·have yv:v∈fs:=mem.mpr (by simpa using h);refine⟨fs,_,_,rfl,sb2,hz2,up,fun u=>?_,by omega⟩;rw[mt u];exact⟨.inl,fun q=>q.elim id fun e=>by rw[e];exact yv⟩
theorem cG:FnScope ["_law_pieces_here","_law_found","_law_first"] ["_law_pieces_here"] (aq d9):=by walk_at "sc"
inductive Cn_law_in_row(x:D)(M:MH)(Q:DK):Prop
 |mk (l:Addr) (ps:List Pc) (_:x=.ref l) (_:M l=some (.lst (ps.map pcq))) (_:ps.length<=3000) (_:(∀y∈ps,BS y.1/\BS y.2)) (_:∀(M':MH) (z:Addr) (qs:List Pc),SD.Sub M M'->M z=none->M' z=some (.lst (qs.map pcq))->qs.Pairwise pcl->(∀y,y∈qs↔y∈ps)->Q (.ref z) M')
theorem mL(T:Tx K mg):Cal P w K mg base 3 "_law_in_row" (sD1 Cn_law_in_row):=by
 refine jk (k:=2) T.f_law_in_row cG fun f cdv A outer s H E hr=>⟨_,(aj (aA 1 cG.nd (bR ag)) (aj (cE Fn rfl (bQ (ao (eF T).m hr (ae (gH (CScope.of (xs:=["_law_piece"]) (js:=[]) rfl) rfl (bQ (dv 0)) (fun _ _ _ _=>fK) (fun _ _ _ _=>(au (dv 0) af))) ag))) (aE 2 cG.nd) (ar (aA 1 cG.nd (aw aO (dv 1) (gH (CScope.of (xs:=["_law_second"]) (js:=[2]) rfl) rfl (bQ (ao (eF T).m hr (ae (gH (CScope.of (xs:=["_law_one"]) (js:=[2]) rfl) rfl (bQ (dv 0)) (fun _ _ _ _=>(qV (aG (cw hr.units) (au (dv 0) af) (dv 1)))) (fun _ _ _ _=>(au (dv 0) af))) ag))) (fun _ _ _ _=>fK) (fun _ _ _ _=>(aK (ae (dv 1) (ae (dv 0) ag))))))))) (ar (aC (dv 1))))),fun _ M Q h=>?_⟩;obtain⟨l,ps,rfl,hl,hn,hB,k⟩:=h;refine⟨nbL rfl,fun z0 hz0=>?_⟩;have hl0:(ax M z0 (.lst [])) l=some (.lst (ps.map pcq)):=by rw[ak (av hl hz0)];exact hl
 have pl:(ps.map pcq).length=ps.length:=E6 ..;refine⟨_,rfl,ps.map pcq,hl0,comp_map (fun i=>(((ps.map fun y=>spq y.1))[i]?).getD .non) (by show(ps.map pcq).length<=_;omega) (fun p ys hp=>by show(ax _ p _) l=_;rw[ak (av hl0 hp)];exact hl0) ?_ (fun p hp=>?_)⟩
 ·intro i e M2 hi he _;have he:(ps.map pcq)[i]?=some e:=he;rw[EN]at he;cases ey:ps[i]? with
  |none=>rw[ey]at he;cases he
  |some y=>
   rw[ey]at he
   cases he
   refine⟨_,rfl,fun K hK=>?_⟩
   have hK:=hK _ .refl
   rw[getD_map ey]at hK
   exact⟨_,rfl,_,rfl,hK⟩
 have e1:(Fl (ps.map pcq).length).map (fun i=>(((ps.map fun y=>spq y.1))[i]?).getD .non)=(ps.map (·.1)).map spq:=by
  have:=SD.range_getD (ps.map fun y=>spq y.1)
  rw[E6]at this ⊢
  rw[this,GR];rfl
 dsimp only;rw[e1];have sb1:SD.Sub M (ax (ax M z0 (.lst [])) p (.lst ((ps.map (·.1)).map spq))):=.new hp (.new hz0 .refl);have hz1:(ax (ax M z0 (.lst [])) p (.lst ((ps.map (·.1)).map spq))) z0=some (.lst []):=by rw[ak (fun q=>by subst q;rw[ai]at hp;cases hp),ai]
 refine⟨p,ps.map (·.1),rfl,ai,by rw[E6];omega,fun v hv=>?_,fun M3 f1 fs sb3 hf1 hf3 up3 me3 ln3=>?_⟩
 ·obtain⟨y,hy,rfl⟩:=FH.mp hv;exact(hB y hy).1
 have sbM:SD.Sub M M3:=fun a o e=>sb3 _ _ (sb1 _ _ e);have fl:(fs.map spq).length=fs.length:=E6 ..;rw[E6]at ln3;refine⟨fs.map spq,hf3,?_⟩;refine⟨fun i δ M'=>∃(z:Addr) (qs:List Pc) (o2:Option D),δ=[some (.ref l),some (.ref z),o2]/\SD.Sub M3 M'/\M z=none/\M' z=some (.lst (qs.map pcq))/\qs.Pairwise pcl/\(∀y,y∈qs↔y∈ps/\y.1∈fs.take i)/\qs.length<=3000*i,⟨z0,[],_,rfl,.refl,hz0,sb3 _ _ hz1,.nil,by simp,Fz _⟩,fun i δ M' _ q=>let⟨_,_,_,_,sb,_⟩:=q;sb _ _ hf3,?_,?_⟩;rotate_left
 ·rintro δ M' ⟨z,qs,o2,rfl,sb,hz,hz',up,me,ln⟩;refine⟨_,rfl,rtn (k M' z qs (fun a o e=>sb _ _ (sbM _ _ e)) hz hz' up fun y=>?_)⟩;rw[me y];show _/\y.1∈fs.take (fs.map spq).length↔_;rw[fl,Gm,me3];exact⟨fun h=>h.1,fun h=>⟨h,FH.mpr ⟨y,h,rfl⟩⟩⟩
 rintro i d δ M' hi hd ⟨z,qs,o2,rfl,sb,hz,hz',up,me,ln⟩;have hd:(fs.map spq)[i]?=some d:=hd;rw[EN]at hd;cases ev:fs[i]? with
 |none=>rw[ev]at hd;cases hd
 |some v=>
 rw[ev]at hd;cases hd;have iv:i<fs.length:=(EB.mp ev).1;have hl':=sb _ _ (sbM _ _ hl);refine⟨_,rfl,_,rfl,ps.map pcq,hl',rV (fun i=>(ps[i]?).bind fun y=>(if y.1=v then some y.2 else none).map spq) (by show(ps.map pcq).length<=_;omega) (fun p ys hp=>by show(ax _ p _) l=_;rw[ak (av hl' hp)];exact hl') ?_ (fun p2 hp2=>?_)⟩
 ·intro j e M5 hj he _;have he:(ps.map pcq)[j]?=some e:=he;rw[EN]at he;cases ey:ps[j]? with
  |none=>rw[ey]at he;cases he
  |some y=>
   rw[ey]at he
   cases he
   refine⟨_,rfl,fun K hK=>⟨_,rfl,_,rfl,_,rfl,spP y.1,spP v,Pd.of rfl,Pd.of rfl,rfl,rfl,_,rfl,?_⟩,fun e he K hK=>⟨_,rfl,_,rfl,?_⟩⟩
   ·rw[rO];by_cases m:y.1=v
    ·simpa[m]using hK
    ·simpa[m]using hK
   ·by_cases m:y.1=v
    ·simp[m]at he;subst he;exact hK _ .refl
    ·simp[m]at he
 have e2:(Fl (ps.map pcq).length).filterMap (fun i=>(ps[i]?).bind fun y=>(if y.1=v then some y.2 else none).map spq)=(sec ps v).map spq:=by rw[pl,nB];unfold sec;rw[List.map_filterMap]
 dsimp only;rw[e2];have sl:=xR ps v;refine⟨p2,sec ps v,rfl,ai,by omega,fun x hx=>(hB _ (mC.mp hx)).2,fun M6 f2 ss sb6 hf2 hf6 up6 me6 ln6=>?_⟩;have fl2:(ss.map spq).length=ss.length:=E6 ..;have sb7:SD.Sub M3 M6:=fun a o e=>sb6 _ _ ((SD.Sub.new hp2 sb) _ _ e);have hz6:M6 z=some (.lst (qs.map pcq)):=sb6 _ _ (by rw[ak (av hz' hp2)];exact hz');refine⟨ss.map spq,hf6,comp_map (fun j=>(((ss.map fun x=>pcq (v,x)))[j]?).getD .non) (by show(ss.map spq).length<=_;omega) (fun p ys hp=>by show(ax _ p _) f2=_;rw[ak (av hf6 hp)];exact hf6) ?_ (fun p3 hp3=>?_)⟩
 ·intro j e M8 hj he _;have he:(ss.map spq)[j]?=some e:=he;rw[EN]at he;cases ex:ss[j]? with
  |none=>rw[ex]at he;cases he
  |some x=>
   rw[ex]at he
   cases he
   refine⟨_,rfl,fun K hK=>?_⟩
   have hK:=hK _ .refl
   rw[getD_map ex]at hK
   exact⟨_,rfl,_,rfl,nbL rfl,hK⟩
 have e3:(Fl (ss.map spq).length).map (fun j=>(((ss.map fun x=>pcq (v,x)))[j]?).getD .non)=(ss.map fun x=>(v,x)).map pcq:=by
  have:=SD.range_getD (ss.map fun x=>pcq (v,x))
  rw[E6]at this ⊢
  rw[this,GR];rfl
 dsimp only;rw[e3];have hz9:(ax M6 p3 (.lst ((ss.map fun x=>(v,x)).map pcq))) z=some (.lst (qs.map pcq)):=by rw[ak (av hz6 hp3)];exact hz6
 refine⟨_,_,hz9,ai,?_,fun p4 hp4=>?_⟩
 ·rw[Gi,E6,E6,E6];omega
 have sb9:SD.Sub M3 (ax M6 p3 (.lst ((ss.map fun x=>(v,x)).map pcq))):=.new hp3 sb7;refine⟨p4,qs++ss.map fun x=>(v,x),_,rfl,.new hp4 sb9,cM sbM (cM sb9 hp4),by rw[ai,Fg],?_,fun y=>?_,by rw[Gh,E6];omega⟩
 ·refine List.pairwise_append.mpr ⟨up,List.pairwise_map.mpr (up6.imp fun h=>.inr ⟨rfl,h⟩),fun y hy w hw=>?_⟩;obtain⟨x,hx,rfl⟩:=FH.mp hw;have h2:=((me y).mp hy).2;obtain⟨j,hj,e⟩:=GQ h2;rw[FJ]at hj;rw[List.getElem_take]at e;have:=Fj.mp up3 j i (by omega) iv (by omega);rw[e,(EB.mp ev).2]at this;exact .inl this
 ·rw[EM,me y,G9,ev,EM];constructor
  ·rintro(⟨h1,h2⟩|h)
   ·exact⟨h1,.inl h2⟩
   ·obtain⟨x,hx,rfl⟩:=FH.mp h;exact⟨mC.mp ((me6 x).mp hx),.inr (by simp)⟩
  ·rintro⟨h1,h2|h2⟩
   ·exact .inl ⟨h1,h2⟩
   ·refine .inr (FH.mpr ⟨y.2,(me6 _).mpr (mC.mpr ?_),?_⟩)
    ·rw[<-show y.1=v by simpa using h2];exact h1
    ·rw[<-show y.1=v by simpa using h2]
theorem dh:FnScope ["_law_top","_law_bottom","_law_one","_law_other"] ["_law_top","_law_bottom"] (aq gR):=by walk_at "sc"
inductive Cn_law_low(x y:D)(M:MH)(Q:DK):Prop
 |mk (t:_) (b:_) (_:x=.int t) (_:y=.int b) (_:b≠0) (_:Bd 8000 t) (_:Bd 8000 b) (_:Q (Ma.fr (Rat.divInt t b)) M)
theorem fJ(T:Tx K mg):Cal P w K mg base 1 "_law_low" (sD2 Cn_law_low):=by
 refine a9 (k:=0) T.f_law_low dh fun f cdv A outer s H E hr=>⟨_,(aj (aA 2 dh.nd (aD fb rfl T.b_abs fo (ae (dv 0) ag))) (aj (aA 3 dh.nd (aD fb rfl T.b_abs fo (ae (dv 1) ag))) (aj (gJ Fn (aG (fQ hr.units) (dv 3) af) (ar (eO 2 3 rfl dh.nd (ae (dv 3) (ae (aw fT (dv 2) (dv 3)) ag))))) (aj (aS (aG (c7 hr.units) (dv 1) af) (ar (aA 2 dh.nd (lK fE (dv 2)))) aJ) (ar (aC (aK (ae (aw jQ (dv 0) (dv 2)) (ae (aw jQ (dv 1) (dv 2)) ag))))))))),fun _ _ M Q h=>?_⟩;obtain⟨t,b,rfl,rfl,hb,ht,hbb,q⟩:=h;refine⟨_,rfl,_,rfl,?_⟩;have hg:=Ma.rG (t:=t) hb;have hgd:Bd 8000 ((Nat.gcd t.natAbs b.natAbs:Nat):Int):=hbb.of_le (by simpa using Nat.gcd_le_right t.natAbs (show 0<b.natAbs by omega));refine⟨fun m δ M'=>M'=M/\∃x y:Nat,δ=[some (.int t),some (.int b),some (.int x),some (.int y)]/\Nat.gcd x y=Nat.gcd t.natAbs b.natAbs/\m=y,⟨_,rfl,_,_,rfl,rfl,rfl⟩,?_⟩;rintro m δ M' ⟨rfl,x,y,rfl,hxy,hm⟩;refine⟨_,rfl,_,rfl,?_⟩;refine bL (fun h=>?_) (fun h=>?_)
 ·have hy:(y:Int)≠0:=by simpa using h
  refine⟨_,rfl,_,rfl,_,rfl,hy,_,_,rfl,?_⟩;have hy':0<y:=by omega
  refine⟨x%y,by rw[hm];exact Nat.mod_lt _ hy',rfl,y,x%y,?_,?_,rfl⟩
  ·rw[<-Ma.qB];rfl
  ·rw[<-hxy,Nat.gcd_comm x y,Nat.gcd_rec y x,Nat.gcd_comm]
 ·have hy:y=0:=by simpa using h
  subst hy;rw[Nat.gcd_zero_right]at hxy;subst hxy;(repeat (first|refine⟨_,rfl,?_⟩|refine⟨trivial,?_⟩|refine⟨_,_,rfl,?_⟩|refine⟨rfl,?_⟩|refine⟨nbL rfl,?_⟩))
  refine bL (fun h=>?_) (fun h=>?_)
  ·have hneg:b<0:=by simpa using h
   obtain⟨e1,e2⟩:=Ma.r0 (t:=t) hneg;refine⟨_,rfl,_,rfl,_,rfl,⟨by omega,hgd.neg⟩,_,rfl,_,rfl,⟨by omega,hgd.neg⟩,nbL rfl,?_⟩;dsimp only;rw[e1,e2];exact rtn q
  ·have hpos:0<b:=by
    have:¬b<0:=by simpa using h
    omega
   obtain⟨e1,e2⟩:=Ma.rL (t:=t) hpos;refine⟨_,rfl,_,rfl,⟨by omega,hgd⟩,_,rfl,_,rfl,⟨by omega,hgd⟩,nbL rfl,?_⟩;dsimp only;rw[e1,e2];exact rtn q
theorem cK:FnScope ["_law_scale_here","_law_unit","_law_top","_law_bottom","_law_x","_law_y"] ["_law_scale_here","_law_unit"] (aq fU):=by walk_at "sc"
inductive Cn_law_spot(s v:D)(M:MH)(Q:DK):Prop
 |mk (t b x y p q:Int) (_:s=scl t b x y) (_:v=.tup [.int p,.int q]) (_:Scl t b x y) (_:(-(10^6)<=p/\p<=10^6)) (_:(-(10^6)<=q/\q<=10^6)) (_:Q (Ma.spt (Ma.ut t b x 1 p) (Ma.ut t b y 1 q)) M)
theorem dk(T:Tx K mg):Cal P w K mg base 2 "_law_spot" (sD2 Cn_law_spot):=by
 refine a9 (k:=1) T.f_law_spot cK fun f cdv A outer s H E hr=>⟨_,(aj (dg (dv 0) (cz rfl (aI (aE 2 cK.nd) (aI (aE 3 cK.nd) (aI (aE 4 cK.nd) (aI (aE 5 cK.nd) bO)))))) (ar (aC (aK (ae (ao (fJ T).m hr (ae (aw aO (aw aF (au (dv 1) af) (dv 2)) (dv 4)) (ae (dv 3) ag))) (ae (ao (fJ T).m hr (ae (aw aO (aw aF (au (dv 1) af) (dv 2)) (dv 5)) (ae (dv 3) ag))) ag)))))),fun _ _ M Q h=>?_⟩;obtain⟨t,b,x,y,p,q,rfl,rfl,S,hp,hq,k⟩:=h;have bt:Bd 64 t:=by have:=S.t0;have:=S.t1;show t.natAbs<2^64;omega
 have bp:∀{z:Int},(-(10^6)<=z/\z<=10^6)->Bd 64 z:=fun{z} h=>by show z.natAbs<2^64;omega
 have bb:Bd 8000 b:=by have:=S.b0;have:=S.b1;exact cy (by omega)
 have big:∀{z w:Int},(-(10^6)<=z/\z<=10^6)->(-(10^17)<=w/\w<=10^17)->Bd 8000 (z*t+w):=fun{z w} h1 h2=>by
  have e1:Bd 128 (z*t):=(bp h1).mul bt
  have e2:Bd 128 w:=cy (by omega)
  exact(e1.add e2).mono (by decide)
 have hb0:b≠0:=by have:=S.b0;omega
 refine⟨_,rfl,_,rfl,rfl,_,_,rfl,_,_,rfl,_,_,rfl,_,_,rfl,rfl,?_⟩;refine⟨_,rfl,_,rfl,_,rfl,cF bt,_,rfl,_,rfl,p*t+x,b,rfl,rfl,hb0,big hp ⟨S.x0,S.x1⟩,bb,?_⟩;refine⟨_,rfl,_,rfl,_,rfl,cF bt,_,rfl,_,rfl,q*t+y,b,rfl,rfl,hb0,big hq ⟨S.y0,S.y1⟩,bb,nbL rfl,?_⟩;rw[Ma.vp,Ma.vp];exact rtn k
theorem nh:FnScope ["_law_one","_law_other"] ["_law_one","_law_other"] (aq fv):=by walk_at "sc"
inductive Cn_law_cross(x y:D)(M:MH)(Q:DK):Prop
 |mk (a b c d:Int) (_:x=.tup [.int a,.int b]) (_:y=.tup [.int c,.int d]) (_:Bd 64 a) (_:Bd 64 b) (_:Q (.int (crs a b c d)) M)
theorem dC(T:Tx K mg):Cal P w K mg base 1 "_law_cross" (sD2 Cn_law_cross):=by refine a9 (k:=0) T.f_law_cross nh fun f cdv A outer s H E hr=>⟨_,(ar (aC (aw cP (aw aF (au (dv 0) af) (au (dv 1) af)) (aw aF (au (dv 0) af) (au (dv 1) af))))),fun _ _ M Q h=>?_⟩;obtain⟨a,b,c,d,rfl,rfl,ha,hb,k⟩:=h;exact⟨_,rfl,_,rfl,_,rfl,_,rfl,bG ha,_,rfl,_,rfl,_,rfl,_,rfl,bG hb,trivial,rtn k⟩
theorem bC:FnScope ["_law_one","_law_other","_law_far","_law_beside","_law_gap","_law_below","_law_first","_law_second","_law_parts"] ["_law_one","_law_other"] (aq fY):=by walk_at "sc"
inductive Cn_law_meet(x y:D)(M:MH)(Q:DK):Prop
 |mk (p q r s e f g h:Int) (_:x=uw (p,q,r,s)) (_:y=uw (e,f,g,h)) (_:Bd 6 p) (_:Bd 6 q) (_:Bd 6 r) (_:Bd 6 s) (_:Bd 6 e) (_:Bd 6 f) (_:Bd 6 g) (_:Bd 6 h) (_:Q (d5 p q r s e f g h) M)
theorem pF(T:Tx K mg):Cal P w K mg base 2 "_law_meet" (sD2 Cn_law_meet):=by
 refine a9 (k:=1) T.f_law_meet bC fun f cdv A outer s H E hr=>⟨_,(aj (aA 2 bC.nd (aK (ae (aw cP (au (au (dv 0) af) af) (au (au (dv 0) af) af)) (ae (aw cP (au (au (dv 0) af) af) (au (au (dv 0) af) af)) ag)))) (aj (aA 3 bC.nd (aK (ae (aw cP (au (au (dv 1) af) af) (au (au (dv 1) af) af)) (ae (aw cP (au (au (dv 1) af) af) (au (au (dv 1) af) af)) ag)))) (aj (aA 4 bC.nd (aK (ae (aw cP (au (au (dv 1) af) af) (au (au (dv 0) af) af)) (ae (aw cP (au (au (dv 1) af) af) (au (au (dv 0) af) af)) ag)))) (aj (aA 5 bC.nd (ao (dC T).m hr (ae (dv 2) (ae (dv 3) ag)))) (aj (aS (aG (cw hr.units) (dv 5) af) (aj (eO 6 7 rfl bC.nd (ae (aD (ra rfl hr.units) rfl T.b_max l0 (ae (au (dv 0) af) (ae (au (dv 1) af) ag))) (ae (aD (rp rfl hr.units) rfl T.b_min mU (ae (au (dv 0) af) (ae (au (dv 1) af) ag))) ag))) (aj (aS (iH (og (aG (fQ hr.units) (ao (dC T).m hr (ae (dv 2) (ae (dv 4) ag))) af) (lP (aG (eV hr.units) (dv 6) (dv 7))))) (ar (aC dP)) aJ) (aj (aS (aG (cw hr.units) (dv 6) (dv 7)) (ar (aC (aK (ae (au (dv 6) af) (ae (au (dv 6) af) (ae af ag)))))) aJ) (ar (aC (aK (ae (dv 6) (ae (dv 7) ag)))))))) aJ) (aj (aA 8 bC.nd (bR (ae (ao (dC T).m hr (ae (dv 4) (ae (dv 3) ag))) (ae (ao (dC T).m hr (ae (dv 4) (ae (dv 2) ag))) ag)))) (aj (aS (aG (c7 hr.units) (dv 5) af) (ar (aA 8 bC.nd (bR (ae (lK fE (au (dv 8) af)) (ae (lK fE (au (dv 8) af)) ag))))) aJ) (aj (aS (iH (og (aG (c7 hr.units) (aD (rp rfl hr.units) rfl T.b_min mU (ae (dv 8) ag)) af) (lP (aG (eV hr.units) (aD (ra rfl hr.units) rfl T.b_max l0 (ae (dv 8) ag)) (aD fb rfl T.b_abs fo (ae (dv 5) ag)))))) (ar (aC dP)) aJ) (ar (aC (aK (ae (aw aO (aw aF (au (au (dv 0) af) af) (aD fb rfl T.b_abs fo (ae (dv 5) ag))) (aw aF (au (dv 8) af) (au (dv 2) af))) (ae (aw aO (aw aF (au (au (dv 0) af) af) (aD fb rfl T.b_abs fo (ae (dv 5) ag))) (aw aF (au (dv 8) af) (au (dv 2) af))) (ae (aD fb rfl T.b_abs fo (ae (dv 5) ag)) ag)))))))))))))),fun _ _ M Q h=>?_⟩;obtain⟨p,q,r,s,e,f,g,h',rfl,rfl,bp,bq,br,bs,be,bf,bg,bh,k⟩:=h;have m64:∀{n:Nat} {z:Int},Bd n z->n<=64->Bd 64 z:=fun z l=>z.mono l;refine⟨_,rfl,_,rfl,_,rfl,_,rfl,_,rfl,_,rfl,trivial,_,rfl,_,rfl,_,rfl,_,rfl,_,rfl,_,rfl,trivial,nbL rfl,?_⟩;refine⟨_,rfl,_,rfl,_,rfl,_,rfl,_,rfl,_,rfl,trivial,_,rfl,_,rfl,_,rfl,_,rfl,_,rfl,_,rfl,trivial,nbL rfl,?_⟩;refine⟨_,rfl,_,rfl,_,rfl,_,rfl,_,rfl,_,rfl,trivial,_,rfl,_,rfl,_,rfl,_,rfl,_,rfl,_,rfl,trivial,nbL rfl,?_⟩;refine⟨_,rfl,_,rfl,r-p,s-q,g-e,h'-f,rfl,rfl,m64 (br.sub bp) (by decide),m64 (bs.sub bq) (by decide),?_⟩;refine⟨_,rfl,_,rfl,?_⟩;unfold d5 at k;dsimp only at k;have bw:=jv (br.sub bp) (bs.sub bq) (bg.sub be) (bh.sub bf);have bK:=jv (be.sub bp) (bf.sub bq) (bg.sub be) (bh.sub bf);have bM:=jv (be.sub bp) (bf.sub bq) (br.sub bp) (bs.sub bq);refine bL (fun z=>?_) (fun z=>?_)
 ·have z:crs (r-p) (s-q) (g-e) (h'-f)=0:=by simpa using z
  rw[if_pos z]at k;refine⟨_,rfl,_,rfl,_,rfl,_,rfl,[p,q],[e,f],rfl,rfl,?_⟩;refine⟨_,rfl,_,rfl,_,rfl,_,rfl,[r,s],[g,h'],rfl,rfl,?_⟩;rw[SD.max_list,SD.min_list];refine⟨_,_,rfl,?_⟩;(try dsimp only[SD.aQ])
  (try dsimp only[SD.fS,SD.fm,SD.aQ,SD.jI,SD.iZ,SD.eE,SD.gh,SD.tBD,SD.jl])
  refine orT (!decide (crs (r-p) (s-q) (e-p) (f-q)=0)) (HT.aU [(bA p q e f).1,(bA p q e f).2] [(bD r s g h').1,(bD r s g h').2]) (fun K hK=>⟨_,rfl,_,rfl,r-p,s-q,e-p,f-q,rfl,rfl,m64 (br.sub bp) (by decide),m64 (bs.sub bq) (by decide),_,rfl,hK⟩) (fun _ K hK=>⟨_,rfl,_,rfl,_,_,rfl,rfl,_,rfl,hK⟩) ?_;by_cases c:crs (r-p) (s-q) (e-p) (f-q)≠0\/HT.aU [(bA p q e f).1,(bA p q e f).2] [(bD r s g h').1,(bD r s g h').2]=true
  ·rw[if_pos c]at k
   have cb:(!decide (crs (r-p) (s-q) (e-p) (f-q)=0)||HT.aU [(bA p q e f).1,(bA p q e f).2] [(bD r s g h').1,(bD r s g h').2])=true:=by
    rcases c with c|c
    ·rw[decide_eq_false c];rfl
    ·rw[c,Bool.or_true]
   exact gz cb (rtn k)
  rw[if_neg c]at k
  have cb:(!decide (crs (r-p) (s-q) (e-p) (f-q)=0)||HT.aU [(bA p q e f).1,(bA p q e f).2] [(bD r s g h').1,(bD r s g h').2])=false:=by
   have c1:crs (r-p) (s-q) (e-p) (f-q)=0:=by
    by_cases y:crs (r-p) (s-q) (e-p) (f-q)=0
    ·exact y
    ·exact absurd (.inl y) c
   have c2:HT.aU [(bA p q e f).1,(bA p q e f).2] [(bD r s g h').1,(bD r s g h').2]=false:=by
    cases y:HT.aU [(bA p q e f).1,(bA p q e f).2] [(bD r s g h').1,(bD r s g h').2]with
    |false=>rfl
    |true=>exact absurd (.inr y) c
   rw[decide_eq_true c1,c2];rfl
  refine dQ cb ?_;refine⟨_,rfl,_,rfl,_,_,Pd.of rfl,Pd.of rfl,rfl,rfl,?_⟩;rw[rj];refine⟨_,rfl,?_⟩;refine bL (fun y=>?_) (fun y=>?_)
  ·rw[if_pos (by simpa using y)]at k;exact⟨_,rfl,_,rfl,_,rfl,_,rfl,nbL rfl,rtn k⟩
  ·rw[if_neg (by simpa using y)]at k;exact⟨_,rfl,_,rfl,nbL rfl,rtn k⟩
 have z:¬crs (r-p) (s-q) (g-e) (h'-f)=0:=by simpa using z
 rw[if_neg z]at k;refine⟨_,rfl,_,rfl,e-p,f-q,g-e,h'-f,rfl,rfl,m64 (be.sub bp) (by decide),m64 (bf.sub bq) (by decide),?_⟩;refine⟨_,rfl,_,rfl,e-p,f-q,r-p,s-q,rfl,rfl,m64 (be.sub bp) (by decide),m64 (bf.sub bq) (by decide),nbL rfl,fun lp hlp=>?_⟩;generalize crs (r-p) (s-q) (g-e) (h'-f)=W at bw z k;generalize crs (e-p) (f-q) (g-e) (h'-f)=K at bK k;generalize crs (e-p) (f-q) (r-p) (s-q)=N at bM k;(try dsimp only[SD.aQ])
 refine bV (fun δ M'=>∃l o6 o7,SD.Sub M M'/\M' l=some (.lst [.int (if W<0 then -K else K),.int (if W<0 then -N else N)])/\
  δ=[some (uw (p,q,r,s)),some (uw (e,f,g,h')),some (.tup [.int (r-p),.int (s-q)]),some (.tup [.int (g-e),.int (h'-f)]),some (.tup [.int (e-p),.int (f-q)]),some (.int W),o6,o7,some (.ref l)]) ?_ (fun hu=>?_)
 rotate_left
 ·refine⟨_,rfl,trivial,_,rfl,?_⟩;refine bL (fun y=>?_) (fun y=>?_)
  ·have y:W<0:=by simpa using y
   refine⟨_,rfl,_,_,ai,rfl,_,rfl,_,_,ai,rfl,nbL rfl,fun l2 hl2=>?_⟩;exact hu _ _ ⟨l2,_,_,.new hl2 (.new hlp .refl),by rw[ai,if_pos y,if_pos y],rfl⟩
  ·have y:¬W<0:=by simpa using y
   exact hu _ _ ⟨lp,_,_,.new hlp .refl,by rw[ai,if_neg y,if_neg y],rfl⟩
 rintro δ M' ⟨l,o6,o7,sub,hl,rfl⟩
 have bk:Bd 15 (if W<0 then -K else K):=by
  split
  ·exact bK.neg
  ·exact bK
 generalize (if W<0 then -K else K)=kk at bk hl k;generalize (if W<0 then -N else N)=nn at hl k;(try dsimp only[SD.fS,SD.fm,SD.aQ,SD.jI,SD.iZ,SD.eE,SD.gh,SD.tBD,SD.jl])
 refine orT (decide (min kk nn<0)) (decide ((W.natAbs:Int)<max kk nn)) (fun K hK=>⟨_,rfl,kk,nn,hl,trivial,_,rfl,hK⟩) (fun _ K hK=>⟨_,rfl,kk,nn,hl,_,rfl,trivial,_,rfl,hK⟩) ?_;rw[<-Bool.decide_or];refine bL (fun y=>?_) (fun y=>?_)
 ·rw[if_pos (by simpa using y)]at k;exact⟨M,sub,k⟩
 ·rw[if_neg (by simpa using y)]at k;have ba:=vI bw;refine⟨_,rfl,_,rfl,_,rfl,_,rfl,bG (m64 bp (by decide)),_,rfl,_,_,hl,rfl,_,rfl,_,rfl,bG (m64 bk (by decide)),?_⟩;refine⟨_,rfl,_,rfl,_,rfl,_,rfl,bG (m64 bq (by decide)),_,rfl,_,_,hl,rfl,_,rfl,_,rfl,bG (m64 bk (by decide)),_,rfl,nbL rfl,?_⟩;exact⟨M,sub,k⟩
theorem bz:FnScope ["_law_scale_here","_law_told_here","_law_top","_law_bottom","_law_x","_law_y","_law_many"] ["_law_scale_here","_law_told_here"] (aq dR):=by walk_at "sc"
inductive Cn_law_spot_at(s v:D)(M:MH)(Q:DK):Prop
 |mk (t b x y p q m:Int) (_:s=scl t b x y) (_:v=.tup [.int p,.int q,.int m]) (_:Scl t b x y) (_:Bd 30 p) (_:Bd 30 q) (_:Bd 30 m) (_:0<m) (_:Q (Ma.spt (Ma.ut t b x m p) (Ma.ut t b y m q)) M)
theorem j1(T:Tx K mg):Cal P w K mg base 2 "_law_spot_at" (sD2 Cn_law_spot_at):=by
 refine a9 (k:=1) T.f_law_spot_at bz fun f cdv A outer s H E hr=>⟨_,(aj (dg (dv 0) (cz rfl (aI (aE 2 bz.nd) (aI (aE 3 bz.nd) (aI (aE 4 bz.nd) (aI (aE 5 bz.nd) bO)))))) (aj (aA 6 bz.nd (au (dv 1) af)) (ar (aC (aK (ae (ao (fJ T).m hr (ae (aw aO (aw aF (au (dv 1) af) (dv 2)) (aw aF (dv 4) (dv 6))) (ae (aw aF (dv 3) (dv 6)) ag))) (ae (ao (fJ T).m hr (ae (aw aO (aw aF (au (dv 1) af) (dv 2)) (aw aF (dv 5) (dv 6))) (ae (aw aF (dv 3) (dv 6)) ag))) ag))))))),fun _ _ M Q h=>?_⟩;obtain⟨t,b,x,y,p,q,m,rfl,rfl,S,hp,hq,bm,hm,k⟩:=h;have bt:Bd 64 t:=by have:=S.t0;have:=S.t1;show t.natAbs<2^64;omega
 have bb:Bd 64 b:=by have:=S.b0;have:=S.b1;show b.natAbs<2^64;omega
 have bx:Bd 64 x:=by have:=S.x0;have:=S.x1;show x.natAbs<2^64;omega
 have by':Bd 64 y:=by have:=S.y0;have:=S.y1;show y.natAbs<2^64;omega
 have bm64:=bm.mono (show 30<=64 by decide);have big:∀{z w:Int},Bd 30 z->Bd 64 w->Bd 8000 (z*t+w*m):=fun{z w} h1 h2=>(((h1.mul bt).mono (show 30+64<=128 by decide)).add ((h2.mul bm).mono (show 64+30<=128 by decide))).mono (by decide);have hb0:b*m≠0:=by have:=Gx S.b0 hm;omega
 have bbm:Bd 8000 (b*m):=(bb.mul bm).mono (by decide);refine⟨_,rfl,_,rfl,rfl,_,_,rfl,_,_,rfl,_,_,rfl,_,_,rfl,rfl,?_⟩;refine⟨_,rfl,_,rfl,?_⟩;refine⟨_,rfl,_,rfl,_,rfl,cF bt,_,rfl,_,rfl,cF bm64,_,rfl,_,rfl,cF bm64,p*t+x*m,b*m,rfl,rfl,hb0,big hp bx,bbm,?_⟩;refine⟨_,rfl,_,rfl,_,rfl,cF bt,_,rfl,_,rfl,cF bm64,_,rfl,_,rfl,cF bm64,q*t+y*m,b*m,rfl,rfl,hb0,big hq by',bbm,nbL rfl,?_⟩;exact rtn k
theorem aT:FnScope ["_law_scale_here","_law_shuts","_law_found","_law_shut","_law_cuts","_law_other","_law_told_here"] ["_law_scale_here","_law_shuts"] (aq eA):=by walk_at "sc"
inductive Cn_law_pieces(s v:D)(M:MH)(Q:DK):Prop
 |mk (t b X Y:Int) (l:Addr) (ws:List Wl) (_:s=scl t b X Y) (_:v=.ref l) (_:M l=some (.lst (ws.map uw))) (_:Scl t b X Y) (_:ws.length<=30) (_:(∀w∈ws,Bw 30 w)) (_:∀(M':MH) (z:Addr) (ps:List Pc),SD.Sub M M'->M z=none->M' z=some (.lst (ps.map pcq))->ps.Nodup->(∀y,y∈ps↔oP t b X Y ws y)->ps.length<=3000->Q (.ref z) M')
theorem lW(T:Tx K mg):Cal P w K mg base 3 "_law_pieces" (sD2 Cn_law_pieces):=by
 refine a9 (k:=2) T.f_law_pieces aT fun f cdv A outer s H E hr=>⟨_,(aj (aA 2 aT.nd (bR ag)) (aj (cE Fn rfl (bQ (dv 1)) (aE 3 aT.nd) (aj (nM 4 aT.nd (CScope.of (xs:=["_law_spot_here"]) (js:=[0]) rfl) rfl (bQ (dv 3)) (fun _ _ _ _=>fK) (fun _ _ _ _=>(ao (dk T).m hr (ae (dv 1) (ae (dv 0) ag))))) (aj (cE Fn rfl (bQ (dv 1)) (aE 5 aT.nd) (aj (aA 6 aT.nd (ao (pF T).m hr (ae (dv 3) (ae (dv 5) ag)))) (aj (aS (iH (fz (aG jP (dv 6) dP) (dH (aG (cw hr.units) (aD dU rfl T.b_len cC (ae (dv 6) ag)) af)))) (ar (fG (dA (dv 4) (ae (ao (j1 T).m hr (ae (dv 0) (ae (dv 6) ag))) ag)))) aJ) (ar (aS (iH (fz (aG jP (dv 6) dP) (dH (aG (cw hr.units) (aD dU rfl T.b_len cC (ae (dv 6) ag)) af)))) (ar (aA 4 aT.nd (aw aO (dv 4) (bR (ae (ao (dk T).m hr (ae (dv 0) (ae (au (dv 6) af) ag))) (ae (ao (dk T).m hr (ae (dv 0) (ae (au (dv 6) af) ag))) ag)))))) aJ))))) (aj (aA 4 aT.nd (ao (eF T).m hr (ae (dv 4) ag))) (ar (aA 2 aT.nd (aw aO (dv 2) (gH (CScope.of (xs:=["_law_piece"]) (js:=[2]) rfl) rfl (xo rfl T.b_zip (ae (dv 4) (ae (fy (dv 4) (eC af) iR) ag))) (fun _ _ _ _=>(qV (aG (uj (lY hr)) (dv 0) (dv 1) (by with_unfolding_all rfl)))) (fun _ _ _ _=>(dv 0)))))))))) (ar (aC (dv 2))))),fun _ _ M Q h=>?_⟩;obtain⟨t,b,X,Y,l,ws,rfl,rfl,hl,S,hn,hB,k⟩:=h;refine⟨nbL rfl,fun z0 hz0=>?_⟩;have nlz:l≠z0:=av hl hz0;have wl:(ws.map uw).length=ws.length:=E6 ..
 have b6:∀{z:Int},Bd 6 z->-(10^6)<=z/\z<=10^6:=fun{z} h=>by
  have:z.natAbs<2^6:=h
  omega
 refine⟨_,rfl,ws.map uw,(by show(ax M z0 _) l=_;rw[ak nlz];exact hl),?_⟩;refine⟨fun i δ M'=>∃(z:Addr) (ps:List Pc) (o3 o4 o5 o6:Option D),δ=[some (scl t b X Y),some (.ref l),some (.ref z),o3,o4,o5,o6]/\SD.Sub M M'/\M z=none/\M' z=some (.lst (ps.map pcq))/\ps.Nodup/\(∀y,y∈ps↔∃w∈ws.take i,∃c,IsCut t b X Y ws w c/\Nxt c y)/\ps.length<=100*i,⟨z0,[],_,_,_,_,rfl,.new hz0 .refl,hz0,ai,List.nodup_nil,by simp,Fz _⟩,fun i δ M' _ q=>let⟨_,_,_,_,_,_,_,sb,_⟩:=q;sb _ _ hl,?_,?_⟩;rotate_left
 ·rintro δ M' ⟨z,ps,o3,o4,o5,o6,rfl,sb,hz,hz',nd,me,ln⟩;refine⟨_,rfl,rtn (k M' z ps sb hz hz' nd (fun y=>?_) ?_)⟩
  ·rw[me y];show(∃w∈ws.take (ws.map uw).length,_)↔_;rw[wl,Gm];rfl
  ·have:ps.length<=100*(ws.map uw).length:=ln;rw[wl]at this;omega
 rintro i d δ M' hi hd ⟨z,ps,o3,o4,o5,o6,rfl,sb,hz,hz',nd,me,ln⟩;have hd:(ws.map uw)[i]?=some d:=hd;rw[EN]at hd;cases ew:ws[i]? with
 |none=>rw[ew]at hd;cases hd
 |some w=>
 rw[ew]at hd;cases hd;have iw:i<ws.length:=(EB.mp ew).1;have mw:w∈ws:=F0 ew;have bw:=hB w mw;obtain⟨w1,w2,w3,w4⟩:=oF bw;refine⟨_,rfl,[.tup [.int w.1,.int w.2.1],.tup [.int w.2.2.1,.int w.2.2.2]],rfl,comp_map (fun j=>if j=0 then spq (eaq t b X Y w)else spq (ebq t b X Y w)) (nbL rfl) (fun _ _ _=>rfl) ?_ (fun p hp=>?_)⟩
 ·intro j e M2 hj he _;have hj:j<2:=hj;rcases(show j=0\/j=1 by omega)with rfl|rfl
  ·cases he;exact⟨_,rfl,fun K hK=>⟨_,rfl,_,rfl,t,b,X,Y,w.1,w.2.1,rfl,rfl,S,b6 w1,b6 w2,hK _ .refl⟩⟩
  ·cases he;exact⟨_,rfl,fun K hK=>⟨_,rfl,_,rfl,t,b,X,Y,w.2.2.1,w.2.2.2,rfl,rfl,S,b6 w3,b6 w4,hK _ .refl⟩⟩
 have nzp:z≠p:=av hz' hp;have hMp:=cM sb hp;(try dsimp only[SD.aQ])
 generalize hM2:ax M' p _=M2;have q1:M2 p=some (.lst ([eaq t b X Y w,ebq t b X Y w].map spq)):=by rw[<-hM2,ai];rfl
 have q2:M2 z=some (.lst (ps.map pcq)):=by rw[<-hM2,ak nzp];exact hz'
 have q3:SD.Sub M M2:=by rw[<-hM2];exact .new hp sb
 clear hM2;clear hz' hp sb;refine bV (fun δ M2=>∃(p:Addr) (c:List Sq) (o5 o6:Option D),δ=[some (scl t b X Y),some (.ref l),some (.ref z),some (uw w),some (.ref p),o5,o6]/\SD.Sub M M2/\M p=none/\z≠p/\M2 p=some (.lst (c.map spq))/\M2 z=some (.lst (ps.map pcq))/\(∀v,v∈c↔iC t b X Y ws w v)/\c.length<=70) ?_ (fun hu=>?_);rotate_left
 ·refine⟨_,rfl,ws.map uw,q3 _ _ hl,?_⟩;refine⟨fun i δ M2=>∃(p:Addr) (c:List Sq) (o5 o6:Option D),δ=[some (scl t b X Y),some (.ref l),some (.ref z),some (uw w),some (.ref p),o5,o6]/\SD.Sub M M2/\M p=none/\z≠p/\M2 p=some (.lst (c.map spq))/\M2 z=some (.lst (ps.map pcq))/\(∀v,v∈c↔v=eaq t b X Y w\/v=ebq t b X Y w\/∃o∈ws.take i,v∈iI t b X Y (tlD w o))/\c.length<=2+2*i,⟨p,_,_,_,rfl,q3,hMp,nzp,q1,q2,by simp,by simp⟩,fun i δ M' _ q=>let⟨_,_,_,_,_,sb,_⟩:=q;sb _ _ hl,?_,?_⟩;rotate_left
  ·rintro δ M2 ⟨p,c,o5,o6,rfl,sb,hp,npz,h1,h2,me,ln⟩;have ln:c.length<=2+2*(ws.map uw).length:=ln;refine hu _ _ ⟨p,c,_,_,rfl,sb,hp,npz,h1,h2,fun v=>?_,by omega⟩;rw[me v];show(_\/_\/∃o∈ws.take (ws.map uw).length,_)↔_;rw[wl,Gm];rfl
  clear q1 q2 q3;rintro j d δ M2 hj hd ⟨p,c,o5,o6,rfl,sb,hp,npz,h1,h2,me,ln⟩;have hd:(ws.map uw)[j]?=some d:=hd;rw[EN]at hd;cases eo:ws[j]? with
  |none=>rw[eo]at hd;cases hd
  |some o=>
  rw[eo]at hd;cases hd;have jo:j<ws.length:=(EB.mp eo).1;have bo:=hB o (F0 eo);obtain⟨o1,o2,o3',o4'⟩:=oF bo
  have mt:∀v,(∃o∈ws.take (j+1),v∈iI t b X Y (tlD w o))↔(∃o∈ws.take j,v∈iI t b X Y (tlD w o))\/v∈iI t b X Y (tlD w o):=fun v=>by
   rw[G9,eo];constructor
   ·rintro⟨u,hu,h⟩;rcases EM.mp hu with y|y
    ·exact .inl ⟨u,y,h⟩
    ·rw[show u=o by simpa using y]at h;exact .inr h
   ·rintro(⟨u,hu,h⟩|h)
    ·exact⟨u,EM.mpr (.inl hu),h⟩
    ·exact⟨o,by simp,h⟩
  refine⟨_,rfl,_,rfl,_,_,_,_,_,_,_,_,rfl,rfl,w1,w2,w3,w4,o1,o2,o3',o4',?_⟩;rcases jV bw bo with e|⟨x,y,m,e,bx,by',bm,hm⟩|⟨x,y,u,u',e,bx,by',bu,bu'⟩
  ·have e':=e;unfold tlD at e';rw[e]at mt;rw[e'];refine⟨_,rfl,_,rfl,_,rfl,dQ rfl (dQ rfl ?_)⟩;refine⟨_,rfl,_,rfl,_,rfl,dQ rfl (dQ rfl ?_)⟩;refine⟨p,c,_,_,rfl,sb,hp,npz,h1,h2,fun v=>?_,by omega⟩;rw[me v,mt v];simp[iI]
  ·have e':=e;unfold tlD at e';rw[e]at mt;rw[e'];refine⟨_,rfl,_,rfl,_,rfl,gz rfl ⟨_,rfl,_,rfl,gz rfl ?_⟩⟩;refine⟨_,rfl,p,_,rfl,h1,_,rfl,_,rfl,t,b,X,Y,x,y,m,rfl,rfl,S,bx,by',bm,hm,_,_,rfl,h1,by rw[E6];omega,?_⟩;refine⟨_,rfl,_,rfl,_,rfl,gz rfl ⟨_,rfl,_,rfl,dQ rfl ?_⟩⟩;refine⟨p,c++[(Ma.ut t b X m x,Ma.ut t b Y m y)],_,_,rfl,fun a o h=>?_,hp,npz,by rw[ai,Fg];rfl,by rw[ak npz];exact h2,fun v=>?_,by simp;omega⟩
   ·rw[ak (av h hp)];exact sb _ _ h
   ·rw[EM,me v,mt v,show iI t b X Y (.tup [.int x,.int y,.int m])=[(Ma.ut t b X m x,Ma.ut t b Y m y)]from rfl];grind
  ·have e':=e;unfold tlD at e';rw[e]at mt;rw[e'];refine⟨_,rfl,_,rfl,_,rfl,gz rfl ⟨_,rfl,_,rfl,dQ rfl ?_⟩⟩;refine⟨_,rfl,_,rfl,_,rfl,gz rfl ⟨_,rfl,_,rfl,gz rfl ?_⟩⟩;refine⟨_,rfl,_,rfl,_,rfl,_,rfl,t,b,X,Y,x,y,rfl,rfl,S,b6 bx,b6 by',?_⟩;refine⟨_,rfl,_,rfl,_,rfl,t,b,X,Y,u,u',rfl,rfl,S,b6 bu,b6 bu',nbL rfl,fun p2 hp2=>?_⟩;refine⟨_,_,by rw[ak (av h1 hp2)];exact h1,ai,?_,fun p3 hp3=>?_⟩
   ·rw[E6];have:1000<=ER:=nbL rfl;simp;omega
   have q2:(ax M2 p2 (.lst [Ma.spt (Ma.ut t b X 1 x) (Ma.ut t b Y 1 y),Ma.spt (Ma.ut t b X 1 u) (Ma.ut t b Y 1 u')])) z=some (.lst (ps.map pcq)):=by rw[ak (av h2 hp2)];exact h2
   have sb2:SD.Sub M (ax M2 p2 (.lst [Ma.spt (Ma.ut t b X 1 x) (Ma.ut t b Y 1 y),Ma.spt (Ma.ut t b X 1 u) (Ma.ut t b Y 1 u')])):=.new hp2 sb;refine⟨p3,c++[(Ma.ut t b X 1 x,Ma.ut t b Y 1 y),(Ma.ut t b X 1 u,Ma.ut t b Y 1 u')],_,_,rfl,.new hp3 sb2,cM sb2 hp3,av q2 hp3,by rw[ai,Fg];rfl,by rw[ak (av q2 hp3)];exact q2,fun v=>?_,by simp;omega⟩;rw[EM,me v,mt v,show iI t b X Y (.tup [.tup [.int x,.int y],.tup [.int u,.int u']])=[(Ma.ut t b X 1 x,Ma.ut t b Y 1 y),(Ma.ut t b X 1 u,Ma.ut t b Y 1 u')]from rfl];grind
 clear q1 q2 q3 hMp nzp;rintro δ M3 ⟨p,c,o5,o6,rfl,sb,hp,npz,h1,h2,mec,lnc⟩;refine⟨_,rfl,p,c,rfl,h1,by omega,fun v hv=>mJ S hB mw ((mec v).mp hv),fun M4 q cs sb4 hq hq4 up4 me4 ln4=>?_⟩;have ic:IsCut t b X Y ws w cs:=⟨up4,fun v=>(me4 v).trans (mec v)⟩;have hz4:=sb4 _ _ h2;have sb5:SD.Sub M M4:=fun a o e=>sb4 _ _ (sb _ _ e);refine⟨_,rfl,_,rfl,_,rfl,_,rfl,_,hq4,fun s hs=>?_⟩;rw[nP];have nqs:q≠s:=av hq4 hs;refine⟨q,s,cs.map spq,cs.tail.map spq,rfl,by rw[ak nqs];exact hq4,ai,?_⟩;have hzs:(ax M4 s (.lst (cs.tail.map spq))) z=some (.lst (ps.map pcq)):=by rw[ak (av hz4 hs)];exact hz4
 have en:min (cs.map spq).length (cs.tail.map spq).length=(zps cs).length:=by unfold zps;rw[E6,E6,List.length_zip]
 refine rV (fun i=>((zps cs)[i]?).bind fun y=>if y∈ps then none else some (pcq y)) (by show min _ _<=_;rw[E6];omega) (fun p' ys hp'=>⟨?_,?_⟩) ?_ (fun p' hp'=>?_)
 ·have e:(ax M4 s (.lst (cs.tail.map spq))) q=some (.lst (cs.map spq)):=by rw[ak nqs];exact hq4
  rw[ak (av e hp')];exact e
 ·have e:(ax M4 s (.lst (cs.tail.map spq))) s=some (.lst (cs.tail.map spq)):=ai;rw[ak (av e hp')];exact e
 ·intro j e M5 hj he sb';have he:(((cs.map spq)[j]?).bind fun d=>(((cs.tail).map spq)[j]?).map fun e=>D.tup [d,e])=some e:=he;rw[ot]at he;cases ey:(zps cs)[j]? with
  |none=>rw[ey]at he;cases he
  |some y=>
   rw[ey]at he
   cases he
   refine⟨_,rfl,fun K hK=>⟨_,rfl,_,rfl,pcP y,_,Pd.of rfl,.inl (.lst (sb' _ _ hzs) (iN ps)),rfl,m5 ps,_,rfl,?_⟩,fun e he K hK=>⟨_,rfl,?_⟩⟩
   ·rw[zp y ps];by_cases m:y∈ps
    ·simp[m]at hK;simpa[m]using hK
    ·simp[m]at hK;simpa[m]using hK
   ·by_cases m:y∈ps
    ·simp[m]at he
    ·simp[m]at he;subst he;exact hK _ .refl
 have hz6:(ax (ax M4 s (.lst (cs.tail.map spq))) p' (.lst ((jZ cs ps).map pcq))) z=some (.lst (ps.map pcq)):=by rw[ak (av hzs hp')];exact hzs
 have sb6:SD.Sub M (ax (ax M4 s (.lst (cs.tail.map spq))) p' (.lst ((jZ cs ps).map pcq))):=.new hp' (.new hs sb5);have el:((Fl (min (cs.map spq).length (cs.tail.map spq).length)).filterMap fun i=>((zps cs)[i]?).bind fun y=>if y∈ps then none else some (pcq y))=(jZ cs ps).map pcq:=by rw[en];exact x9 cs ps
 dsimp only;rw[el];have nl:=wM cs ps;refine⟨_,_,hz6,ai,?_,fun p3 hp3=>?_⟩
 ·have:10000<=ER:=nbL rfl;rw[E6,E6];omega
 refine⟨p3,ps++jZ cs ps,_,_,_,_,rfl,.new hp3 sb6,cM sb6 hp3,by rw[ai,Fg],yM up4 nd,fun y=>?_,by rw[Gh];omega⟩;rw[EM,n9,me y,G9,ew];constructor
 ·rintro(⟨w',hw',h⟩|⟨h,_⟩)
  ·exact⟨w',EM.mpr (.inl hw'),h⟩
  ·exact⟨w,by simp,cs,ic,h⟩
 ·rintro⟨w',hw',c',ic',h⟩;rcases EM.mp hw' with m|m
  ·exact .inl ⟨w',m,c',ic',h⟩
  ·rw[show w'=w by simpa using m]at ic';rw[ic'.one ic]at h;by_cases m':y∈ps
   ·exact .inl ((me y).mp m')
   ·exact .inr ⟨h,fun q=>m' ((me y).mpr q)⟩
theorem oG:FnScope ["_law_scale_here","_law_shuts"] ["_law_scale_here","_law_shuts"] (aq f6):=by walk_at "sc"
inductive Cn_law_made(s v:D)(M:MH)(Q:DK):Prop
 |mk (t b x y:Int) (l:Addr) (ws:List (Int×Int×Int×Int)) (_:s=scl t b x y) (_:v=.ref l) (_:M l=some (.lst (ws.map uw))) (_:Scl t b x y) (_:ws.length<=1000) (_:(∀w∈ws,Uok (10^6) w)) (_:Q (.tup (ws.map (rwl t b x y))) M)
theorem iU(T:Tx K mg):Cal P w K mg base 3 "_law_made" (sD2 Cn_law_made):=by
 refine a9 (k:=2) T.f_law_made oG fun f cdv A outer s H E hr=>⟨_,(ar (aC (bP jr rfl T.b_tuple gF (ae (vX (CScope.of (xs:=["_law_first","_law_second"]) (js:=[0]) rfl) rfl (bQ (dv 1)) (fun _ _ _ _=>fK) (fun _ _ _ _=>(aK (ae (ao (dk T).m hr (ae (dv 2) (ae (dv 0) ag))) (ae (ao (dk T).m hr (ae (dv 2) (ae (dv 1) ag))) ag))))) ag)))),fun _ _ M Q h=>?_⟩;obtain⟨t,b,x,y,l,ws,rfl,rfl,hM,S,hl,hw,k⟩:=h;refine⟨_,rfl,ws.map uw,hM,comp_map (fun i=>((ws.map (rwl t b x y))[i]?).getD .non) (by simp;omega) (fun p ys hp=>?_) ?_ (fun p hp=>⟨_,ai,?_⟩)⟩
 ·show(ax M p _) l=_;rw[ak (av hM hp)];exact hM
 ·intro i e M' hi he _;have he:(ws.map uw)[i]?=some e:=he;rw[EN]at he;cases ew:ws[i]? with
  |none=>rw[ew]at he;cases he
  |some w=>
   rw[ew]at he
   cases he
   obtain⟨u1,u2,u3,u4⟩:=hw w (F0 ew)
   refine⟨_,⟨_,rfl,rfl,rfl⟩,fun K hK=>?_⟩
   have hK':=hK M' .refl
   rw[getD_map ew]at hK'
   refine⟨_,rfl,_,rfl,t,b,x,y,w.1,w.2.1,rfl,rfl,S,u1,u2,?_⟩
   exact⟨_,rfl,_,rfl,t,b,x,y,w.2.2.1,w.2.2.2,rfl,rfl,S,u3,u4,nbL rfl,hK'⟩
 ·refine⟨_,.new hp .refl,?_⟩
  have e:(Fl (ws.map uw).length).map (fun i=>((ws.map (rwl t b x y))[i]?).getD .non)=ws.map (rwl t b x y):=by
   have:=SD.range_getD (ws.map (rwl t b x y))
   rw[E6]at this ⊢
   exact this
  dsimp only;rw[e];exact k
theorem qt:FnScope ["one","other"] ["one","other"] (aq ik):=by walk_at "sc"
inductive Cn_is_less(x y:D)(M:MH)(Q:DK):Prop
 |mk (q r:Rat) (_:x=Ma.fr q) (_:y=Ma.fr r) (_:Ma.Bq 100000 q) (_:Ma.Bq 100000 r) (_:Q (.bl (decide (q<r))) M)
theorem ly(T:Tx K mg):Cal P w K mg base 1 "is_less" (sD2 Cn_is_less):=by refine a9 (k:=0) T.f_is_less qt fun f cdv A outer s H E hr=>⟨_,(ar (aC (gZ (c7 hr.units) (aw aF (au (dv 0) af) (au (dv 1) af)) (aw aF (au (dv 1) af) (au (dv 0) af))))),fun _ _ M Q h=>?_⟩;obtain⟨q,r,rfl,rfl,h1,h2,k⟩:=h;refine⟨_,rfl,_,rfl,_,rfl,_,rfl,dF (h1.1.mono (by decide)) (h2.2.mono (by decide)),?_⟩;refine⟨_,rfl,_,rfl,_,rfl,_,rfl,dF (h2.1.mono (by decide)) (h1.2.mono (by decide)),trivial,?_⟩;dsimp only;rw[Ma.zX];exact rtn k
theorem nk:FnScope ["one","other"] ["one","other"] (aq fX):=by walk_at "sc"
inductive Cn_is_ahead(x y:D)(M:MH)(Q:DK):Prop
 |mk (a b c d:Rat) (_:x=Ma.spt a b) (_:y=Ma.spt c d) (_:Ma.Bq 100000 a) (_:Ma.Bq 100000 b) (_:Ma.Bq 100000 c) (_:Ma.Bq 100000 d) (_:Q (.bl (decide (a<c\/a=c/\b<d))) M)
theorem bW(T:Tx K mg):Cal P w K mg base 2 "is_ahead" (sD2 Cn_is_ahead):=by
 refine a9 (k:=1) T.f_is_ahead nk fun f cdv A outer s H E hr=>⟨_,(aj (aS (aG (cw hr.units) (au (dv 0) af) (au (dv 1) af)) (ar (aC (ao (ly T).m hr (ae (au (dv 0) af) (ae (au (dv 1) af) ag))))) aJ) (ar (aC (ao (ly T).m hr (ae (au (dv 0) af) (ae (au (dv 1) af) ag)))))),fun _ _ M Q h=>?_⟩;obtain⟨a,b,c,d,rfl,rfl,h1,h2,h3,h4,k⟩:=h;refine⟨_,rfl,_,rfl,_,rfl,_,rfl,_,_,Pd.of rfl,Pd.of rfl,rfl,rfl,?_⟩;rw[Ma.uD];refine⟨_,rfl,?_⟩;refine bL (fun h=>?_) (fun h=>?_)
 ·have e:a=c:=by simpa using h
  subst e;refine⟨_,rfl,_,rfl,_,rfl,_,rfl,b,d,rfl,rfl,h2,h4,?_⟩
  have z:(a<a\/a=a/\b<d)↔b<d:=by
   have:=Rat.lt_irrefl (a:=a)
   simp[this]
  rw[decide_eq_decide.mpr z]at k;exact rtn k
 ·have e:¬a=c:=by simpa using h
  refine⟨_,rfl,_,rfl,_,rfl,_,rfl,a,c,rfl,rfl,h1,h3,?_⟩;have z:(a<c\/a=c/\b<d)↔a<c:=by simp[e]
  rw[decide_eq_decide.mpr z]at k;exact rtn k
theorem Bn:FnScope ["one","other"] ["one","other"] (aq uY):=by walk_at "sc"
inductive Cn_gap(x y:D)(M:MH)(Q:DK):Prop
 |mk (t1 b1 t2 b2:Int) (_:x=.tup [.int t1,.int b1]) (_:y=.tup [.int t2,.int b2]) (_:Bd 1000000 t1) (_:Bd 1000000 b1) (_:Bd 1000000 t2) (_:Bd 1000000 b2) (_:Q (.tup [.int (t1*b2-t2*b1),.int (b1*b2)]) M)
theorem nT(T:Tx K mg):Cal P w K mg base 1 "gap" (sD2 Cn_gap):=by refine a9 (k:=0) T.f_gap Bn fun f cdv A outer s H E hr=>⟨_,(ar (aC (aK (ae (aw cP (aw aF (au (dv 0) af) (au (dv 1) af)) (aw aF (au (dv 1) af) (au (dv 0) af))) (ae (aw aF (au (dv 0) af) (au (dv 1) af)) ag))))),fun _ _ M Q h=>?_⟩;obtain⟨t1,b1,t2,b2,rfl,rfl,h1,h2,h3,h4,k⟩:=h;refine⟨_,rfl,_,rfl,_,rfl,_,rfl,dF h1 h4,_,rfl,_,rfl,_,rfl,_,rfl,dF h3 h2,trivial,?_⟩;exact⟨_,rfl,_,rfl,_,rfl,_,rfl,dF h2 h4,nbL rfl,rtn k⟩
theorem cU:FnScope ["wall","spot","a","b","c","d","x","y","across","up","along","high"] ["wall","spot"] (aq qu):=by walk_at "sc"
inductive Cn_lean(u v:D)(M:MH)(Q:DK):Prop
 |mk (n:Nat) (a b c d x y:Rat) (_:u=Ma.wll a b c d) (_:v=Ma.spt x y) (_:Ma.Bq n a) (_:Ma.Bq n b) (_:Ma.Bq n c) (_:Ma.Bq n d) (_:Ma.Bq n x) (_:Ma.Bq n y) (_:n<=20000) (_:∀t e:Int,0<e->Rat.divInt t e=Ma.cr a b c d x y->Bd (8*n+3) t->Bd (8*n+3) e->Q (.tup [.int t,.int e]) M)
theorem pW(T:Tx K mg):Cal P w K mg base 2 "lean" (sD2 Cn_lean):=by
 refine a9 (k:=1) T.f_lean cU fun f cdv A outer s H E hr=>⟨_,(aj (dg (dv 0) (cz rfl (aI (cz rfl (aI (aE 2 cU.nd) (aI (aE 3 cU.nd) bO))) (aI (cz rfl (aI (aE 4 cU.nd) (aI (aE 5 cU.nd) bO))) bO)))) (aj (dg (dv 1) (cz rfl (aI (aE 6 cU.nd) (aI (aE 7 cU.nd) bO)))) (aj (eO 8 9 rfl cU.nd (ae (ao (nT T).m hr (ae (dv 4) (ae (dv 2) ag))) (ae (ao (nT T).m hr (ae (dv 5) (ae (dv 3) ag))) ag))) (aj (eO 10 11 rfl cU.nd (ae (ao (nT T).m hr (ae (dv 6) (ae (dv 2) ag))) (ae (ao (nT T).m hr (ae (dv 7) (ae (dv 3) ag))) ag))) (ar (aC (ao (nT T).m hr (ae (aK (ae (aw aF (au (dv 8) af) (au (dv 11) af)) (ae (aw aF (au (dv 8) af) (au (dv 11) af)) ag))) (ae (aK (ae (aw aF (au (dv 9) af) (au (dv 10) af)) (ae (aw aF (au (dv 9) af) (au (dv 10) af)) ag))) ag))))))))),fun _ _ M Q h=>?_⟩;obtain⟨n,a,b,c,d,x,y,rfl,rfl,ha,hb,hc,hd,hx,hy,hn,k⟩:=h;have mo:∀{m:Nat} {i:Int},Bd m i->m<=1000000->Bd 1000000 i:=fun z l=>z.mono l;have q1:=hc.lb ha;have q2:=hd.lb hb;have q3:=hx.lb ha;have q4:=hy.lb hb;have e1:=hc.2.mul ha.2;have e2:=hd.2.mul hb.2;have e3:=hx.2.mul ha.2;have e4:=hy.2.mul hb.2;refine⟨_,rfl,_,rfl,rfl,_,_,rfl,⟨_,rfl,rfl,_,_,rfl,_,_,rfl,rfl,?_⟩⟩;refine⟨_,_,rfl,⟨_,rfl,rfl,_,_,rfl,_,_,rfl,rfl,?_⟩⟩;refine⟨rfl,_,rfl,_,rfl,rfl,_,_,rfl,_,_,rfl,rfl,?_⟩;refine⟨_,rfl,_,rfl,_,_,_,_,rfl,rfl,mo hc.1 (by omega),mo hc.2 (by omega),mo ha.1 (by omega),mo ha.2 (by omega),?_⟩;refine⟨_,rfl,_,rfl,_,_,_,_,rfl,rfl,mo hd.1 (by omega),mo hd.2 (by omega),mo hb.1 (by omega),mo hb.2 (by omega),?_⟩;refine⟨_,_,rfl,?_⟩;refine⟨_,rfl,_,rfl,_,_,_,_,rfl,rfl,mo hx.1 (by omega),mo hx.2 (by omega),mo ha.1 (by omega),mo ha.2 (by omega),?_⟩;refine⟨_,rfl,_,rfl,_,_,_,_,rfl,rfl,mo hy.1 (by omega),mo hy.2 (by omega),mo hb.1 (by omega),mo hb.2 (by omega),?_⟩;refine⟨_,_,rfl,?_⟩;refine⟨_,rfl,_,rfl,_,rfl,_,rfl,dF (mo q1 (by omega)) (mo q4 (by omega)),?_⟩;refine⟨_,rfl,_,rfl,_,rfl,_,rfl,dF (mo e1 (by omega)) (mo e4 (by omega)),nbL rfl,?_⟩;refine⟨_,rfl,_,rfl,_,rfl,_,rfl,dF (mo q2 (by omega)) (mo q3 (by omega)),?_⟩;refine⟨_,rfl,_,rfl,_,rfl,_,rfl,dF (mo e2 (by omega)) (mo e3 (by omega)),nbL rfl,?_⟩;refine⟨_,_,_,_,rfl,rfl,mo (q1.mul q4) (by omega),mo (e1.mul e4) (by omega),mo (q2.mul q3) (by omega),mo (e2.mul e3) (by omega),?_⟩;have pe:∀q r:Rat,0<(q.den:Int)*(r.den:Int):=fun q r=>Gx (Ma.den_pos q) (Ma.den_pos r);refine rtn (k _ _ (Gx (Gx (pe c a) (pe y b)) (Gx (pe d b) (pe x a))) (Ma.xm a b c d x y) ?_ ?_)
 ·exact((((q1.mul q4).mul (e2.mul e3)).mono (show _<=8*n+2 by omega)).sub (((q2.mul q3).mul (e1.mul e4)).mono (show _<=8*n+2 by omega)))
 ·exact((e1.mul e4).mul (e2.mul e3)).mono (by omega)
theorem jS:FnScope ["wall","spot","top"] ["wall","spot"] (aq ia):=by walk_at "sc"
inductive Cn_side_of(u v:D)(M:MH)(Q:DK):Prop
 |mk (n:Nat) (a b c d x y:Rat) (_:u=Ma.wll a b c d) (_:v=Ma.spt x y) (_:Ma.Bq n a) (_:Ma.Bq n b) (_:Ma.Bq n c) (_:Ma.Bq n d) (_:Ma.Bq n x) (_:Ma.Bq n y) (_:n<=1900) (_:Q (.int (Ma.sgn (Ma.cr a b c d x y))) M)
theorem d7(T:Tx K mg):Cal P w K mg base 3 "side_of" (sD2 Cn_side_of):=by
 refine a9 (k:=2) T.f_side_of jS fun f cdv A outer s H E hr=>⟨_,(aj (aA 2 jS.nd (au (ao (pW T).m hr (ae (dv 0) (ae (dv 1) ag))) af)) (aj (aS (aG (eV hr.units) (dv 2) af) (ar (aC af)) aJ) (aj (aS (aG (c7 hr.units) (dv 2) af) (ar (aC (lK fE af))) aJ) (ar (aC af))))),fun _ _ M Q h=>?_⟩;obtain⟨n,a,b,c,d,x,y,rfl,rfl,ha,hb,hc,hd,hx,hy,hn,k⟩:=h;refine⟨_,rfl,_,rfl,n,a,b,c,d,x,y,rfl,rfl,ha,hb,hc,hd,hx,hy,by omega,fun t e he hte _ _=>⟨_,rfl,?_⟩⟩;rw[<-hte,Ma.zf he]at k;refine⟨_,rfl,trivial,_,rfl,?_⟩;refine bL (fun h=>?_) (fun h=>?_)
 ·rw[if_pos (by simpa using h)]at k;exact rtn k
 rw[if_neg (by simpa using h)]at k;refine⟨_,rfl,trivial,_,rfl,?_⟩;refine bL (fun h=>?_) (fun h=>?_)
 ·rw[if_pos (by simpa using h)]at k;exact rtn k
 ·rw[if_neg (by simpa using h)]at k;exact rtn k
theorem gn:FnScope ["wall","spot","first","second"] ["wall","spot"] (aq g8):=by walk_at "sc"
inductive Cn_lies_on(u v:D)(M:MH)(Q:DK):Prop
 |mk (n:Nat) (a b c d x y:Rat) (_:u=Ma.wll a b c d) (_:v=Ma.spt x y) (_:Ma.Bq n a) (_:Ma.Bq n b) (_:Ma.Bq n c) (_:Ma.Bq n d) (_:Ma.Bq n x) (_:Ma.Bq n y) (_:n<=1900) (_:Q (.bl (decide (Ma.cr a b c d x y=0/\¬Ma.ah x y a b/\¬Ma.ah c d x y))) M)
theorem tY(T:Tx K mg):Cal P w K mg base 4 "lies_on" (sD2 Cn_lies_on):=by
 refine a9 (k:=3) T.f_lies_on gn fun f cdv A outer s H E hr=>⟨_,(aj (dg (dv 0) (cz rfl (aI (aE 2 gn.nd) (aI (aE 3 gn.nd) bO)))) (ar (aC (mz (gZ (cw hr.units) (ao (d7 T).m hr (ae (dv 0) (ae (dv 1) ag))) af) (mz (uS (ao (bW T).m hr (ae (dv 1) (ae (dv 2) ag)))) (wK (uS (ao (bW T).m hr (ae (dv 3) (ae (dv 1) ag)))))))))),fun _ _ M Q h=>?_⟩;obtain⟨n,a,b,c,d,x,y,rfl,rfl,ha,hb,hc,hd,hx,hy,hn,k⟩:=h;have mo:∀{q:Rat},Ma.Bq n q->Ma.Bq 100000 q:=fun z=>z.mono (by omega);refine⟨_,rfl,_,rfl,rfl,_,_,rfl,_,_,rfl,rfl,?_⟩;(try dsimp only[SD.fS,SD.fm,SD.aQ,SD.jI,SD.iZ,SD.eE,SD.gh,SD.tBD,SD.jl])
 refine xS (decide (Ma.sgn (Ma.cr a b c d x y)=0)) (!decide (Ma.ah x y a b)&&!decide (Ma.ah c d x y)) (fun K hK=>⟨_,rfl,_,rfl,n,a,b,c,d,x,y,rfl,rfl,ha,hb,hc,hd,hx,hy,hn,hK⟩) (fun _ K hK=>?_) ?_
 ·refine xS (!decide (Ma.ah x y a b)) (!decide (Ma.ah c d x y)) (fun K hK=>⟨_,rfl,_,rfl,x,y,a,b,rfl,rfl,mo hx,mo hy,mo ha,mo hb,_,rfl,hK⟩) (fun _ K hK=>⟨_,rfl,_,rfl,c,d,x,y,rfl,rfl,mo hc,mo hd,mo hx,mo hy,_,rfl,hK⟩) hK
 have e:(decide (Ma.sgn (Ma.cr a b c d x y)=0)&&(!decide (Ma.ah x y a b)&&!decide (Ma.ah c d x y)))=decide (Ma.cr a b c d x y=0/\¬Ma.ah x y a b/\¬Ma.ah c d x y):=by rw[Bool.decide_and,Bool.decide_and,decide_not,decide_not,decide_eq_decide.mpr (Ma.oz _)]
 rw[e];exact rtn k
theorem cR:FnScope ["one","other"] ["one","other"] (aq bY):=by walk_at "sc"
inductive Cn_greatest_divisor(x y:D)(M:MH)(Q:DK):Prop
 |mk (a b:Nat) (_:x=.int (a:Int)) (_:y=.int (b:Int)) (_:Q (.int ((Nat.gcd a b:Nat):Int)) M)
theorem gk(T:Tx K mg):Cal P w K mg base 1 "greatest_divisor" (sD2 Cn_greatest_divisor):=by
 refine a9 (k:=0) T.f_greatest_divisor cR fun f cdv A outer s H E hr=>⟨_,(aj (gJ Fn (aG (fQ hr.units) (dv 1) af) (ar (eO 0 1 rfl cR.nd (ae (dv 1) (ae (aw fT (dv 0) (dv 1)) ag))))) (ar (aC (dv 0)))),fun _ _ M Q h=>?_⟩;obtain⟨a,b,rfl,rfl,q⟩:=h;refine⟨fun m δ M'=>M'=M/\∃x y:Nat,δ=[some (.int x),some (.int y)]/\Nat.gcd x y=Nat.gcd a b/\m=y,⟨_,rfl,_,_,rfl,rfl,rfl⟩,?_⟩;rintro m δ M' ⟨rfl,x,y,rfl,hxy,hm⟩;refine⟨_,rfl,_,rfl,?_⟩;refine bL (fun h=>?_) (fun h=>?_)
 ·have hy:(y:Int)≠0:=by simpa using h
  refine⟨_,rfl,_,rfl,_,rfl,hy,_,_,rfl,?_⟩;have hy':0<y:=by omega
  refine⟨x%y,by rw[hm];exact Nat.mod_lt _ hy',rfl,y,x%y,?_,?_,rfl⟩
  ·rw[<-Ma.qB];rfl
  ·rw[<-hxy,Nat.gcd_comm x y,Nat.gcd_rec y x,Nat.gcd_comm]
 ·have hy:y=0:=by simpa using h
  subst hy;rw[Nat.gcd_zero_right]at hxy;subst hxy;exact⟨_,rfl,rtn q⟩
theorem eX:FnScope ["top","bottom","divisor"] ["top","bottom"] (aq f7):=by walk_at "sc"
inductive Cn_fraction(x y:D)(M:MH)(Q:DK):Prop
 |mk (t:_) (b:_) (_:x=.int t) (_:y=.int b) (_:b≠0) (_:Bd 8000 t) (_:Bd 8000 b) (_:Q (Ma.fr (Rat.divInt t b)) M)
theorem bJ(T:Tx K mg):Cal P w K mg base 2 "fraction" (sD2 Cn_fraction):=by
 refine a9 (k:=1) T.f_fraction eX fun f cdv A outer s H E hr=>⟨_,(aj (aS (aG (cw hr.units) (dv 1) af) (ar nC) aJ) (aj (aA 2 eX.nd (ao (gk T).m hr (ae (aD fb rfl T.b_abs fo (ae (dv 0) ag)) (ae (aD fb rfl T.b_abs fo (ae (dv 1) ag)) ag)))) (aj (aS (aG (c7 hr.units) (dv 1) af) (ar (aA 2 eX.nd (lK fE (dv 2)))) aJ) (ar (aC (aK (ae (aw jQ (dv 0) (dv 2)) (ae (aw jQ (dv 1) (dv 2)) ag)))))))),fun _ _ M Q h=>?_⟩;obtain⟨t,b,rfl,rfl,hb,ht,hbb,q⟩:=h;have hg:=Ma.rG (t:=t) hb;have hgd:Bd 8000 ((Nat.gcd t.natAbs b.natAbs:Nat):Int):=hbb.of_le (by simpa using Nat.gcd_le_right t.natAbs (show 0<b.natAbs by omega));refine⟨_,rfl,_,rfl,dQ (decide_eq_false hb) ?_⟩;refine⟨_,rfl,_,rfl,t.natAbs,b.natAbs,rfl,rfl,?_⟩;refine⟨_,rfl,trivial,_,rfl,?_⟩;refine bL (fun h=>?_) (fun h=>?_)
 ·have hneg:b<0:=by simpa using h
  obtain⟨e1,e2⟩:=Ma.r0 (t:=t) hneg;refine⟨_,rfl,_,rfl,_,rfl,⟨by omega,hgd.neg⟩,_,rfl,_,rfl,⟨by omega,hgd.neg⟩,nbL rfl,?_⟩;dsimp only;rw[e1,e2];exact rtn q
 ·have hpos:0<b:=by
   have:¬b<0:=by simpa using h
   omega
  obtain⟨e1,e2⟩:=Ma.rL (t:=t) hpos;refine⟨_,rfl,_,rfl,⟨by omega,hgd⟩,_,rfl,_,rfl,⟨by omega,hgd⟩,nbL rfl,?_⟩;dsimp only;rw[e1,e2];exact rtn q
theorem eY:FnScope ["spot","x","y"] ["spot"] (aq gf):=by walk_at "sc"
inductive Cn_own_spot(x:D)(M:MH)(Q:DK):Prop
 |mk (a b:Rat) (_:x=Ma.spt a b) (_:Ma.Bq 8000 a) (_:Ma.Bq 8000 b) (_:Q (Ma.spt a b) M)
theorem de(T:Tx K mg):Cal P w K mg base 3 "own_spot" (sD1 Cn_own_spot):=by refine jk (k:=2) T.f_own_spot eY fun f cdv A outer s H E hr=>⟨_,(aj (dg (dv 0) (cz rfl (aI (aE 1 eY.nd) (aI (aE 2 eY.nd) bO)))) (ar (aC (aK (ae (ao (bJ T).m hr (ae (au (dv 1) af) (ae (au (dv 1) af) ag))) (ae (ao (bJ T).m hr (ae (au (dv 2) af) (ae (au (dv 2) af) ag))) ag)))))),fun _ M Q h=>?_⟩;obtain⟨a,b,rfl,h1,h2,k⟩:=h;refine⟨_,rfl,_,rfl,rfl,_,_,rfl,_,_,rfl,rfl,?_⟩;refine⟨_,rfl,_,rfl,_,rfl,_,rfl,a.num,(a.den:Int),rfl,rfl,Ma.dW a,h1.1,h1.2,?_⟩;refine⟨_,rfl,_,rfl,_,rfl,_,rfl,b.num,(b.den:Int),rfl,rfl,Ma.dW b,h2.1,h2.2,nbL rfl,?_⟩;rw[FU,FU];exact rtn k
theorem nO:FnScope ["one","other"] ["one","other"] (aq gp):=by walk_at "sc"
inductive Cn_later_of(x y:D)(M:MH)(Q:DK):Prop
 |mk (a b e f:Rat) (_:x=Ma.spt a b) (_:y=Ma.spt e f) (_:Ma.Bq 100000 a) (_:Ma.Bq 100000 b) (_:Ma.Bq 100000 e) (_:Ma.Bq 100000 f) (_:∀s:Rat×Rat,s=(if Ma.ah e f a b then(a,b)else(e,f))->Q (Ma.spt s.1 s.2) M)
theorem o9(T:Tx K mg):Cal P w K mg base 3 "later_of" (sD2 Cn_later_of):=by
 refine a9 (k:=2) T.f_later_of nO fun f cdv A outer s H E hr=>⟨_,(ar (aC (we (dX (ao (bW T).m hr (ae (dv 1) (ae (dv 0) ag)))) (dv 0) (dv 1)))),fun _ _ M Q h=>?_⟩;obtain⟨a,b,e,f,rfl,rfl,h1,h2,h3,h4,k⟩:=h;refine⟨_,rfl,_,rfl,e,f,a,b,rfl,rfl,h3,h4,h1,h2,_,rfl,?_⟩;refine bL (fun h=>?_) (fun h=>?_)
 ·have z:Ma.ah e f a b:=by simpa[Ma.ah]using h
  have:=k (a,b) (by rw[if_pos z]);exact⟨_,rfl,rtn this⟩
 ·have z:¬Ma.ah e f a b:=by simpa[Ma.ah]using h
  have:=k (e,f) (by rw[if_neg z]);exact⟨_,rfl,rtn this⟩
theorem kn:FnScope ["one","other"] ["one","other"] (aq ec):=by walk_at "sc"
inductive Cn_earlier_of(x y:D)(M:MH)(Q:DK):Prop
 |mk (c d g h:Rat) (_:x=Ma.spt c d) (_:y=Ma.spt g h) (_:Ma.Bq 100000 c) (_:Ma.Bq 100000 d) (_:Ma.Bq 100000 g) (_:Ma.Bq 100000 h) (_:∀s:Rat×Rat,s=(if Ma.ah c d g h then(c,d)else(g,h))->Q (Ma.spt s.1 s.2) M)
theorem lR(T:Tx K mg):Cal P w K mg base 3 "earlier_of" (sD2 Cn_earlier_of):=by
 refine a9 (k:=2) T.f_earlier_of kn fun f cdv A outer s H E hr=>⟨_,(ar (aC (we (dX (ao (bW T).m hr (ae (dv 0) (ae (dv 1) ag)))) (dv 0) (dv 1)))),fun _ _ M Q h=>?_⟩;obtain⟨c,d,g,h',rfl,rfl,h1,h2,h3,h4,k⟩:=h;refine⟨_,rfl,_,rfl,c,d,g,h',rfl,rfl,h1,h2,h3,h4,_,rfl,?_⟩;refine bL (fun h=>?_) (fun h=>?_)
 ·have z:Ma.ah c d g h':=by simpa[Ma.ah]using h
  have:=k (c,d) (by rw[if_pos z]);exact⟨_,rfl,rtn this⟩
 ·have z:¬Ma.ah c d g h':=by simpa[Ma.ah]using h
  have:=k (g,h') (by rw[if_neg z]);exact⟨_,rfl,rtn this⟩
theorem n6:FnScope ["wall"] ["wall"] (aq gm):=by walk_at "sc"
inductive Cn_own_wall(x:D)(M:MH)(Q:DK):Prop
 |mk (a b c d:Rat) (_:x=Ma.wll a b c d) (_:Ma.Bq 8000 a) (_:Ma.Bq 8000 b) (_:Ma.Bq 8000 c) (_:Ma.Bq 8000 d) (_:Q (Ma.wll a b c d) M)
theorem qp(T:Tx K mg):Cal P w K mg base 4 "own_wall" (sD1 Cn_own_wall):=by refine jk (k:=3) T.f_own_wall n6 fun f cdv A outer s H E hr=>⟨_,(ar (aC (aK (ae (ao (de T).m hr (ae (au (dv 0) af) ag)) (ae (ao (de T).m hr (ae (au (dv 0) af) ag)) ag))))),fun _ M Q h=>?_⟩;obtain⟨a,b,c,d,rfl,h1,h2,h3,h4,k⟩:=h;exact⟨_,rfl,_,rfl,a,b,rfl,h1,h2,_,rfl,_,rfl,c,d,rfl,h3,h4,nbL rfl,rtn k⟩
theorem bX:FnScope ["one","other","start","end"] ["one","other"] (aq ck):=by walk_at "sc"
inductive Cn_meeting_in_line(u v:D)(M:MH)(Q:DK):Prop
 |mk (a b c d e f g h:Rat) (_:u=Ma.wll a b c d) (_:v=Ma.wll e f g h) (_:Ma.Bq 100 a) (_:Ma.Bq 100 b) (_:Ma.Bq 100 c) (_:Ma.Bq 100 d) (_:Ma.Bq 100 e) (_:Ma.Bq 100 f) (_:Ma.Bq 100 g) (_:Ma.Bq 100 h) (_:Q (zi a b c d e f g h) M)
theorem gB(T:Tx K mg):Cal P w K mg base 5 "meeting_in_line" (sD2 Cn_meeting_in_line):=by
 refine a9 (k:=4) T.f_meeting_in_line bX fun f cdv A outer s H E hr=>⟨_,(aj (aA 2 bX.nd (ao (o9 T).m hr (ae (au (dv 0) af) (ae (au (dv 1) af) ag)))) (aj (aA 3 bX.nd (ao (lR T).m hr (ae (au (dv 0) af) (ae (au (dv 1) af) ag)))) (aj (aS (dX (ao (bW T).m hr (ae (dv 2) (ae (dv 3) ag)))) (ar (aC (aK (ae gc (ae (ao (qp T).m hr (ae (aK (ae (dv 2) (ae (dv 3) ag))) ag)) ag))))) aJ) (aj (aS (dX (ao (bW T).m hr (ae (dv 3) (ae (dv 2) ag)))) (ar (aC dP)) aJ) (ar (aC (aK (ae gc (ae (ao (de T).m hr (ae (dv 2) ag)) ag))))))))),fun _ _ M Q h=>?_⟩;obtain⟨a,b,c,d,e,f,g,h',rfl,rfl,h1,h2,h3,h4,h5,h6,h7,h8,k⟩:=h;have mo:∀{n:Nat} {q:Rat},Ma.Bq 100 q->100<=n->Ma.Bq n q:=fun z l=>z.mono l;refine⟨_,rfl,_,rfl,_,rfl,_,rfl,a,b,e,f,rfl,rfl,mo h1 (by decide),mo h2 (by decide),mo h5 (by decide),mo h6 (by decide),fun s hs=>?_⟩;refine⟨_,rfl,_,rfl,_,rfl,_,rfl,c,d,g,h',rfl,rfl,mo h3 (by decide),mo h4 (by decide),mo h7 (by decide),mo h8 (by decide),fun n hn=>?_⟩
 have bs:Ma.Bq 100 s.1/\Ma.Bq 100 s.2:=by
  rw[hs];split
  ·exact⟨h1,h2⟩
  ·exact⟨h5,h6⟩
 have bn:Ma.Bq 100 n.1/\Ma.Bq 100 n.2:=by
  rw[hn];split
  ·exact⟨h3,h4⟩
  ·exact⟨h7,h8⟩
 unfold zi at k;rw[<-hs,<-hn]at k;dsimp only at k;obtain⟨s1,s2⟩:=s;obtain⟨n1,n2⟩:=n;dsimp only at bs bn k;refine⟨_,rfl,_,rfl,s1,s2,n1,n2,rfl,rfl,mo bs.1 (by decide),mo bs.2 (by decide),mo bn.1 (by decide),mo bn.2 (by decide),_,rfl,?_⟩;refine bL (fun z=>?_) (fun z=>?_)
 ·have z:Ma.ah s1 s2 n1 n2:=by simpa[Ma.ah]using z
  rw[if_pos z]at k;exact⟨_,rfl,_,rfl,nbL rfl,s1,s2,n1,n2,rfl,mo bs.1 (by decide),mo bs.2 (by decide),mo bn.1 (by decide),mo bn.2 (by decide),nbL rfl,rtn k⟩
 have z:¬Ma.ah s1 s2 n1 n2:=by simpa[Ma.ah]using z
 rw[if_neg z]at k;refine⟨_,rfl,_,rfl,n1,n2,s1,s2,rfl,rfl,mo bn.1 (by decide),mo bn.2 (by decide),mo bs.1 (by decide),mo bs.2 (by decide),_,rfl,?_⟩;refine bL (fun y=>?_) (fun y=>?_)
 ·have y:Ma.ah n1 n2 s1 s2:=by simpa[Ma.ah]using y
  rw[if_pos y]at k;exact rtn k
 ·have y:¬Ma.ah n1 n2 s1 s2:=by simpa[Ma.ah]using y
  rw[if_neg y]at k;exact⟨_,rfl,s1,s2,rfl,mo bs.1 (by decide),mo bs.2 (by decide),nbL rfl,rtn k⟩
theorem zt:FnScope ["one","other"] ["one","other"] (aq p6):=by walk_at "sc"
inductive Cn_over(x y:D)(M:MH)(Q:DK):Prop
 |mk (n:Nat) (q r:Rat) (_:x=Ma.fr q) (_:y=Ma.fr r) (_:Ma.Bq n q) (_:Ma.Bq n r) (_:2*n+1<=8000) (_:r≠0) (_:Q (Ma.fr (q/r)) M)
theorem BX(T:Tx K mg):Cal P w K mg base 3 "over" (sD2 Cn_over):=by refine a9 (k:=2) T.f_over zt fun f cdv A outer s H E hr=>⟨_,(ar (aC (ao (bJ T).m hr (ae (aw aF (au (dv 0) af) (au (dv 1) af)) (ae (aw aF (au (dv 0) af) (au (dv 1) af)) ag))))),fun _ _ M Q h=>?_⟩;obtain⟨n,q,r,rfl,rfl,h1,h2,hn,h0,k⟩:=h;obtain⟨m1,m2,m3,m4⟩:=h1.mOk h2 (by omega);have hr0:r.num≠0:=fun z=>h0 (Rat.num_eq_zero.mp z);refine⟨_,rfl,_,rfl,_,rfl,_,rfl,m2,_,rfl,_,rfl,_,rfl,_,rfl,dF (h1.2.mono (by omega)) (h2.1.mono (by omega)),?_⟩;refine⟨_,_,rfl,rfl,Int.mul_ne_zero (Ma.dW q) hr0,((h1.1.mul h2.2).mono (by omega)),((h1.2.mul h2.1).mono (by omega)),?_⟩;rw[Ma.div_eq];exact rtn k
theorem yH:FnScope ["one","other"] ["one","other"] (aq pM):=by walk_at "sc"
inductive Cn_less(x y:D)(M:MH)(Q:DK):Prop
 |mk (n:Nat) (q r:Rat) (_:x=Ma.fr q) (_:y=Ma.fr r) (_:Ma.Bq n q) (_:Ma.Bq n r) (_:2*n+1<=8000) (_:Q (Ma.fr (q-r)) M)
theorem ve(T:Tx K mg):Cal P w K mg base 3 "less" (sD2 Cn_less):=by refine a9 (k:=2) T.f_less yH fun f cdv A outer s H E hr=>⟨_,(ar (aC (ao (bJ T).m hr (ae (aw cP (aw aF (au (dv 0) af) (au (dv 1) af)) (aw aF (au (dv 1) af) (au (dv 0) af))) (ae (aw aF (au (dv 0) af) (au (dv 1) af)) ag))))),fun _ _ M Q h=>?_⟩;obtain⟨n,q,r,rfl,rfl,h1,h2,hn,k⟩:=h;obtain⟨m1,m2,m3,m4⟩:=h1.mOk h2 (by omega);refine⟨_,rfl,_,rfl,_,rfl,_,rfl,m2,_,rfl,_,rfl,_,rfl,_,rfl,m3,trivial,_,rfl,_,rfl,_,rfl,_,rfl,m4,?_⟩;refine⟨_,_,rfl,rfl,Ma.gq q r,(h1.lb h2).mono hn,(h1.rX h2).mono hn,?_⟩;rw[Ma.sub_eq];exact rtn k
theorem xP:FnScope ["one","other"] ["one","other"] (aq qz):=by walk_at "sc"
inductive Cn_plus(x y:D)(M:MH)(Q:DK):Prop
 |mk (n:Nat) (q r:Rat) (_:x=Ma.fr q) (_:y=Ma.fr r) (_:Ma.Bq n q) (_:Ma.Bq n r) (_:2*n+1<=8000) (_:Q (Ma.fr (q+r)) M)
theorem Bk(T:Tx K mg):Cal P w K mg base 3 "plus" (sD2 Cn_plus):=by refine a9 (k:=2) T.f_plus xP fun f cdv A outer s H E hr=>⟨_,(ar (aC (ao (bJ T).m hr (ae (aw aO (aw aF (au (dv 0) af) (au (dv 1) af)) (aw aF (au (dv 1) af) (au (dv 0) af))) (ae (aw aF (au (dv 0) af) (au (dv 1) af)) ag))))),fun _ _ M Q h=>?_⟩;obtain⟨n,q,r,rfl,rfl,h1,h2,hn,k⟩:=h;obtain⟨m1,m2,m3,m4⟩:=h1.mOk h2 (by omega);refine⟨_,rfl,_,rfl,_,rfl,_,rfl,m2,_,rfl,_,rfl,_,rfl,_,rfl,m3,_,rfl,_,rfl,_,rfl,_,rfl,m4,?_⟩;refine⟨_,_,rfl,rfl,Ma.gq q r,(h1.Ce h2).mono hn,(h1.rX h2).mono hn,?_⟩;rw[Ma.add_eq];exact rtn k
theorem vh:FnScope ["one","other"] ["one","other"] (aq mE):=by walk_at "sc"
inductive Cn_times(x y:D)(M:MH)(Q:DK):Prop
 |mk (n:Nat) (q r:Rat) (_:x=Ma.fr q) (_:y=Ma.fr r) (_:Ma.Bq n q) (_:Ma.Bq n r) (_:2*n+1<=8000) (_:Q (Ma.fr (q*r)) M)
theorem xl(T:Tx K mg):Cal P w K mg base 3 "times" (sD2 Cn_times):=by refine a9 (k:=2) T.f_times vh fun f cdv A outer s H E hr=>⟨_,(ar (aC (ao (bJ T).m hr (ae (aw aF (au (dv 0) af) (au (dv 1) af)) (ae (aw aF (au (dv 0) af) (au (dv 1) af)) ag))))),fun _ _ M Q h=>?_⟩;obtain⟨n,q,r,rfl,rfl,h1,h2,hn,k⟩:=h;obtain⟨m1,m2,m3,m4⟩:=h1.mOk h2 (by omega);refine⟨_,rfl,_,rfl,_,rfl,_,rfl,m1,_,rfl,_,rfl,_,rfl,_,rfl,m4,?_⟩;refine⟨_,_,rfl,rfl,Ma.gq q r,(h1.CS h2).mono hn,(h1.rX h2).mono hn,?_⟩;rw[Ma.mul_eq];exact rtn k
theorem gI:FnScope ["start","end","share"] ["start","end","share"] (aq cx):=by walk_at "sc"
inductive Cn_number_between(x y z:D)(M:MH)(Q:DK):Prop
 |mk (p q s:Rat) (_:x=Ma.fr p) (_:y=Ma.fr q) (_:z=Ma.fr s) (_:Ma.Bq 100 p) (_:Ma.Bq 100 q) (_:Ma.Bq 3215 s) (_:Q (Ma.fr (btw p q s)) M)
theorem d4(T:Tx K mg):Cal P w K mg base 4 "number_between" (sD3 Cn_number_between):=by
 refine zT (k:=3) T.f_number_between gI fun f cdv A outer s H E hr=>⟨_,(ar (aC (ao (Bk T).m hr (ae (dv 0) (ae (ao (xl T).m hr (ae (dv 2) (ae (ao (ve T).m hr (ae (dv 1) (ae (dv 0) ag))) ag))) ag))))),fun _ _ _ M Q h=>?_⟩;obtain⟨p,q,s,rfl,rfl,rfl,h1,h2,h3,k⟩:=h;refine⟨_,rfl,_,rfl,_,rfl,_,rfl,100,q,p,rfl,rfl,h2,h1,by decide,?_⟩;refine⟨3215,s,q-p,rfl,rfl,h3,(h2.sub h1).mono (by decide),by decide,?_⟩;have b3:Ma.Bq 3416 (s*(q-p)):=by rw[<-Ma.mul_eq];exact .divInt (Ma.gq _ _) ((h3.1.mul (h2.sub h1).1).mono (by decide)) ((h3.2.mul (h2.sub h1).2).mono (by decide))
 exact⟨3416,p,s*(q-p),rfl,rfl,h1.mono (by decide),b3,by decide,rtn k⟩
theorem aN:FnScope ["one","other","start","end","top","bottom","from_start","share"] ["one","other"] (aq cO):=by walk_at "sc"
inductive Cn_crossing_spot(u v:D)(M:MH)(Q:DK):Prop
 |mk (a b c d e f g h:Rat) (_:u=Ma.wll a b c d) (_:v=Ma.wll e f g h) (_:Ma.Bq 100 a) (_:Ma.Bq 100 b) (_:Ma.Bq 100 c) (_:Ma.Bq 100 d) (_:Ma.Bq 100 e) (_:Ma.Bq 100 f) (_:Ma.Bq 100 g) (_:Ma.Bq 100 h) (_:Ma.cr a b c d e f-Ma.cr a b c d g h≠0) (_:Q (Ma.spt (btw e g (Ma.cr a b c d e f/(Ma.cr a b c d e f-Ma.cr a b c d g h))) (btw f h (Ma.cr a b c d e f/(Ma.cr a b c d e f-Ma.cr a b c d g h)))) M)
theorem iL(T:Tx K mg):Cal P w K mg base 5 "crossing_spot" (sD2 Cn_crossing_spot):=by
 refine a9 (k:=4) T.f_crossing_spot aN fun f cdv A outer s H E hr=>⟨_,(aj (dg (dv 1) (cz rfl (aI (aE 2 aN.nd) (aI (aE 3 aN.nd) bO)))) (aj (dg (ao (pW T).m hr (ae (dv 0) (ae (dv 2) ag))) (cz rfl (aI (aE 4 aN.nd) (aI (aE 5 aN.nd) bO)))) (aj (aA 6 aN.nd (ao (bJ T).m hr (ae (dv 4) (ae (dv 5) ag)))) (aj (dg (ao (pW T).m hr (ae (dv 0) (ae (dv 3) ag))) (cz rfl (aI (aE 4 aN.nd) (aI (aE 5 aN.nd) bO)))) (aj (aA 7 aN.nd (ao (BX T).m hr (ae (dv 6) (ae (ao (ve T).m hr (ae (dv 6) (ae (ao (bJ T).m hr (ae (dv 4) (ae (dv 5) ag))) ag))) ag)))) (ar (aC (aK (ae (ao (d4 T).m hr (ae (au (dv 2) af) (ae (au (dv 3) af) (ae (dv 7) ag)))) (ae (ao (d4 T).m hr (ae (au (dv 2) af) (ae (au (dv 3) af) (ae (dv 7) ag)))) ag)))))))))),fun _ _ M Q h=>?_⟩;obtain⟨a,b,c,d,e,f,g,h',rfl,rfl,h1,h2,h3,h4,h5,h6,h7,h8,h0,k⟩:=h;refine⟨_,rfl,_,rfl,rfl,_,_,rfl,_,_,rfl,rfl,?_⟩;refine⟨_,rfl,_,rfl,100,a,b,c,d,e,f,rfl,rfl,h1,h2,h3,h4,h5,h6,by decide,fun t1 e1 he1 q1 bt1 be1=>?_⟩;refine⟨_,rfl,rfl,_,_,rfl,_,_,rfl,rfl,?_⟩;refine⟨_,rfl,_,rfl,t1,e1,rfl,rfl,by omega,bt1.mono (by decide),be1.mono (by decide),?_⟩;refine⟨_,rfl,_,rfl,100,a,b,c,d,g,h',rfl,rfl,h1,h2,h3,h4,h7,h8,by decide,fun t2 e2 he2 q2 bt2 be2=>?_⟩;refine⟨_,rfl,rfl,_,_,rfl,_,_,rfl,rfl,?_⟩;have b1:Ma.Bq 803 (Ma.cr a b c d e f):=by rw[<-q1];exact .divInt (by omega) bt1 be1
 have b2:Ma.Bq 803 (Ma.cr a b c d g h'):=by rw[<-q2];exact .divInt (by omega) bt2 be2
 rw[q1];refine⟨_,rfl,_,rfl,_,rfl,_,rfl,t2,e2,rfl,rfl,by omega,bt2.mono (by decide),be2.mono (by decide),?_⟩;rw[q2];refine⟨803,_,_,rfl,rfl,b1,b2,by decide,?_⟩;refine⟨1607,_,_,rfl,rfl,b1.mono (by decide),b1.sub b2,by decide,h0,?_⟩
 have bs:Ma.Bq 3215 (Ma.cr a b c d e f/(Ma.cr a b c d e f-Ma.cr a b c d g h')):=by
  rw[<-Ma.div_eq]
  have hz:(Ma.cr a b c d e f-Ma.cr a b c d g h').num≠0:=fun z=>h0 (Rat.num_eq_zero.mp z)
  have y1:=b1.mono (show 803<=1607 by decide)
  have y2:=b1.sub b2
  exact .divInt (Int.mul_ne_zero (Ma.dW _) hz) ((y1.1.mul y2.2).mono (by decide)) ((y1.2.mul y2.1).mono (by decide))
 generalize Ma.cr a b c d e f/(Ma.cr a b c d e f-Ma.cr a b c d g h')=sh at bs k;refine⟨_,rfl,_,rfl,_,rfl,_,rfl,_,rfl,e,g,sh,rfl,rfl,rfl,h5,h7,bs,?_⟩;exact⟨_,rfl,_,rfl,_,rfl,_,rfl,_,rfl,f,h',sh,rfl,rfl,rfl,h6,h8,bs,nbL rfl,rtn k⟩
theorem jO:FnScope ["one","other","first_side","second_side"] ["one","other"] (aq ij):=by walk_at "sc"
inductive Cn_meeting(u v:D)(M:MH)(Q:DK):Prop
 |mk (a b c d e f g h:Rat) (_:u=Ma.wll a b c d) (_:v=Ma.wll e f g h) (_:Ma.Bq 100 a) (_:Ma.Bq 100 b) (_:Ma.Bq 100 c) (_:Ma.Bq 100 d) (_:Ma.Bq 100 e) (_:Ma.Bq 100 f) (_:Ma.Bq 100 g) (_:Ma.Bq 100 h) (_:Q (oh a b c d e f g h) M)
theorem tu(T:Tx K mg):Cal P w K mg base 6 "meeting" (sD2 Cn_meeting):=by
 refine a9 (k:=5) T.f_meeting jO fun f cdv A outer s H E hr=>⟨_,(aj (eO 2 3 rfl jO.nd (ae (ao (d7 T).m hr (ae (dv 0) (ae (au (dv 1) af) ag))) (ae (ao (d7 T).m hr (ae (dv 0) (ae (au (dv 1) af) ag))) ag))) (aj (aS (iH (fz (aG (cw hr.units) (dv 2) af) (dH (aG (cw hr.units) (dv 3) af)))) (ar (aC (ao (gB T).m hr (ae (dv 0) (ae (dv 1) ag))))) aJ) (aj (aS (iH (og (aG (eV hr.units) (aw aF (dv 2) (dv 3)) af) (lP (aG (eV hr.units) (aw aF (ao (d7 T).m hr (ae (dv 1) (ae (au (dv 0) af) ag))) (ao (d7 T).m hr (ae (dv 1) (ae (au (dv 0) af) ag)))) af)))) (ar (aC dP)) aJ) (ar (aC (aK (ae gc (ae (ao (iL T).m hr (ae (dv 0) (ae (dv 1) ag))) ag)))))))),fun _ _ M Q h=>?_⟩;obtain⟨a,b,c,d,e,f,g,h',rfl,rfl,h1,h2,h3,h4,h5,h6,h7,h8,k⟩:=h;unfold oh at k;refine⟨_,rfl,_,rfl,_,rfl,100,a,b,c,d,e,f,rfl,rfl,h1,h2,h3,h4,h5,h6,by decide,?_⟩;refine⟨_,rfl,_,rfl,_,rfl,100,a,b,c,d,g,h',rfl,rfl,h1,h2,h3,h4,h7,h8,by decide,?_⟩;refine⟨_,_,rfl,?_⟩;have sb:∀z:Rat,Bd 64 (Ma.sgn z):=Av;(try dsimp only[SD.aQ])
 (try dsimp only[SD.fS,SD.fm,SD.aQ,SD.jI,SD.iZ,SD.eE,SD.gh,SD.tBD,SD.jl])
 refine De (decide (Ma.sgn (Ma.cr a b c d e f)=0)) (decide (Ma.sgn (Ma.cr a b c d g h')=0)) (fun K hK=>⟨_,rfl,_,rfl,hK⟩) (fun _ K hK=>⟨_,rfl,_,rfl,hK⟩) ?_;rw[<-Bool.decide_and];refine bL (fun z=>?_) (fun z=>?_)
 ·have z:Ma.sgn (Ma.cr a b c d e f)=0/\Ma.sgn (Ma.cr a b c d g h')=0:=by simpa using z
  rw[if_pos z]at k;exact⟨_,rfl,_,rfl,a,b,c,d,e,f,g,h',rfl,rfl,h1,h2,h3,h4,h5,h6,h7,h8,rtn k⟩
 have z:¬(Ma.sgn (Ma.cr a b c d e f)=0/\Ma.sgn (Ma.cr a b c d g h')=0):=by simpa using z
 rw[if_neg z]at k;refine orT (decide (0<Ma.sgn (Ma.cr a b c d e f)*Ma.sgn (Ma.cr a b c d g h'))) (decide (0<Ma.sgn (Ma.cr e f g h' a b)*Ma.sgn (Ma.cr e f g h' c d))) (fun K hK=>⟨_,rfl,_,rfl,bG (sb _),trivial,_,rfl,hK⟩) (fun _ K hK=>⟨_,rfl,_,rfl,_,rfl,100,e,f,g,h',a,b,rfl,rfl,h5,h6,h7,h8,h1,h2,by decide,_,rfl,_,rfl,_,rfl,100,e,f,g,h',c,d,rfl,rfl,h5,h6,h7,h8,h3,h4,by decide,bG (sb _),trivial,_,rfl,hK⟩) ?_;rw[<-Bool.decide_or];refine bL (fun y=>?_) (fun y=>?_)
 ·rw[if_pos (by simpa using y)]at k;exact rtn k
 ·have y:¬(0<Ma.sgn (Ma.cr a b c d e f)*Ma.sgn (Ma.cr a b c d g h')\/0<Ma.sgn (Ma.cr e f g h' a b)*Ma.sgn (Ma.cr e f g h' c d)):=by simpa using y
  rw[if_neg y]at k;refine⟨_,rfl,_,rfl,a,b,c,d,e,f,g,h',rfl,rfl,h1,h2,h3,h4,h5,h6,h7,h8,?_,nbL rfl,rtn k⟩;intro hz;have hz:Ma.cr a b c d e f=Ma.cr a b c d g h':=by grind
  rw[hz]at y z;have:Ma.sgn (Ma.cr a b c d g h')≠0:=fun q=>z ⟨q,q⟩;have hs:=lH (Ma.cr a b c d g h');rcases hs with q|q|q
  ·rw[q]at y;exact y (.inl (by decide))
  ·rw[q]at y;exact y (.inl (by decide))
  ·exact this q
theorem bH:FnScope ["row","spot","low","high","middle"] ["row","spot"] (aq dO):=by walk_at "sc"
inductive Cn_place_among(x y:D)(M:MH)(Q:DK):Prop
 |mk (l:Addr) (fs:List Sq) (u:Sq) (_:x=.ref l) (_:y=spq u) (_:M l=some (.lst (fs.map spq))) (_:(∀v∈fs,BS v)) (_:BS u) (_:fs.Pairwise plq) (_:∀j:Nat,j<=fs.length->(∀i x,i<j->fs[i]?=some x->plq x u)->(∀i x,j<=i->fs[i]?=some x->¬plq x u)->Q (.int (j:Int)) M)
theorem kr(T:Tx K mg):Cal P w K mg base 3 "place_among" (sD2 Cn_place_among):=by
 refine a9 (k:=2) T.f_place_among bH fun f cdv A outer s H E hr=>⟨_,(aj (eO 2 3 rfl bH.nd (ae af (ae (aD dU rfl T.b_len cC (ae (dv 0) ag)) ag))) (aj (gJ Fn (aG (c7 hr.units) (dv 2) (dv 3)) (aj (aA 4 bH.nd (aw jQ (aw aO (dv 2) (dv 3)) af)) (ar (aS (dX (ao (bW T).m hr (ae (au (dv 0) (dv 4)) (ae (dv 1) ag)))) (ar (aA 2 bH.nd (aw aO (dv 4) af))) (ar (aA 3 bH.nd (dv 4))))))) (ar (aC (dv 2))))),fun _ _ M Q h=>?_⟩;obtain⟨l,fs,u,rfl,rfl,hl,hb,hu,up,k⟩:=h;have hN:(fs.map spq).length=fs.length:=E6 ..;refine⟨_,rfl,_,hl,_,_,rfl,?_⟩;refine⟨fun m δ M'=>M'=M/\∃(lo hi:Nat) (o4:Option D),δ=[some (.ref l),some (spq u),some (.int (lo:Int)),some (.int (hi:Int)),o4]/\lo<=hi/\hi<=fs.length/\(∀i x,i<lo->fs[i]?=some x->plq x u)/\(∀i x,hi<=i->fs[i]?=some x->¬plq x u)/\m=hi-lo,⟨_,rfl,0,fs.length,_,by rw[hN];rfl,Fz _,E9 _,fun i x hi=>by omega,fun i x h1 e=>(by rw[List.getElem?_eq_none h1]at e;cases e),rfl⟩,?_⟩;rintro m δ M' ⟨rfl,lo,hi,o4,rfl,h1,h2,a,c,hm⟩;refine⟨_,rfl,_,rfl,trivial,_,rfl,?_⟩;refine bL (fun h=>?_) (fun h=>?_)
 ·have hlt:lo<hi:=by
   have:(lo:Int)<(hi:Int):=by simpa using h
   omega
  have hmid:Int.fdiv ((lo:Int)+(hi:Int)) 2=(((lo+hi)/2:Nat):Int):=by rw[Int.fdiv_eq_ediv_of_nonneg _ (by decide)];omega
  have hk:(lo+hi)/2<fs.length:=by omega
  refine⟨_,rfl,_,rfl,⟨by decide,cy (by decide)⟩,?_⟩;dsimp only;rw[hmid];have hq0:lo<=(lo+hi)/2/\(lo+hi)/2<hi:=by omega
  generalize (lo+hi)/2=q at hk hq0 ⊢;have em:fs[q]?=some fs[q]:=EL hk;have bq:=hb _ (List.getElem_mem hk);refine⟨_,rfl,_,rfl,_,_,hl,iQ (by rw[EN,em];rfl),_,rfl,_,_,_,_,rfl,rfl,bq.1.mono (by decide),bq.2.mono (by decide),hu.1.mono (by decide),hu.2.mono (by decide),_,rfl,?_⟩;refine bL (fun h=>?_) (fun h=>?_)
  ·have z:plq fs[q] u:=by simpa[plq,Ma.ah]using h
   refine⟨_,rfl,hi-(q+1),by omega,rfl,q+1,hi,_,rfl,by omega,h2,fun i x hi' e=>?_,c,rfl⟩;by_cases y:i=q
   ·subst y;rw[em]at e;cases e;exact z
   ·obtain⟨li,ei⟩:=EB.mp e;have:=Fj.mp up i q li hk (by omega);rw[ei]at this;exact uA this z
  ·have z:¬plq fs[q] u:=by simpa[plq,Ma.ah]using h
   exact⟨_,rfl,q-lo,by omega,rfl,lo,q,_,rfl,by omega,by omega,a,zL up fun x e=>by rw[em]at e;cases e;exact z,rfl⟩
 ·have:lo=hi:=by
   have:¬(lo:Int)<(hi:Int):=by simpa using h
   omega
  subst this;(repeat (first|refine⟨_,rfl,?_⟩|refine⟨trivial,?_⟩|refine⟨_,_,rfl,?_⟩|refine⟨rfl,?_⟩|refine⟨nbL rfl,?_⟩))
  exact rtn (k lo h2 a c)
theorem dj:FnScope ["spots","row","spot"] ["spots"] (aq dY):=by walk_at "sc"
inductive Cn_ahead_first(x:D)(M:MH)(Q:DK):Prop
 |mk (l:Addr) (us:List Sq) (_:x=.ref l) (_:M l=some (.lst (us.map spq))) (_:us.length<=1000) (_:(∀v∈us,BS v)) (_:us.Nodup) (_:∀(M':MH) (z:Addr) (fs:List Sq),SD.Sub M M'->M z=none->M' z=some (.lst (fs.map spq))->fs.Pairwise plq->(∀v,v∈fs↔v∈us)->fs.length=us.length->Q (.ref z) M')
theorem fR(T:Tx K mg):Cal P w K mg base 4 "ahead_first" (sD1 Cn_ahead_first):=by
 refine jk (k:=3) T.f_ahead_first dj fun f cdv A outer s H E hr=>⟨_,(aj (aA 1 dj.nd (bR ag)) (aj (cE Fn rfl (bQ (dv 0)) (aE 2 dj.nd) (ar (fG (iE (dv 1) (ae (ao (kr T).m hr (ae (dv 1) (ae (dv 2) ag))) (ae (dv 2) ag)))))) (ar (aC (dv 1))))),fun _ M Q h=>?_⟩;obtain⟨l,us,rfl,hl,hn,hb,nd,k⟩:=h;refine⟨nbL rfl,fun z hz=>?_⟩;have nlz:l≠z:=av hl hz;have ul:(us.map spq).length=us.length:=E6 ..;refine⟨_,rfl,us.map spq,(by show(ax M z _) l=_;rw[ak nlz];exact hl),?_⟩;refine⟨fun i δ M'=>∃(fs:List Sq) (o2:Option D),δ=[some (.ref l),some (.ref z),o2]/\SD.Sub M M'/\M' z=some (.lst (fs.map spq))/\fs.Pairwise plq/\(∀v,v∈fs↔v∈us.take i)/\fs.length=i,⟨[],_,rfl,.new hz .refl,ai,.nil,by simp,rfl⟩,fun i δ M' _ q=>let⟨_,_,_,sb,_⟩:=q;sb _ _ hl,?_,?_⟩
 ·rintro i d δ M' hi hd ⟨fs,o2,rfl,sb,hz',up,me,ln⟩;have hd:(us.map spq)[i]?=some d:=hd;rw[EN]at hd;cases eu:us[i]? with
  |none=>rw[eu]at hd;cases hd
  |some u=>
   rw[eu]at hd
   cases hd
   have iu:i<us.length:=(EB.mp eu).1
   have bu:=hb u (F0 eu)
   have nu:u∉fs:=fun hp=>by obtain⟨j,hj,ej⟩:=GQ ((me u).mp hp);rw[FJ]at hj;rw[List.getElem_take]at ej;exact Fj.mp nd j i (by omega) iu (by omega) (ej.trans (EB.mp eu).2.symm)
   refine⟨_,rfl,z,_,rfl,hz',_,rfl,_,rfl,z,fs,u,rfl,rfl,hz',fun v hv=>hb v (List.mem_of_mem_take ((me v).mp hv)),bu,up,fun j hj a c=>?_⟩
   refine⟨_,rfl,_,_,j,rfl,hz',by rw[E6];exact hj,by rw[E6];omega,fP fs j u,_,rfl,fun a o h=>?_,by rw[ai];unfold fP;simp,rF up a c nu,fun v=>?_,by unfold fP;simp;omega⟩
   ·rw[ak (av h hz)];exact sb _ _ h
   ·rw[rq,me v,G9,eu];simp
 ·rintro δ M' ⟨fs,o2,rfl,sb,hz',up,me,ln⟩;have e:us.take (us.map spq).length=us:=by rw[ul,Gm]
  exact⟨_,rfl,M',.refl,k M' z fs sb hz hz' up (fun v=>(me v).trans (by show v∈us.take (us.map spq).length↔_;rw[e])) (ln.trans ul)⟩
theorem di:FnScope ["wall","walls","cuts","other","end","met"] ["wall","walls"] (aq gU):=by walk_at "sc"
inductive Cn_cuts_of(x y:D)(M:MH)(Q:DK):Prop
 |mk (t b X Y:Int) (l:Addr) (ws:List Wl) (w:Wl) (_:x=rwl t b X Y w) (_:y=.ref l) (_:M l=some (.lst (ws.map (rwl t b X Y)))) (_:Scl t b X Y) (_:ws.length<=30) (_:(∀w∈ws,Bw 30 w)) (_:w∈ws) (_:∀(M':MH) (z:Addr) (cs:List Sq),SD.Sub M M'->M z=none->M' z=some (.lst (cs.map spq))->IsCut t b X Y ws w cs->cs.length<=100->Q (.ref z) M')
theorem lz(T:Tx K mg):Cal P w K mg base 7 "cuts_of" (sD2 Cn_cuts_of):=by
 refine a9 (k:=6) T.f_cuts_of di fun f cdv A outer s H E hr=>⟨_,(aj (aA 2 di.nd ny) (aj (cE Fn rfl (bQ (dv 1)) (aE 3 di.nd) (aj (cE Fn rfl (bQ (dv 3)) (aE 4 di.nd) (ar (aS (dX (ao (tY T).m hr (ae (dv 0) (ae (dv 4) ag)))) (ar (jH (lY hr) (dv 2) (ao (de T).m hr (ae (dv 4) ag)) iA)) aJ))) (aj (aA 5 di.nd (ao (tu T).m hr (ae (dv 0) (ae (dv 3) ag)))) (ar (aS (iH (fz (aG jP (dv 5) dP) (dH (aG (cw hr.units) (au (dv 5) af) gc)))) (ar (jH (lY hr) (dv 2) (au (dv 5) af) iA)) aJ))))) (ar (aC (ao (fR T).m hr (ae (bP (gu rfl) rfl T.b_list gM (ae (dv 2) ag)) ag)))))),fun _ _ M Q h=>?_⟩;obtain⟨t,b,X,Y,l,ws,w,rfl,rfl,hl,S,hn,hB,mw,k⟩:=h;intro c hc;have nlc:l≠c:=av hl hc;have wl:(ws.map (rwl t b X Y)).length=ws.length:=E6 ..;have bw:=hB w mw;have ow:∀o∈ws,Ow o:=fun o ho=>(hB o ho).o;obtain⟨wa,wb⟩:=mV S bw;have okS:∀{x:Str},PyData.strOk x=true->G2 (.str x)=true:=fun{x} h=>Bool.and_eq_true_iff.mpr ⟨by rw[PyData.canLay0];exact h,decide_eq_true (nbL rfl)⟩;refine⟨_,rfl,ws.map (rwl t b X Y),by show(ax M c _) l=_;rw[ak nlc];exact hl,?_⟩;refine⟨fun i δ M'=>∃(us:List Sq) (o3 o4 o5:Option D),δ=[some (rwl t b X Y w),some (.ref l),some (.ref c),o3,o4,o5]/\SD.Sub M M'/\M' c=some (dsM (ksT us))/\us.Nodup/\(∀v,v∈us↔∃o∈ws.take i,qA t b X Y w o v)/\us.length<=3*i,⟨[],_,_,_,rfl,.new hc .refl,ai,List.nodup_nil,by simp,Fz _⟩,fun i δ M' _ q=>let⟨_,_,_,_,_,sb,_⟩:=q;sb _ _ hl,?_,?_⟩;rotate_left
 ·rintro δ M' ⟨us,o3,o4,o5,rfl,sb,hc',nd,me,ln⟩;have ln:us.length<=3*(ws.map (rwl t b X Y)).length:=ln;have me:∀v,v∈us↔iC t b X Y ws w v:=fun v=>by rw[yX S.t0 S.b0 ow mw v];refine(me v).trans ?_;show(∃o∈ws.take (ws.map (rwl t b X Y)).length,_)↔_;rw[wl,Gm]
  refine⟨_,rfl,.inr ⟨c,_,rfl,hc',fun p hp=>?_⟩⟩;rw[nW];refine⟨p,us,rfl,ai,by omega,fun v hv=>mJ S hB mw ((me v).mp hv),nd,fun M2 z fs sb2 hz hz2 up me2 ln2=>?_⟩;have sbp:SD.Sub M (ax M' p (.lst (us.map spq))):=.new hp sb;exact⟨M2,.refl,k M2 z fs (fun a o h=>sb2 _ _ (sbp _ _ h)) (cM sbp hz) hz2 ⟨up,fun v=>(me2 v).trans (me v)⟩ (by omega)⟩
 rintro i d δ M' hi hd ⟨us,o3,o4,o5,rfl,sb,hc',nd,me,ln⟩;have hd:(ws.map (rwl t b X Y))[i]?=some d:=hd;rw[EN]at hd;cases eo:ws[i]? with
 |none=>rw[eo]at hd;cases hd
 |some o=>
 rw[eo]at hd;cases hd;have io:i<ws.length:=(EB.mp eo).1;have bo:=hB o (F0 eo);obtain⟨oa,ob⟩:=mV S bo
 have mt:∀v,(∃o∈ws.take (i+1),qA t b X Y w o v)↔(∃o∈ws.take i,qA t b X Y w o v)\/qA t b X Y w o v:=fun v=>by
  rw[G9,eo];constructor
  ·rintro⟨u,hu,h⟩;rcases EM.mp hu with y|y
   ·exact .inl ⟨u,y,h⟩
   ·rw[show u=o by simpa using y]at h;exact .inr h
  ·rintro(⟨u,hu,h⟩|h)
   ·exact⟨u,EM.mpr (.inl hu),h⟩
   ·exact⟨o,by simp,h⟩
 refine bV (fun δ M''=>∃(vs:List Sq) (o4:Option D),δ=[some (rwl t b X Y w),some (.ref l),some (.ref c),some (rwl t b X Y o),o4,o5]/\SD.Sub M M''/\M'' c=some (dsM (ksT vs))/\vs.Nodup/\(∀v,v∈vs↔v∈us\/(OnQ t b X Y w (eaq t b X Y o)/\v=eaq t b X Y o)\/(OnQ t b X Y w (ebq t b X Y o)/\v=ebq t b X Y o))/\vs.length<=3*i+2) ?_ (fun hu=>?_);rotate_left
 ·refine⟨_,rfl,[spq (eaq t b X Y o),spq (ebq t b X Y o)],rfl,?_⟩;refine⟨fun j δ M''=>∃(vs:List Sq) (o4:Option D),δ=[some (rwl t b X Y w),some (.ref l),some (.ref c),some (rwl t b X Y o),o4,o5]/\SD.Sub M M''/\M'' c=some (dsM (ksT vs))/\vs.Nodup/\(∀v,v∈vs↔v∈us\/(1<=j/\OnQ t b X Y w (eaq t b X Y o)/\v=eaq t b X Y o)\/(2<=j/\OnQ t b X Y w (ebq t b X Y o)/\v=ebq t b X Y o))/\vs.length<=3*i+j,⟨us,_,rfl,sb,hc',nd,by simp,by omega⟩,fun i δ M' _ q=>rfl,?_,?_⟩
  ·rintro j d δ M'' hj hd ⟨vs,o4,rfl,sb2,hc2,nd2,me2,ln2⟩;have hj:j<2:=hj
   obtain⟨u,rfl,bu,hu'⟩:∃u,d=spq u/\BS u/\((j=0/\u=eaq t b X Y o)\/(j=1/\u=ebq t b X Y o)):=by
    have hd:([spq (eaq t b X Y o),spq (ebq t b X Y o)]:List D)[j]?=some d:=hd;rcases(show j=0\/j=1 by omega)with rfl|rfl
    ·cases hd;exact⟨_,rfl,oa,.inl ⟨rfl,rfl⟩⟩
    ·cases hd;exact⟨_,rfl,ob,.inr ⟨rfl,rfl⟩⟩
   refine⟨_,rfl,_,rfl,100,_,_,_,_,u.1,u.2,rfl,rfl,wa.1,wa.2,wb.1,wb.2,bu.1,bu.2,by decide,_,rfl,?_⟩;refine bL (fun h=>?_) (fun h=>?_)
   ·have on:OnQ t b X Y w u:=of_decide_eq_true h;refine⟨_,rfl,_,rfl,u.1,u.2,rfl,bu.1.mono (by decide),bu.2.mono (by decide),c,_,kq u,rfl,rfl,hc2,by rw[lU];omega,addQ vs u,_,rfl,fun a o h=>?_,by rw[ai,lO],mi nd2,fun v=>?_,by have:=jc vs u;omega⟩
    ·rw[ak (av h hc)];exact sb2 _ _ h
    ·rw[ja,me2 v];rcases hu' with⟨rfl,rfl⟩|⟨rfl,rfl⟩
     ·simp[on]
     ·simp[on,or_assoc]
   ·have on:¬OnQ t b X Y w u:=fun q=>by
     have h:=(Bool.not_eq_true _).mp h
     exact of_decide_eq_false (p:=OnQ t b X Y w u) h q
    refine⟨vs,_,rfl,sb2,hc2,nd2,fun v=>?_,by omega⟩;rw[me2 v];rcases hu' with⟨rfl,rfl⟩|⟨rfl,rfl⟩
    ·simp[on]
    ·simp[on]
  ·rintro δ M'' ⟨vs,o4,rfl,sb2,hc2,nd2,me2,ln2⟩;refine hu _ _ ⟨vs,_,rfl,sb2,hc2,nd2,fun v=>?_,ln2⟩;refine(me2 v).trans ?_;simp
 rintro δ M'' ⟨vs,o4,rfl,sb2,hc2,nd2,me2,ln2⟩;refine⟨_,rfl,_,rfl,_,_,_,_,_,_,_,_,rfl,rfl,wa.1,wa.2,wb.1,wb.2,oa.1,oa.2,ob.1,ob.2,?_⟩;have mem:∀v,v∈vs\/mtD t b X Y w o=.tup [.str "spot",spq v]↔∃o∈ws.take (i+1),qA t b X Y w o v:=fun v=>by rw[mt v,me2 v,me v];unfold qA;rw[or_assoc,or_assoc]
 rcases vV S bw bo with e|⟨u,e,bu⟩|⟨d,e⟩
 ·have e':=e;unfold mtD at e';rw[e'];refine⟨_,rfl,_,rfl,_,rfl,dQ rfl (dQ rfl ?_)⟩;refine⟨vs,_,_,_,rfl,sb2,hc2,nd2,fun v=>?_,by omega⟩;rw[<-mem v,e];simp
 ·have e':=e;unfold mtD at e';rw[e'];refine⟨_,rfl,_,rfl,_,rfl,gz rfl ?_⟩;refine⟨_,rfl,_,rfl,_,_,.str _,.str _,okS lX,okS lX,_,rfl,?_⟩;rw[qO];refine gz rfl ?_;refine⟨_,rfl,_,rfl,_,rfl,c,_,kq u,rfl,rfl,hc2,by rw[lU];omega,addQ vs u,_,_,_,rfl,fun a o h=>?_,by rw[ai,lO],mi nd2,fun v=>?_,by have:=jc vs u;omega⟩
  ·rw[ak (av h hc)];exact sb2 _ _ h
  ·rw[ja,<-mem v,e,yD];constructor
   ·rintro(h|h)
    ·exact .inl h
    ·exact .inr h.symm
   ·rintro(h|h)
    ·exact .inl h
    ·exact .inr h.symm
 ·have e':=e;unfold mtD at e';rw[e'];refine⟨_,rfl,_,rfl,_,rfl,gz rfl ?_⟩;refine⟨_,rfl,_,rfl,_,_,.str _,.str _,okS pG,okS lX,_,rfl,?_⟩;refine dQ rfl ?_;refine⟨vs,_,_,_,rfl,sb2,hc2,nd2,fun v=>?_,by omega⟩;rw[<-mem v,e];exact⟨.inl,fun h=>h.elim id fun q=>absurd (yT q) (by decide)⟩
theorem cH:FnScope ["plot","corners","wall","end"] ["plot"] (aq eP):=by walk_at "sc"
inductive Cn_corners_of(x:D)(M:MH)(Q:DK):Prop
 |mk (l:Addr) (ps:List Pc) (_:x=.ref l) (_:M l=some (.lst (ps.map pcq))) (_:ps.length<=40) (_:(∀y∈ps,BS y.1/\BS y.2)) (_:∀(M':MH) (z:Addr) (cs:List Sq),SD.Sub M M'->M z=none->M' z=some (.lst (cs.map spq))->cs.Pairwise plq->(∀v,v∈cs↔∃y∈ps,v=y.1\/v=y.2)->cs.length<=80->Q (.ref z) M')
theorem l7(T:Tx K mg):Cal P w K mg base 5 "corners_of" (sD1 Cn_corners_of):=by
 refine jk (k:=4) T.f_corners_of cH fun f cdv A outer s H E hr=>⟨_,(aj (aA 1 cH.nd ny) (aj (cE Fn rfl (bQ (dv 0)) (aE 2 cH.nd) (ar (cE Fn rfl (bQ (dv 2)) (aE 3 cH.nd) (ar (jH (lY hr) (dv 1) (ao (de T).m hr (ae (dv 3) ag)) iA))))) (ar (aC (ao (fR T).m hr (ae (bP (gu rfl) rfl T.b_list gM (ae (dv 1) ag)) ag)))))),fun _ M Q h=>?_⟩;obtain⟨l,ps,rfl,hl,hn,hB,k⟩:=h;intro c hc;have nlc:l≠c:=av hl hc;have pl:(ps.map pcq).length=ps.length:=E6 ..;refine⟨_,rfl,ps.map pcq,by show(ax M c _) l=_;rw[ak nlc];exact hl,?_⟩;refine⟨fun i δ M'=>∃(us:List Sq) (o2 o3:Option D),δ=[some (.ref l),some (.ref c),o2,o3]/\SD.Sub M M'/\M' c=some (dsM (ksT us))/\us.Nodup/\(∀v,v∈us↔∃y∈ps.take i,v=y.1\/v=y.2)/\us.length<=2*i,⟨[],_,_,rfl,.new hc .refl,ai,List.nodup_nil,by simp,Fz _⟩,fun i δ M' _ q=>let⟨_,_,_,_,sb,_⟩:=q;sb _ _ hl,?_,?_⟩
 ·rintro i d δ M' hi hd ⟨us,o2,o3,rfl,sb,hc',nd,me,ln⟩;have hd:(ps.map pcq)[i]?=some d:=hd;rw[EN]at hd;cases ey:ps[i]? with
  |none=>rw[ey]at hd;cases hd
  |some y=>
   rw[ey]at hd
   cases hd
   have iy:i<ps.length:=(EB.mp ey).1
   have by':=hB y (F0 ey)
   refine⟨_,rfl,[spq y.1,spq y.2],rfl,?_⟩
   refine⟨fun j δ M''=>∃(vs:List Sq) (o3:Option D),δ=[some (.ref l),some (.ref c),some (pcq y),o3]/\SD.Sub M M''/\M'' c=some (dsM (ksT vs))/\vs.Nodup/\(∀v,v∈vs↔v∈us\/(1<=j/\v=y.1)\/(2<=j/\v=y.2))/\vs.length<=2*i+j,⟨us,_,rfl,sb,hc',nd,by simp,by omega⟩,fun i δ M' _ q=>rfl,?_,?_⟩
   ·rintro j d δ M'' hj hd ⟨vs,o3,rfl,sb2,hc2,nd2,me2,ln2⟩;have hj:j<2:=hj
    obtain⟨u,rfl,bu,hu⟩:∃u,d=spq u/\BS u/\((j=0/\u=y.1)\/(j=1/\u=y.2)):=by
     have hd:([spq y.1,spq y.2]:List D)[j]?=some d:=hd;rcases(show j=0\/j=1 by omega)with rfl|rfl
     ·cases hd;exact⟨_,rfl,by'.1,.inl ⟨rfl,rfl⟩⟩
     ·cases hd;exact⟨_,rfl,by'.2,.inr ⟨rfl,rfl⟩⟩
    refine⟨_,rfl,_,rfl,u.1,u.2,rfl,bu.1.mono (by decide),bu.2.mono (by decide),c,_,kq u,rfl,rfl,hc2,by rw[lU];omega,addQ vs u,_,rfl,fun a o h=>?_,by rw[ai,lO],mi nd2,fun v=>?_,by have:=jc vs u;omega⟩
    ·rw[ak (av h hc)];exact sb2 _ _ h
    ·rw[ja,me2 v];rcases hu with⟨rfl,rfl⟩|⟨rfl,rfl⟩
     ·simp
     ·simp[or_assoc]
   ·rintro δ M'' ⟨vs,o3,rfl,sb2,hc2,nd2,me2,ln2⟩;refine⟨vs,_,_,rfl,sb2,hc2,nd2,fun v=>?_,by have:vs.length<=2*i+2:=ln2;omega⟩;rw[G9,ey];refine(me2 v).trans ?_;rw[me v];constructor
    ·rintro(⟨x,hx,h⟩|⟨_,h⟩|⟨_,h⟩)
     ·exact⟨x,EM.mpr (.inl hx),h⟩
     ·exact⟨y,by simp,.inl h⟩
     ·exact⟨y,by simp,.inr h⟩
    ·rintro⟨x,hx,h⟩;rcases EM.mp hx with m|m
     ·exact .inl ⟨x,m,h⟩
     ·rw[show x=y by simpa using m]at h;exact h.elim (fun e=>.inr (.inl ⟨by show 1<=2;omega,e⟩)) fun e=>.inr (.inr ⟨E9 _,e⟩)
 ·rintro δ M' ⟨us,o2,o3,rfl,sb,hc',nd,me,ln⟩;have ln:us.length<=2*(ps.map pcq).length:=ln;refine⟨_,rfl,.inr ⟨c,_,rfl,hc',fun p hp=>?_⟩⟩;rw[nW];refine⟨p,us,rfl,ai,by omega,fun v hv=>?_,nd,fun M2 z fs sb2 hz hz2 up me2 ln2=>?_⟩
  ·obtain⟨y,hy,e⟩:=(me v).mp hv;have:=hB y (List.mem_of_mem_take hy);rcases e with rfl|rfl
   ·exact this.1
   ·exact this.2
  have sbp:SD.Sub M (ax M' p (.lst (us.map spq))):=.new hp sb;refine⟨M2,.refl,k M2 z fs (fun a o h=>sb2 _ _ (sbp _ _ h)) (cM sbp hz) hz2 up (fun v=>?_) (by omega)⟩;rw[me2 v,me v];show(∃y∈ps.take (ps.map pcq).length,_)↔_;rw[pl,Gm]
theorem jX:FnScope ["pieces","numbers"] ["pieces"] (aq cX):=by walk_at "sc"
def lq:Str:=(envOfC "by_ends" (aq cX) 0 0 .none).qual++"<lambda>"
abbrev Tb(M:MH):Prop:=cT lq 316 ⟨153,36,153,88⟩ M
def eQ:SpD:=fun ds M Q=>match ds with
 |[x]=>∃(l:Addr) (ps:List Pc),x=.ref l/\M l=some (.lst (ps.map pcq))/\ps.length<=40/\(∀y∈ps,BS y.1/\BS y.2)/\ps.Nodup/\Tb M/\
  ∀(M':MH) (qs:List Pc),Tb M'->cD 316 M M'->qs.Pairwise pcl->(∀y,y∈qs↔y∈ps)->Q (.tup (qs.map pcq)) M'
 |_=>False
theorem pJ:∀ds M Q,eQ ds M Q->ds.length=1:=fun ds M Q h=>by
 unfold eQ at h;split at h
 ·rfl
 ·exact h.elim
def mP(d:D):SpD:=fun ds M Q=>match ds with
 |[x]=>∃(n:Addr) (kvs:SpT) (y:Pc) (i j:Int),d=.ref n/\x=pcq y/\M n=some (dsM kvs)/\gE kvs (kq y.1)=some (.int i)/\gE kvs (kq y.2)=some (.int j)/\Q (.tup [.int i,.int j]) M
 |_=>False
theorem AR(d:D):∀ds M Q,mP d ds M Q->ds.length=1:=fun ds M Q h=>by
 unfold mP at h;split at h
 ·rfl
 ·exact h.elim
theorem tj(T:Tx K mg):Cal P w K mg base 6 "by_ends" eQ:=by
 refine Ep (k:=5) (N:=["pieces","numbers"]) (ps:=["pieces"]) T.fc_by_ends jX (fun _ _ _ _ _ _ us hl=>match us,hl with|[_],_=>rfl) pJ fun f A outer s H E hr=>⟨_,(aj (aA 1 jX.nd (sR (lY hr) (CScope.of (xs:=["number","corner"]) (js:=[]) rfl) rfl (xO rfl T.b_enumerate (ae (ao (l7 T).m hr (ae (dv 0) ag)) ag)) (fun _ _ _ _=>fK) (fun _ _ _ _=>(dv 1)) (fun _ _ _ _=>(dv 0))))
  (ar (aC (bP jr rfl T.b_tuple gF (ae (qd (k:=2) (lx:="piece") (y:="numbers") (Pt:=316) (spg:=mP) 1 rfl T.lm (by refine⟨rfl,rfl,rfl,by decide,rfl,rfl,?_,?_⟩<;>decide) (fun _ _ _ _ _ _ _=>rfl) AR (fun base g c c' d2 A outer s H hr=>⟨_,(aK (ae (nL (lY hr) (dv 1) (au (dv 0) af) (by intro _ _;with_unfolding_all rfl)) (ae (nL (lY hr) (dv 1) (au (dv 0) af) (by intro _ _;with_unfolding_all rfl)) ag))),fun d1 M Q h=>?l⟩) hr T.b_sorted (ae (dv 0) ag)) ag))))),fun ds M Q h=>?r⟩
 case l=>
  unfold mP at h
  obtain⟨n,kvs,y,i,j,rfl,rfl,hn,h1,h2,k⟩:=h
  exact⟨_,rfl,_,rfl,_,rfl,n,kvs,kq y.1,_,rfl,rfl,hn,h1,_,rfl,_,rfl,_,rfl,n,kvs,kq y.2,_,rfl,rfl,hn,h2,nbL rfl,k⟩
 case r=>
  unfold eQ at h
  split at h
  case h_2=>exact h.elim
  obtain⟨l,ps,rfl,hl,hn,hB,nd,hT,k⟩:=h
  refine⟨_,rfl,l,ps,rfl,hl,hn,hB,fun M1 z cs sb1 hz hz1 up me ln=>?_⟩
  have cl:(cs.map spq).length=cs.length:=E6 ..
  refine⟨z,_,rfl,hz1,by show(cs.map spq).length<=_;omega,fun p hp=>?_⟩
  refine⟨fun i kvs M'=>Nbs cs i kvs/\M'=ax M1 p (dsM kvs),⟨.nil cs,rfl⟩,fun i kvs M' _ q=>by obtain⟨_,rfl⟩:=q;show(ax M1 p _) z=_;rw[ak (av hz1 hp)];exact hz1,?_,?_⟩
  ·rintro i kvs d M' hi hd ⟨nb,rfl⟩;have hd:((cs.map spq)[i]?).map (fun d=>D.tup [.int (i:Int),d])=some d:=hd;rw[EN]at hd;cases ev:cs[i]? with
   |none=>rw[ev]at hd;cases hd
   |some v=>
    rw[ev]at hd
    cases hd
    refine⟨_,⟨_,rfl,rfl,rfl⟩,?_⟩
    dsimp only[SD.mF]
    rw[if_pos rfl]
    refine⟨_,rfl,_,rfl,kq v,rfl,ai,nb.len,nb.put up ev,?_⟩
    rw[b5]
  ·rintro kvs M' ⟨nb,rfl⟩;have nb:Nbs cs cs.length kvs:=by rw[<-cl];exact nb
   have sb2:SD.Sub M (ax M1 p (dsM kvs)):=.new hp sb1;have hl2:=sb2 _ _ hl;have hT2:Tb (ax M1 p (dsM kvs)):=hT.sub sb2;have np:p≠316:=fun e=>by subst e;exact hT.ne (cM sb1 hp)
   have hm:∀y∈ps,y.1∈cs/\y.2∈cs:=fun y hy=>⟨(me _).mpr ⟨y,hy,.inl rfl⟩,(me _).mpr ⟨y,hy,.inr rfl⟩⟩;have va:∀v∈cs,gE kvs (kq v)=some (.int (ix cs v:Int)):=fun v hv=>nb.vs _ v (se hv) (kY hv);have ul:(ps.map (ixP cs)).length=ps.length:=E6 ..;refine⟨_,rfl,l,ps.map pcq,ps.map (ixP cs),.ref p,rfl,hl2,hT2.pb hl2,rfl,hT2,by rw[E6,E6],BD hm ln hn nd,fun i d M' Q' hd hs q=>?_,fun p' π M' hp' hπ hu hT' hs=>?_⟩
   ·rw[EN]at hd;cases ey:ps[i]? with
    |none=>rw[ey]at hd;cases hd
    |some y=>
     rw[ey]at hd
     cases hd
     have hy:=F0 ey
     refine⟨p,kvs,y,ix cs y.1,ix cs y.2,rfl,rfl,hs _ _ np ai,va _ (hm y hy).1,va _ (hm y hy).2,?_⟩
     have e:p0 (ps.map (ixP cs)) i=ixP cs y:=by unfold p0;simp[ey]
     rw[e]at q
     exact q
   ·rw[ul]at hπ;obtain⟨e1,e2⟩:=xB hπ;rw[e2]at hp';refine⟨_,hp',rtn (k M' _ hT' (fun a o na e=>hs _ _ na (sb2 _ _ e)) (vR up hm ln hn (by rw[ul];exact hπ) hu) fun y=>e1.mem_iff)⟩
theorem aY:FnScope ["walls","pieces","wall","cuts","start","end"] ["walls"] (aq jD):=by walk_at "sc"
def m7(t b X Y:Int)(ws:List Wl)(l c:Addr)(M:MH)(δ:DS)(M':MH):Prop:=∃(ps:List Pc) (o2 o3 o4 o5:Option D),δ=[some (.ref l),some (.ref c),o2,o3,o4,o5]/\SD.Sub M M'/\M' c=some (dwM (ps.map wkq))/\ps.Nodup/\(∀y,y∈ps↔oP t b X Y ws y)/\ps.length<=3000
theorem kX{t b X Y:Int}{ws:List Wl}{l c:Addr}{M:MH}{n:Nat}{B:EndsD}{o2 o3 o4 o5:Option D}(n2:2=n)(hl:M l=some (.lst (ws.map (rwl t b X Y))))(S:Scl t b X Y)(hn:ws.length<=30)(hB:∀w∈ws,Bw 30 w)(hc:M c=none)(hu:∀δ' M',m7 t b X Y ws l c M δ' M'->B.nx δ' M') :
 uP (Cs (tVarD 0)) (aQ 2) (fS (fm (uE (sD2 Cn_cuts_of) (f9 (tVarD 2) (f9 (tVarD 0) r9))) (aQ 3)) (uP (xQ (f9 (tVarD 3) (f9 (Cr (tVarD 3) (qe (tCD (D.int 1))) oq) r9))) (gTupD n (gConsD (aQ 4) (gConsD (aQ 5) zC))) (rh (tVarD 1) (zF (f9 (tVarD 4) (f9 (tVarD 5) r9)))))) B [some (.ref l),some (.ref c),o2,o3,o4,o5] (ax M c (dwM [])):=by
 have nlc:l≠c:=av hl hc
 have wl:(ws.map (rwl t b X Y)).length=ws.length:=E6 ..
 refine⟨_,rfl,ws.map (rwl t b X Y),by show(ax M c _) l=_;rw[ak nlc];exact hl,?_⟩
 refine⟨fun i δ M'=>∃(ps:List Pc) (o2 o3 o4 o5:Option D),δ=[some (.ref l),some (.ref c),o2,o3,o4,o5]/\SD.Sub M M'/\M' c=some (dwM (ps.map wkq))/\ps.Nodup/\(∀y,y∈ps↔∃w∈ws.take i,∃c,IsCut t b X Y ws w c/\Nxt c y)/\ps.length<=100*i,⟨[],_,_,_,_,rfl,.new hc .refl,ai,List.nodup_nil,by simp,Fz _⟩,fun i δ M' _ q=>let⟨_,_,_,_,_,_,sb,_⟩:=q;sb _ _ hl,?_,?_⟩
 rotate_left
 ·rintro δ M' ⟨ps,o2,o3,o4,o5,rfl,sb,hc',nd,me,ln⟩
  have ln:ps.length<=100*(ws.map (rwl t b X Y)).length:=ln
  refine hu _ _ ⟨ps,_,_,_,_,rfl,sb,hc',nd,fun y=>(me y).trans ?_,by omega⟩
  show(∃w∈ws.take (ws.map (rwl t b X Y)).length,_)↔_
  rw[wl,Gm];rfl
 rintro i d δ M' hi hd ⟨ps,o2,o3,o4,o5,rfl,sb,hc',nd,me,ln⟩
 have hd:(ws.map (rwl t b X Y))[i]?=some d:=hd
 rw[EN]at hd
 cases ew:ws[i]? with
 |none=>rw[ew]at hd;cases hd
 |some w=>
 rw[ew]at hd
 cases hd
 have iw:i<ws.length:=(EB.mp ew).1
 have mw:w∈ws:=F0 ew
 refine⟨_,rfl,_,rfl,t,b,X,Y,l,ws,w,rfl,rfl,sb _ _ hl,S,hn,hB,mw,fun M3 q cs sb3 hq hq3 ic lc=>?_⟩
 have hc3:=sb3 _ _ hc'
 have sbM:SD.Sub M M3:=fun a o e=>sb3 _ _ (sb _ _ e)
 refine⟨_,rfl,_,rfl,_,rfl,_,hq3,fun s hs=>?_⟩
 rw[nP]
 have nqs:q≠s:=av hq3 hs
 refine⟨q,s,cs.map spq,cs.tail.map spq,rfl,by rw[ak nqs];exact hq3,ai,?_⟩
 have en:min (cs.map spq).length (cs.tail.map spq).length=(zps cs).length:=by unfold zps;rw[E6,E6,List.length_zip]
 have zl:(zps cs).length<=100:=by unfold zps;rw[List.length_zip];omega
 refine⟨fun j δ M''=>∃(vs:List Pc) (o4 o5:Option D),δ=[some (.ref l),some (.ref c),some (rwl t b X Y w),some (.ref q),o4,o5]/\SD.Sub M M''/\M'' q=some (.lst (cs.map spq))/\M'' s=some (.lst (cs.tail.map spq))/\M'' c=some (dwM (vs.map wkq))/\vs.Nodup/\(∀y,y∈vs↔y∈ps\/y∈(zps cs).take j)/\vs.length<=100*i+j,⟨ps,_,_,rfl,.new hs sbM,by rw[ak nqs];exact hq3,ai,by rw[ak (av hc3 hs)];exact hc3,nd,by simp,by omega⟩,fun i δ M' _ z=>let⟨_,_,_,_,_,a,b,_⟩:=z;⟨a,b⟩,?_,?_⟩
 ·rintro j d δ M'' hj hd ⟨vs,o4,o5,rfl,sb2,hq2,hs2,hc2,nd2,me2,ln2⟩
  have hd:(((cs.map spq)[j]?).bind fun d=>(((cs.tail).map spq)[j]?).map fun e=>D.tup [d,e])=some d:=hd
  rw[ot]at hd
  cases ey:(zps cs)[j]? with
  |none=>rw[ey]at hd;cases hd
  |some y=>
   rw[ey]at hd
   cases hd
   have jy:j<(zps cs).length:=(EB.mp ey).1
   have nq:q≠c:=fun e=>by subst e;rw[hq2]at hc2;unfold dwM at hc2;cases hc2
   have ns:s≠c:=fun e=>by subst e;rw[hs2]at hc2;unfold dwM at hc2;cases hc2
   refine⟨_,rfl,n2,_,_,rfl,_,_,rfl,rfl,?_⟩
   refine⟨_,rfl,_,rfl,_,rfl,nbL rfl,c,_,wkq y,rfl,rfl,hc2,by rw[E6];omega,lQ vs y,_,_,rfl,fun a o h=>?_,by rw[ak nq];exact hq2,by rw[ak ns];exact hs2,by rw[ai,uX],xw nd2,fun z=>?_,by have:=uU vs y;omega⟩
   ·rw[ak (av h hc)];exact sb2 _ _ h
   ·rw[uJ,me2 z,G9,ey,EM,or_assoc];simp
 ·rintro δ M'' ⟨vs,o4,o5,rfl,sb2,hq2,hs2,hc2,nd2,me2,ln2⟩
  have ln2:vs.length<=100*i+min (cs.map spq).length (cs.tail.map spq).length:=ln2
  refine⟨vs,_,_,_,_,rfl,sb2,hc2,nd2,fun y=>(me2 y).trans ?_,by omega⟩
  show(_\/y∈(zps cs).take (min (cs.map spq).length (cs.tail.map spq).length))↔_
  rw[en,Gm,me y,rn,G9,ew]
  constructor
  ·rintro(⟨w',hw',h⟩|h)
   ·exact⟨w',EM.mpr (.inl hw'),h⟩
   ·exact⟨w,by simp,cs,ic,h⟩
  ·rintro⟨w',hw',c',ic',h⟩
   rcases EM.mp hw' with m|m
   ·exact .inl ⟨w',m,c',ic',h⟩
   ·rw[show w'=w by simpa using m]at ic'
    rw[ic'.one ic]at h
    exact .inr h
inductive Cn_parted(x:D)(M:MH)(Q:DK):Prop
 |mk (t b X Y:Int) (l:Addr) (ws:List Wl) (qs:List Pc) (hh0:x=.ref l) (hh1:M l=some (.lst (ws.map (rwl t b X Y)))) (hh2:Scl t b X Y) (hh3:ws.length<=30) (hh4:(∀w∈ws,Bw 30 w)) (hh5:Tb M) (hh6:Row t b X Y ws qs) (hh7:qs.length<=40) (hh8:∀(M':MH),Tb M'->cD 316 M M'->Q (.tup (qs.map pcq)) M'):Cn_parted x M Q
def fM:SpD:=fun ds M Q=>match ds with
 |[x]=>Cn_parted x M Q
 |_=>False
theorem sk:∀ds M Q,fM ds M Q->ds.length=1:=fun ds M Q h=>by
 unfold fM at h;split at h
 ·rfl
 ·exact h.elim
theorem vn(T:Tx K mg):Cal P w K mg base 8 "parted" fM:=by
 refine tS (k:=7) T.f_parted aY (fun _ _ _ _ _ _ us hl=>by obtain⟨_,rfl⟩:=SD.xi hl;rfl) sk fun f cdv A outer s H E hr=>⟨_,(aj (aA 1 aY.nd oV) (aj (cE Fn rfl (bQ (dv 0)) (aE 2 aY.nd) (aj (aA 3 aY.nd (ao (lz T).m hr (ae (dv 2) (ae (dv 0) ag)))) (ar (cE Fn rfl (wR rfl T.b_zip (ae (dv 3) (ae (fy (dv 3) (eC af) iR) ag))) (cz rfl (aI (aE 4 aY.nd) (aI (aE 5 aY.nd) bO))) (ar (nA (lY hr) (dv 1) (aK (ae (dv 4) (ae (dv 5) ag))))))))) (aj (aS (aG (eV hr.units) (aD mR rfl T.b_len cC (ae (dv 1) ag)) (oW rfl T.g_MOST_WALLS)) (ar nC) aJ) (ar (aC (ao (tj T).m hr (ae (bP (vy rfl) rfl T.b_list gM (ae (dv 1) ag)) ag))))))),fun ds M Q h=>?r⟩
 case r=>
  unfold fM at h
  split at h
  case h_2=>exact h.elim
  obtain⟨t,b,X,Y,l,ws,qs,rfl,hl,S,hn,hB,hT,hR,h40,k⟩:=h
  intro c hc
  (try dsimp only[SD.aQ])
  refine bV (m7 t b X Y ws l c M) ?_ (fun hu=>kX rfl hl S hn hB hc hu)
  rintro δ M' ⟨ps,o2,o3,o4,o5,rfl,sb,hc',nd,me,ln⟩
  have el:=hR.len nd me
  refine⟨_,rfl,c,_,rfl,hc',trivial,_,rfl,dQ (decide_eq_false (by rw[E6];omega)) ?_⟩
  dsimp only[SD.eE]
  refine⟨_,rfl,c,_,rfl,hc',fun p hp=>?_⟩
  have sb2:SD.Sub M (ax M' p (.lst ((ps.map wkq).map wlD))):=.new hp sb
  refine⟨p,ps,rfl,by rw[ai,GR];rfl,by omega,fun y hy=>qM S hB ((me y).mp hy),nd,hT.sub sb2,fun M2 rs hT2 hs2 up2 me2=>?_⟩
  rw[hR.one ⟨up2,fun y=>(me2 y).trans (me y)⟩]
  exact rtn (k M2 hT2 fun a o na e=>hs2 _ _ na (sb2 _ _ e))
def eg(K:E1):pR:=fun ds M R=>match ds with
 |[x]=>∃(t b X Y:Int) (l:Addr) (ws:List Wl) (qs:List Pc),x=.ref l/\M l=some (.lst (ws.map (rwl t b X Y)))/\Scl t b X Y/\ws.length<=30/\(∀w∈ws,Bw 30 w)/\Row t b X Y ws qs/\40<qs.length/\
  ∀M' dx,SD.Sub M M'->M' dx=some (wq [("count",.int (qs.length:Int))])->R (cl K "TooMany") (some dx) M'
 |_=>False
theorem pj(K:E1):∀ds M Q,eg K ds M Q->ds.length=1:=fun ds M Q h=>by
 unfold eg at h;split at h
 ·rfl
 ·exact h.elim
theorem wu(T:Tx K mg):kO P w K mg base 8 "parted" (eg K):=by
 refine CM (k:=7) (N:=["walls","pieces","wall","cuts","start","end"]) (ps:=["walls"]) T.f_parted aY (fun _ _ _ _ _ _ us hl=>match us,hl with|[_],_=>rfl) (pj K) fun f cdv A outer s H E R hr hE=>⟨_,(aj (aA 1 aY.nd oV)
  (aj (cE wD rfl (bQ (dv 0)) (aE 2 aY.nd) (aj (aA 3 aY.nd (ao (lz T).m hr (ae (dv 2) (ae (dv 0) ag))))
  (ar (cE wD rfl (wR rfl T.b_zip (ae (dv 3) (ae (fy (dv 3) (eC af) iR) ag))) (cz rfl (aI (aE 4 aY.nd) (aI (aE 5 aY.nd) bO))) (ar (nA (lY hr) (dv 1) (aK (ae (dv 4) (ae (dv 5) ag)))))))))
  (aj (aS (aG (eV hr.units) (aD mR rfl T.b_len cC (ae (dv 1) ag)) (oW rfl T.g_MOST_WALLS)) (ar (sS hE ((pT T).mono (by decide)) hr (ae (aD mR rfl T.b_len cC (ae (dv 1) ag)) ag))) aJ)
  tI))),fun ds M h=>?r⟩
 case r=>
  unfold eg at h
  split at h
  case h_2=>exact h.elim
  obtain⟨t,b,X,Y,l,ws,qs,rfl,hl,S,hn,hB,hR,h40,k⟩:=h
  intro c hc
  (try dsimp only[SD.aQ])
  refine bV (m7 t b X Y ws l c M) ?_ (fun hu=>kX rfl hl S hn hB hc hu)
  rintro δ M' ⟨ps,o2,o3,o4,o5,rfl,sb,hc',nd,me,ln⟩
  have el:=hR.len nd me
  refine⟨_,rfl,c,_,rfl,hc',trivial,_,rfl,gz (decide_eq_true (by rw[E6];omega)) ?_⟩
  refine⟨_,rfl,c,_,rfl,hc',rfl,(show 1<=1000 by decide),fun d hd=>?_,fun dx hdx=>?_⟩
  ·rw[F1.mp hd,E6];exact .int (by omega) (by omega)
  ·rw[E6,el];exact k _ dx (.new hdx sb) ai
theorem eM:FnScope ["_law_heard","_law_place","_law_kinds"] ["_law_heard","_law_place"] (aq fB):=by walk_at "sc"
def cS(K:E1):SpD:=fun ds M Q=>match ds with
 |[x,y]=>∃(a:Addr) (dd:Option Addr),x=.ref a/\y=.int 6/\M a=some (fV (cl K "TooMany") dd)/\Q (.bl true) M
 |_=>False
theorem mH(K:E1):∀ds M Q,(cS K) ds M Q->ds.length=2:=fun ds M Q h=>by
 unfold cS at h;split at h
 ·rfl
 ·exact h.elim
theorem oR(T:Tx K mg):Cal P w K mg base 1 "_law_alone" (cS K):=by
 refine tS (k:=0) T.f_law_alone eM (fun _ _ _ _ _ _ us hl=>by obtain⟨_,_,rfl⟩:=SD.AG hl;rfl) (mH K) fun f cdv A outer s H E hr=>⟨_,(aj (aA 2 eM.nd (bR (ae (aD (bc (K:=K) rfl) rfl T.b_isinstance aP (ae (dv 0) (ae (eW rfl T.r_Absent) ag))) (ae (aD (bc (K:=K) rfl) rfl T.b_isinstance aP (ae (dv 0) (ae (eW rfl T.r_Crossing) ag))) (ae (aD (bc (K:=K) rfl) rfl T.b_isinstance aP (ae (dv 0) (ae (eW rfl T.r_NoFraction) ag))) ag))))) (aj (aA 2 eM.nd (aw aO (dv 2) (bR (ae (aD (bc (K:=K) rfl) rfl T.b_isinstance aP (ae (dv 0) (ae (eW rfl T.r_NoRow) ag))) (ae (aD (bc (K:=K) rfl) rfl T.b_isinstance aP (ae (dv 0) (ae (eW rfl T.r_NoText) ag))) (ae (aD (bc (K:=K) rfl) rfl T.b_isinstance aP (ae (dv 0) (ae (eW rfl T.r_NoWall) ag))) ag)))))) (aj (fG (dA (dv 2) (ae (aD (bc (K:=K) rfl) rfl T.b_isinstance aP (ae (dv 0) (ae (eW rfl T.r_TooMany) ag))) ag))) (ar (aC (mz (aD (bc (K:=K) rfl) rfl T.b_isinstance aP (ae (dv 0) (ae (zU rfl T.b_ValueError kl) ag))) (mz (gZ (cw hr.units) (qr (dv 2) (ae iA ag)) af) (wK (au (dv 2) (dv 1)))))))))),fun ds M Q h=>?r⟩
 case r=>
  unfold cS at h
  split at h
  case h_2=>exact h.elim
  obtain⟨a,dd,rfl,rfl,hM,q⟩:=h
  have ek:=T.ek_TooMany
  have k1:=T.ki_TooMany_Absent
  have k2:=T.ki_TooMany_Crossing
  have k3:=T.ki_TooMany_NoFraction
  have k4:=T.ki_TooMany_NoRow
  have k5:=T.ki_TooMany_NoText
  have k6:=T.ki_TooMany_NoWall
  have k7:=T.ki_TooMany_TooMany
  have kv:=T.kv_TooMany
  refine⟨_,rfl,.inr ⟨a,_,_,_,_,_,rfl,hM,ek,rfl,k1,?_⟩⟩
  refine⟨_,rfl,.inr ⟨a,_,_,_,_,_,rfl,hM,ek,rfl,k2,?_⟩⟩
  refine⟨_,rfl,.inr ⟨a,_,_,_,_,_,rfl,hM,ek,rfl,k3,?_⟩⟩
  refine⟨nbL rfl,fun l hl=>?_⟩
  have nal:a≠l:=av hM hl
  have hM1:(ax M l (.lst [.bl false,.bl false,.bl false])) a=some (fV (cl K "TooMany") dd):=by rw[ak nal];exact hM
  refine⟨_,rfl,_,rfl,.inr ⟨a,_,_,_,_,_,rfl,hM1,ek,rfl,k4,?_⟩⟩
  refine⟨_,rfl,.inr ⟨a,_,_,_,_,_,rfl,hM1,ek,rfl,k5,?_⟩⟩
  refine⟨_,rfl,.inr ⟨a,_,_,_,_,_,rfl,hM1,ek,rfl,k6,?_⟩⟩
  refine⟨nbL rfl,fun l2 hl2=>?_⟩
  have n12:l≠l2:=fun e=>by subst e;rw[ai]at hl2;cases hl2
  refine⟨_,_,(by rw[ak n12,ai]),ai,nbL rfl,fun l3 hl3=>?_⟩
  have na2:a≠l2:=av hM1 hl2
  have hM1b:(ax (ax M l (.lst [.bl false,.bl false,.bl false])) l2 (.lst [.bl false,.bl false,.bl false])) a=some (fV (cl K "TooMany") dd):=by rw[ak na2];exact hM1
  have na3:a≠l3:=av hM1b hl3
  have hM2:(ax (ax (ax M l (.lst [.bl false,.bl false,.bl false])) l2 (.lst [.bl false,.bl false,.bl false])) l3 (.lst ([.bl false,.bl false,.bl false]++[.bl false,.bl false,.bl false]))) a=some (fV (cl K "TooMany") dd):=by rw[ak na3];exact hM1b
  refine⟨_,rfl,_,_,rfl,ai,?_⟩
  refine⟨_,rfl,.inr ⟨a,_,_,_,_,_,rfl,hM2,ek,rfl,k7,?_⟩⟩
  refine⟨_,_,rfl,ai,nbL rfl,?_⟩
  rw[b5]
  generalize hMM:ax (ax (ax M l (.lst [.bl false,.bl false,.bl false])) l2 (.lst [.bl false,.bl false,.bl false])) l3 _=M5
  have hl5:M5 l3=some (.lst (Gr D.bl [false,false,false,false,false,false,true])):=by rw[<-hMM,ai];rfl
  have hM5:M5 a=some (fV (cl K "TooMany") dd):=by rw[<-hMM,ak na3];exact hM1b
  have hS5:Sub M M5:=by rw[<-hMM];exact .new hl3 (.new hl2 (.new hl .refl))
  (try dsimp only[SD.fS,SD.fm,SD.aQ,SD.jI,SD.iZ,SD.eE,SD.gh,SD.tBD,SD.jl])
  refine xS true true (fun K' hK=>⟨_,rfl,.inr ⟨a,_,_,_,_,_,rfl,hM5,ek,rfl,kv,hK⟩⟩) (fun _ K' hK=>?_) ⟨_,hS5,q⟩
  refine xS true true (fun K' hK=>⟨_,rfl,l3,_,rfl,hl5,_,rfl,hl5,?_⟩) (fun _ K' hK=>⟨_,rfl,_,rfl,_,_,hl5,rfl,hK⟩) hK
  exact hK
theorem b8:FnScope ["_law_shuts","_law_heard","_law_found","e"] ["_law_shuts"] (aq fW):=by walk_at "sc"
def dG(K:E1):SpD:=fun ds M Q=>match ds with
 |[u]=>∃(t b X Y:Int) (a:Addr) (ws:List Wl) (qs:List Pc),u=.ref a/\M a=some (.lst (ws.map (rwl t b X Y)))/\Scl t b X Y/\ws.length<=30/\(∀w∈ws,Bw 30 w)/\Tb M/\Row t b X Y ws qs/\qs.length<=5000/\∀M',Tb M'->cD 316 M M'->Q (j2 qs) M'
 |_=>False
theorem nH(K:E1):∀ds M Q,(dG K) ds M Q->ds.length=1:=fun ds M Q h=>by
 unfold dG at h;split at h
 ·rfl
 ·exact h.elim
theorem jG(T:Tx K mg):Cal P w K mg base 9 "_law_told" (dG K):=by
 refine tS (k:=8) T.f_law_told b8 (fun _ _ _ _ _ _ us hl=>by obtain⟨_,rfl⟩:=SD.xi hl;rfl) (nH K) fun f cdv A outer s H E hr=>⟨_,(aj (aA 1 b8.nd dP) (aj (aA 2 b8.nd dP) (aj (yI 3 b8.nd T.e_SpotError T.r_SpotError T.eb_SpotError (ar (aA 2 b8.nd (ao (vn T).m hr (ae (dv 0) ag)))) (xG (sF ((wu T).mono (by decide)) hr (ae (dv 0) ag)) rfl) (fun _=>(ar (aA 1 b8.nd (dv 3))))) (aj (aS (aG CW (dv 1) dP) (ar (aC (dv 2))) aJ) (aj (aS (iH (fz (dX (aD (bc (K:=K) rfl) rfl T.b_isinstance aP (ae (dv 1) (ae (eW rfl T.r_TooMany) ag)))) (dH (dX (ao (oR T).m hr (ae (dv 1) (ae af ag))))))) (ar (aC (aK (ae gc (ae (xN (dv 1)) ag))))) aJ) (ar (aC (aK (ae gc ag))))))))),fun ds M Q h=>?r⟩
 case r=>
  unfold dG at h
  split at h
  case h_2=>exact h.elim
  obtain⟨t,b,X,Y,a,ws,qs,rfl,ha,S,hn,hB,hT,hR,h5,k⟩:=h
  unfold j2 at k
  (try dsimp only[SD.aQ])
  by_cases h40:40<qs.length
  ·rw[if_pos h40]at k;refine .inr ⟨_,rfl,t,b,X,Y,a,ws,qs,rfl,ha,S,hn,hB,hR,h40,fun M' dx sb hf=>⟨T.es_TooMany_SpotError,fun e he=>?_⟩⟩;have hE:(ax M' e (fV (cl K "TooMany") (some dx))) e=some (fV (cl K "TooMany") (some dx)):=ai;have hF:(ax M' e (fV (cl K "TooMany") (some dx))) dx=some (wq [("count",.int (qs.length:Int))]):=by rw[ak (av hf he)];exact hf
   have sb2:SD.Sub M (ax M' e (fV (cl K "TooMany") (some dx))):=.new he sb;generalize ax M' e (fV (cl K "TooMany") (some dx))=M2 at hE hF sb2 ⊢;refine⟨_,rfl,?_⟩;(try dsimp only[SD.aQ])
   refine⟨_,rfl,_,rfl,_,rfl,dQ rfl ?_⟩;(try dsimp only[SD.fS,SD.fm,SD.aQ,SD.jI,SD.iZ,SD.eE,SD.gh,SD.tBD,SD.jl])
   refine De true true (fun K' hK=>⟨_,rfl,.inr ⟨e,_,_,_,_,_,rfl,hE,T.ek_TooMany,rfl,T.ki_TooMany_TooMany,_,rfl,hK⟩⟩) (fun _ K' hK=>⟨_,rfl,e,_,rfl,rfl,hE,_,rfl,hK⟩) ?_;refine gz rfl ?_;exact⟨_,rfl,e,_,dx,_,_,rfl,hE,hF,⟨T.ek_TooMany.c,T.hd_TooMany,T.fn_TooMany_count⟩,rfl,.int (by omega) (by omega),nbL rfl,rtn (k M2 (hT.sub sb2) sb2.Ew)⟩
  ·rw[if_neg h40]at k;refine .inl ⟨_,rfl,t,b,X,Y,a,ws,qs,rfl,ha,S,hn,hB,hT,hR,by omega,fun M' hT' hs'=>?_⟩;(try dsimp only[SD.aQ])
   refine⟨_,rfl,_,rfl,_,rfl,gz rfl ?_⟩;exact⟨_,rfl,rtn (k M' hT' hs')⟩
theorem dm:FnScope ["_law_script","_law_k","_law_row","_law_scale_here","_law_shuts","_law_due","_law_handed","_law_found"] ["_law_script"] (aq ui):=by walk_at "sc"
inductive Cn_law(x:D)(M:MH)(Q:DK):Prop
 |mk (ns:_) (hh0:x=.rol (Gr D.int ns)) (hh1:ns.length<=63) (hh2:Tb M) (hh3:∀M',Q (.bl true) M'):Cn_law x M Q
def il:SpD:=fun ds M Q=>match ds with
 |[x]=>Cn_law x M Q
 |_=>False
theorem Ba:∀ds M Q,il ds M Q->ds.length=1:=fun ds M Q h=>by
 unfold il at h;split at h
 ·rfl
 ·exact h.elim
theorem Dj{P:EF}{w:EZ}{K:E1}{mg:Str->Option E2}{fa:Addr}(T:Tx K mg)(hfa:mg "law"=some (.ref fa)):∃fd,(∀(s:E3) (u:E2),BindsTo s fd ⟨[u],[]⟩ [("_law_script",u)])/\∀base:Heap,FnOk P w K mg base CX0 10 fa fd ["_law_script"] (fZ K il):=by
 refine DQ (k:=9) (N:=["_law_script","_law_k","_law_row","_law_scale_here","_law_shuts","_law_due","_law_handed","_law_found"]) T.f_law hfa dm (fun _ _ _ _ _ _ us hl=>by obtain⟨_,rfl⟩:=SD.xi hl;rfl) Ba fun base f cdv A outer s H E hr=>⟨_,(aj (rD Fn rfl rfl T.b_range (ae (aD (lV rfl hr.units) rfl T.b_max l0 (ae af (ae (aD (mv rfl hr.units) rfl T.b_min mU (ae af (ae (aD dU rfl T.b_len cC (ae (dv 0) ag)) ag))) ag))) ag) (aE 1 dm.nd) (aj (aA 2 dm.nd (bR (ae (ao (j4 T).m hr (ae (dv 0) (ae (dv 1) ag))) (ae af ag)))) (aj (aA 3 dm.nd (ao (nG T).m hr (ae (dv 2) ag))) (aj (aA 4 dm.nd (ao (sL T).m hr (ae (dv 2) (ae af (ae af ag))))) (aj (aS (aG (cw hr.units) (ao (aH T).m hr (ae (dv 2) (ae af ag))) af) (aj (nM 4 dm.nd (CScope.of (xs:=["_law_at"]) (js:=[]) rfl) rfl (tw rfl T.b_range (ae (aw aO af (ao (aH T).m hr (ae (dv 2) (ae af ag)))) ag)) (fun _ _ _ _=>fK) (fun _ _ _ _=>(aK (ae (aK (ae af (ae (dv 0) ag))) (ae (aK (ae (aw aO af (aw fT (dv 0) af)) (ae (dv 0) ag))) ag))))) (ar (aA 4 dm.nd (aw aO (dv 4) (fy (bR (ae (aK (ae (aK (ae af (ae af ag))) (ae (aK (ae af (ae (aw aO af (ao (aH T).m hr (ae (dv 2) (ae af ag)))) ag))) ag))) ag)) iR (eC (ao (aH T).m hr (ae (dv 2) (ae af ag))))))))) aJ) (aj (aA 5 dm.nd (bP jr rfl T.b_tuple gF (ae (ao (mL T).m hr (ae (ao (lW T).m hr (ae (dv 3) (ae (dv 4) ag))) ag)) ag))) (aj (aS (aG (eV hr.units) (aD dU rfl T.b_len cC (ae (dv 5) ag)) af) (ar (aA 5 dm.nd (aK (ae gc (ae (aD dU rfl T.b_len cC (ae (dv 5) ag)) ag))))) aJ) (aj (aA 6 dm.nd (bP (gu rfl) rfl T.b_list gM (ae (ao (iU T).m hr (ae (dv 3) (ae (dv 4) ag))) ag))) (aj (aA 7 dm.nd (ao (jG T).m hr (ae (dv 6) ag))) (aj (aS (iH (og (Af (dX (aD (bc (K:=K) rfl) rfl T.b_isinstance aP (ae (dv 7) (ae (zU rfl T.b_tuple gF) ag))))) (og (aG (fQ hr.units) (dv 7) (dv 5)) (lP (aG (fQ hr.units) (dv 6) (bP (gu rfl) rfl T.b_list gM (ae (ao (iU T).m hr (ae (dv 3) (ae (dv 4) ag))) ag))))))) (ar (aC iA)) aJ) (ar (aS (aG (fQ hr.units) (ao (jG T).m hr (ae (yr (dv 6) (lK fE af)) ag)) (dv 5)) (ar (aC iA)) aJ)))))))))))) (ar (aC iA))),fun ds M Q h=>?r⟩
 case r=>
  unfold il at h
  split at h
  case h_2=>exact h.elim
  obtain⟨ns,rfl,hl,hT,k⟩:=h
  refine⟨_,rfl,(max 1 (min 2 (((Gr D.int ns).length:Nat):Int))).toNat,?_,by omega,fun i δ M=>∃o1 o2 o3 o4 o5 o6 o7,δ=[some (.rol (Gr D.int ns)),o1,o2,o3,o4,o5,o6,o7]/\Tb M,⟨_,_,_,_,_,_,_,rfl,hT⟩,?_,?_⟩
  ·rw[Int.toNat_of_nonneg (by omega)]
  rotate_left
  ·rintro δ M ⟨o1,o2,o3,o4,o5,o6,o7,rfl,hT⟩;exact rtn (k _)
  rintro i δ M hi ⟨o1,o2,o3,o4,o5,o6,o7,rfl,hT⟩
  refine⟨_,rfl,_,rfl,ns,i,rfl,rfl,by omega,fun z=>⟨nbL rfl,fun row hrow=>?_⟩⟩
  refine⟨_,rfl,row,z,0,rfl,ai,by decide,by decide,fun x1 c1 t b sx sy S h1 h2=>?_⟩
  refine⟨_,rfl,row,x1,c1,8,6,rfl,rfl,by decide,⟨rfl,by decide,by decide⟩,ai,h1,by omega,fun M2 x2 c2 l ws nrl sT hr2 hl2 g0 g1 g2 g3=>?_⟩
  have hTa:Tb (ax (ax M row (.lst [.int z,.int 0])) row (.lst [.int x1,.int c1])):=(hT.new hrow).upd ai
  have hT2:Tb M2:=hTa.but ai sT
  clear hTa sT
  (try dsimp only[SD.aQ])
  refine bV (fun δ M'=>∃(l':Addr) (ws:List Wl),δ=[some (.rol (Gr D.int ns)),some (.int (i:Int)),some (.ref row),some (scl t b sx sy),some (.ref l'),o5,o6,o7]/\Tb M'/\M' l'=some (.lst (ws.map uw))/\ws.length<=30/\(∀w∈ws,Bw 30 w)) ?_ (fun hu=>?_)
  rotate_left
  ·refine⟨_,rfl,row,10,x2,c2,rfl,rfl,hr2,g0,by omega,by decide,cy (by decide),fun x4 v4 h40 h41=>⟨_,rfl,?_⟩⟩;have hl4:(ax M2 row (.lst [.int x4,.int (c2+1)])) l=some (.lst (ws.map uw)):=by rw[ak nrl.symm];exact hl2
   have hr4:(ax M2 row (.lst [.int x4,.int (c2+1)])) row=some (.lst [.int x4,.int (c2+1)]):=ai;have hT4:Tb (ax M2 row (.lst [.int x4,.int (c2+1)])):=hT2.upd hr2;generalize ax M2 row (.lst [.int x4,.int (c2+1)])=M4 at hl4 hr4 hT4 ⊢;refine bL (fun _=>?_) (fun _=>hu _ _ ⟨l,ws,rfl,hT4,hl4,by omega,fun w hw=>(Bt (g3 w hw)).mono (by decide)⟩);refine⟨_,rfl,row,14,x4,c2+1,rfl,rfl,hr4,by omega,by omega,by decide,cy (by decide),fun x5 v5 h50 h51=>?_⟩;have hr5:(ax M4 row (.lst [.int x5,.int (c2+1+1)])) row=some (.lst [.int x5,.int (c2+1+1)]):=ai;have hT5:Tb (ax M4 row (.lst [.int x5,.int (c2+1+1)])):=hT4.upd hr4;generalize ax M4 row (.lst [.int x5,.int (c2+1+1)])=M5 at hr5 hT5 ⊢;refine⟨(10+v5).toNat,?_,by omega,comp_map (fun j=>uw (w11 j)) (by simp;omega) (fun _ _ _=>trivial) ?_ (fun p hp=>?_)⟩
   ·rw[Int.toNat_of_nonneg (by omega)]
   ·intro j e' M6 hj he' _;cases he';exact⟨_,rfl,fun K hK=>⟨_,rfl,nbL rfl,_,rfl,(show(2:Int)≠0 by decide),_,rfl,nbL rfl,nbL rfl,hK _ .refl⟩⟩
   (try dsimp only[SD.aQ])
   have nrp:row≠p:=av hr5 hp;have hr6:(ax M5 p (.lst ((Fl (10+v5).toNat).map fun j=>uw (w11 j)))) row=some (.lst [.int x5,.int (c2+1+1)]):=by rw[ak nrp];exact hr5
   have hp6:(ax M5 p (.lst ((Fl (10+v5).toNat).map fun j=>uw (w11 j)))) p=some (.lst (((Fl (10+v5).toNat).map w11).map uw)):=by rw[ai,GR];rfl
   have hT6:Tb (ax M5 p (.lst ((Fl (10+v5).toNat).map fun j=>uw (w11 j)))):=hT5.new hp;generalize ax M5 p (.lst ((Fl (10+v5).toNat).map fun j=>uw (w11 j)))=M6 at hr6 hp6 hT6 ⊢;refine⟨_,rfl,nbL rfl,_,rfl,row,9,x5,c2+1+1,rfl,rfl,hr6,by omega,by omega,by decide,cy (by decide),fun x7 v7 h70 h71=>⟨nbL rfl,nbL rfl,nbL rfl,fun p2 hp2=>?_⟩⟩;have hr7:(ax M6 row (.lst [.int x7,.int (c2+1+1+1)])) row=some (.lst [.int x7,.int (c2+1+1+1)]):=ai;have hp7:(ax M6 row (.lst [.int x7,.int (c2+1+1+1)])) p=some (.lst (((Fl (10+v5).toNat).map w11).map uw)):=by rw[ak nrp.symm];exact hp6
   have hT7:Tb (ax M6 row (.lst [.int x7,.int (c2+1+1+1)])):=hT6.upd hr6;generalize ax M6 row (.lst [.int x7,.int (c2+1+1+1)])=M7 at hr7 hp7 hT7 hp2 ⊢;have np2:row≠p2:=av hr7 hp2;have hr8:(ax M7 p2 (.lst ([((1,0,1,3+v7):Wl)].map uw))) row=some (.lst [.int x7,.int (c2+1+1+1)]):=by rw[ak np2];exact hr7
   refine⟨_,rfl,row,2,x7,c2+1+1+1,rfl,rfl,hr8,by omega,by omega,by decide,cy (by decide),fun x8 v8 h80 h81=>?_⟩;have hT8:Tb (ax (ax M7 p2 (.lst ([((1,0,1,3+v7):Wl)].map uw))) row (.lst [.int x8,.int (c2+1+1+1+1)])):=(hT7.new hp2).upd hr8;have h28:(ax (ax M7 p2 (.lst ([((1,0,1,3+v7):Wl)].map uw))) row (.lst [.int x8,.int (c2+1+1+1+1)])) p2=some (.lst ([((1,0,1,3+v7):Wl)].map uw)):=by rw[ak np2.symm,ai]
   have hp8:(ax (ax M7 p2 (.lst ([((1,0,1,3+v7):Wl)].map uw))) row (.lst [.int x8,.int (c2+1+1+1+1)])) p=some (.lst (((Fl (10+v5).toNat).map w11).map uw)):=by rw[ak nrp.symm,ak (av hp7 hp2)];exact hp7
   obtain⟨j8,rfl⟩:∃j:Nat,v8=(j:Int):=⟨v8.toNat,by omega⟩;refine⟨_,rfl,_,h28,fun p3 hp3=>?_⟩;rw[Bo _ _ _ (by show j8<=1;omega)];refine⟨_,_,by rw[ak (av hp8 hp3)];exact hp8,ai,?_,fun p4 hp4=>?_⟩
   ·have:1000<=ER:=nbL rfl;rw[E6,E6,E6,FJ,List.length_range];show _+min j8 1<=_;omega
   refine hu _ _ ⟨p4,(Fl (10+v5).toNat).map w11++[((1,0,1,3+v7):Wl)].take j8,rfl,(hT8.new hp3).new hp4,by rw[ai,Fg],?_,fun w hw=>?_⟩
   ·rw[Gh,E6,FJ,List.length_range];show _+min j8 1<=_;omega
   ·rcases EM.mp hw with y|y
    ·obtain⟨j,hj,rfl⟩:=FH.mp y;rw[List.mem_range]at hj;exact AN (by omega)
    ·rw[F1.mp (List.mem_of_mem_take y)];exact⟨by unfold Uok;dsimp only;omega,.inr ⟨rfl,by show(0:Int)<3+v7;omega⟩⟩
  clear hl2 hr2 g0 g1 g2 g3 hT2 nrl l ws
  rintro δ M3 ⟨l,ws,rfl,hT3,hl3,hn,hB⟩
  refine⟨_,rfl,_,rfl,t,b,sx,sy,l,ws,rfl,rfl,hl3,S,hn,hB,fun M5 z5 ps sb5 _ hz5 nd me ln=>?_⟩
  refine⟨z5,ps,rfl,hz5,ln,fun y hy=>qM S hB ((me y).mp hy),fun M6 z6 qs sb6 _ hz6 up6 me6=>⟨_,hz6,?_⟩⟩
  have hR:SD.Row t b sx sy ws qs:=⟨up6,fun y=>(me6 y).trans (me y)⟩
  have sb36:SD.Sub M3 M6:=fun a o e=>sb6 _ _ (sb5 _ _ e)
  have hT6:Tb M6:=hT3.sub sb36
  have hl6:=sb36 _ _ hl3
  have h5k:qs.length<=5000:=by rw[<-hR.len nd me];omega
  clear hz6 me6 up6 sb36 sb6 sb5 hz5 nd me ln hl3 hT3
  (try dsimp only[SD.aQ])
  refine bV (fun δ M'=>M'=M6/\δ=[some (.rol (Gr D.int ns)),some (.int (i:Int)),some (.ref row),some (scl t b sx sy),some (.ref l),some (j2 qs),o6,o7]) ?_ (fun hu=>?_)
  rotate_left
  ·refine⟨_,rfl,trivial,_,rfl,?_⟩;have el:(qs.map pcq).length=qs.length:=E6 ..;refine bL (fun h=>?_) (fun h=>?_)
   ·have h:40<qs.length:=by
     have:=of_decide_eq_true h
     rw[el]at this;omega
    refine⟨_,rfl,nbL rfl,hu _ _ ⟨rfl,?_⟩⟩;unfold j2;rw[if_pos h,el];rfl
   ·have h:¬40<qs.length:=by
     have:=of_decide_eq_false ((Bool.not_eq_true _).mp h)
     rw[el]at this;omega
    refine hu _ _ ⟨rfl,?_⟩;unfold j2;rw[if_neg h];rfl
  rintro δ M' ⟨rfl,rfl⟩
  have hW:∀w∈ws,Uok (10^6) w:=fun w hw=>by
   have:=(hB w hw).u
   unfold Uok at *
   omega
  refine⟨_,rfl,_,rfl,t,b,sx,sy,l,ws,rfl,rfl,hl6,S,by omega,hW,.inl fun p hp=>?_⟩
  have hT7:=hT6.new (o:=.lst (ws.map (rwl t b sx sy))) hp
  have hl7:(ax M' p (.lst (ws.map (rwl t b sx sy)))) l=some (.lst (ws.map uw)):=by rw[ak (av hl6 hp)];exact hl6
  have hp7:(ax M' p (.lst (ws.map (rwl t b sx sy)))) p=some (.lst (ws.map (rwl t b sx sy))):=ai
  generalize ax M' p (.lst (ws.map (rwl t b sx sy)))=M7 at hT7 hl7 hp7 ⊢
  refine⟨_,rfl,t,b,sx,sy,p,ws,qs,rfl,hp7,S,hn,hB,hT7,hR,h5k,fun M8 hT8 sT8=>?_⟩
  have hl8:=sT8 _ _ (hT7.pb hl7) hl7
  have hp8:=sT8 _ _ (hT7.pb hp7) hp7
  obtain⟨xs,ex⟩:=xI qs
  refine⟨_,rfl,.inl ⟨"tuple",true,by rw[ex];rfl,rfl,_,rfl,dQ rfl ?_⟩⟩
  refine⟨_,rfl,_,rfl,wN qs _ _ ⟨_,rfl,dQ rfl ?_⟩⟩
  refine⟨_,rfl,_,rfl,_,rfl,t,b,sx,sy,l,ws,rfl,rfl,hl8,S,by omega,hW,.inl fun p2 hp2=>?_⟩
  have hp9:(ax M8 p2 (.lst (ws.map (rwl t b sx sy)))) p=some (.lst (ws.map (rwl t b sx sy))):=by rw[ak (av hp8 hp2)];exact hp8
  have hT9:=hT8.new (o:=.lst (ws.map (rwl t b sx sy))) hp2
  refine BY t b sx sy ws _ _ _ _ hp9 ai ⟨_,rfl,dQ rfl ?_⟩
  generalize ax M8 p2 (.lst (ws.map (rwl t b sx sy)))=M9 at hp9 hT9 ⊢
  dsimp only[SD.eE]
  refine⟨_,rfl,_,rfl,rfl,p,_,rfl,hp9,fun p3 hp3=>?_⟩
  rw[<-List.map_reverse]
  refine⟨t,b,sx,sy,p3,ws.reverse,qs,rfl,ai,S,by rw[List.length_reverse];exact hn,fun w hw=>hB w (List.mem_reverse.mp hw),hT9.new hp3,hR.perm fun w=>List.mem_reverse.symm,h5k,fun M10 hT10 sT10=>?_⟩
  exact⟨_,rfl,wN qs _ _ ⟨_,rfl,dQ rfl ⟨_,_,_,_,_,_,_,rfl,hT10⟩⟩⟩
theorem A2(ns:List Int)(M:MH)(h:ns.length<=63)(hM:M 316=some (uV #[])):il [.rol (ns.map D.int)] M (fun d _=>d=.bl true):=⟨ns,rfl,h,.inl hM,fun _=>rfl⟩
def kE(P:EG)(n:String)(k:Nat)(v:E2):FA:={ hash:=PyData.keyHash P (F9 n),key:=.str (F9 n) k,val:=v }
def kF(i:Nat)(n m:String)(k c:Nat):Obj:={ cls:=.type "function",data:=.func { name:=F9 n,qualname:=F9 n,params:=aX (top i),body:=.stmts (aL (top i)),scope:=aq (top i),globals:=↑3,closure:=[],defaults:=.none,kwdefaults:=.none,pyModule:=.str (F9 m) k,code:=.ref c } }
def kD0(P:EG):List FA:=[kE P "__name__" ↑165 (.str "law_spotlook_k11_walls_parted" 612),kE P "__doc__" ↑166 (.none),kE P "__package__" ↑167 (.none),kE P "__loader__" ↑168 (.builtin "__main__.__loader__#opaque"),kE P "__spec__" ↑169 (.none),kE P "__annotations__" ↑170 (.ref ↑6),kE P "__builtins__" ↑171 (.ref ↑4),kE P "__file__" ↑173 (.str "/claim/cut.py" 172)]
def kD1(P:EG):List FA:=[kE P "__cached__" ↑174 (.none),kE P "SpotError" ↑206 (.ref ↑24),kE P "NoFraction" ↑222 (.ref ↑37),kE P "NoWall" ↑238 (.ref ↑49),kE P "TooMany" ↑263 (.ref ↑68),kE P "Crossing" ↑290 (.ref ↑87),kE P "Absent" ↑315 (.ref ↑106),kE P "NoText" ↑340 (.ref ↑125)]
def kD2(P:EG):List FA:=[kE P "NoRow" ↑356 (.ref ↑137),kE P "greatest_divisor" ↑366 (.ref ↑146),kE P "fraction" ↑375 (.ref ↑153),kE P "plus" ↑383 (.ref ↑160),kE P "less" ↑391 (.ref ↑167),kE P "times" ↑399 (.ref ↑174),kE P "over" ↑407 (.ref ↑181),kE P "is_less" ↑415 (.ref ↑188)]
def kD3(P:EG):List FA:=[kE P "is_ahead" ↑425 (.ref ↑195),kE P "later_of" ↑433 (.ref ↑202),kE P "earlier_of" ↑441 (.ref ↑209),kE P "place_among" ↑452 (.ref ↑216),kE P "ahead_first" ↑461 (.ref ↑223),kE P "own_spot" ↑470 (.ref ↑230),kE P "own_wall" ↑477 (.ref ↑237),kE P "gap" ↑485 (.ref ↑244)]
def kD4(P:EG):List FA:=[kE P "lean" ↑503 (.ref ↑251),kE P "side_of" ↑512 (.ref ↑258),kE P "lies_on" ↑522 (.ref ↑265),kE P "MOST_WALLS" ↑526 (.int 40 525),kE P "meeting" ↑536 (.ref ↑272),kE P "meeting_in_line" ↑546 (.ref ↑279),kE P "crossing_spot" ↑560 (.ref ↑286),kE P "number_between" ↑569 (.ref ↑293)]
def kD5(P:EG):List FA:=[kE P "corners_of" ↑579 (.ref ↑300),kE P "parted" ↑593 (.ref ↑307),kE P "cuts_of" ↑605 (.ref ↑314),kE P "by_ends" ↑611 (.ref ↑319),kE P "_law_cell_at" ↑621 (.ref ↑326),kE P "_law_take" ↑631 (.ref ↑333),kE P "_law_low" ↑641 (.ref ↑340),kE P "_law_scale" ↑651 (.ref ↑347)]
def kD6(P:EG):List FA:=[kE P "_law_spot" ↑663 (.ref ↑354),kE P "_law_made" ↑669 (.ref ↑359),kE P "_law_cross" ↑677 (.ref ↑366),kE P "_law_meet" ↑692 (.ref ↑373),kE P "_law_spot_at" ↑705 (.ref ↑380),kE P "_law_is_sooner" ↑713 (.ref ↑387),kE P "_law_sorted" ↑723 (.ref ↑394),kE P "_law_pieces" ↑729 (.ref ↑399)]
def kD7(P:EG):List FA:=[kE P "_law_in_row" ↑735 (.ref ↑404),kE P "_law_any" ↑748 (.ref ↑411),kE P "_law_alone" ↑757 (.ref ↑418),kE P "_law_told" ↑767 (.ref ↑425),kE P "law" ↑773 (.ref ↑430)]
def kG(P:EG):Obj:={ cls:=.type "dict",data:=.dict (EE (kD0 P++(kD1 P++(kD2 P++(kD3 P++(kD4 P++(kD5 P++(kD6 P++(kD7 P))))))))) 61 }
def kCo(n:String)(a0:Nat)(a1:Nat)(a2:Nat)(a3:Nat)(a4:Nat)(a8:Nat)(a11:Nat)(a13:Nat)(a14:Nat)(a15:Nat)(a16:Nat)(a17:Nat)(a18:Nat):Obj:={ cls:=.type "code",data:=.fields #[.str (F9 n) a0,.str (F9 n) a1,.str "/claim/cut.py" a2,.int (Hw a3) 0,.int (Hw a4) 0,.int 0 0,.int 0 0,.int 3 0,.ref a8,.bool true,.int 181 0,.ref a11,.none,.ref a13,.ref a14,.ref a15,.int (Hw a16) 0,.int (Hw a17) 0,.str "/claim/cut.py" a18] }
def kM(i j:Nat)(n q m:String)(k c:Nat):Obj:={ cls:=.type "function",data:=.func { name:=F9 n,qualname:=F9 q,params:=aX (SD.rZ (top i) j),body:=.stmts (aL (SD.rZ (top i) j)),scope:=aq (SD.rZ (top i) j),globals:=↑3,closure:=[],defaults:=.none,kwdefaults:=.none,pyModule:=.str (F9 m) k,code:=.ref c } }
def Ex(P:EG):Obj:={ cls:=.type "dict",data:=.dict (EE [kE P "__module__" ↑196 (.str "spotlook.errors" 187),kE P "__firstlineno__" ↑200 (.int 2 199),kE P "__static_attributes__" ↑201 (.ref ↑22),kE P "__weakref__" ↑203 (.ref ↑25),kE P "__doc__" ↑204 (.none)]) 3 }
def DN(P:EG):Obj:={ cls:=.type "dict",data:=.dict (EE [kE P "__module__" ↑214 (.str "spotlook.errors" 187),kE P "__firstlineno__" ↑218 (.int 4 217),kE P "__static_attributes__" ↑219 (.ref ↑35),kE P "__doc__" ↑220 (.none)]) 2 }
def DM(P:EG):Obj:={ cls:=.type "dict",data:=.dict (EE [kE P "__module__" ↑230 (.str "spotlook.errors" 187),kE P "__firstlineno__" ↑234 (.int 6 233),kE P "__static_attributes__" ↑235 (.ref ↑47),kE P "__doc__" ↑236 (.none)]) 2 }
def Ei(P:EG):Obj:={ cls:=.type "dict",data:=.dict (EE [kE P "__module__" ↑246 (.str "spotlook.errors" 187),kE P "__firstlineno__" ↑250 (.int 8 249),kE P "__init__" ↑258 (.ref ↑65),kE P "__static_attributes__" ↑260 (.ref ↑66),kE P "__doc__" ↑261 (.none)]) 2 }
def Er(P:EG):Obj:={ cls:=.type "dict",data:=.dict (EE [kE P "__module__" ↑271 (.str "spotlook.errors" 187),kE P "__firstlineno__" ↑275 (.int 13 274),kE P "__init__" ↑284 (.ref ↑84),kE P "__static_attributes__" ↑287 (.ref ↑85),kE P "__doc__" ↑288 (.none)]) 2 }
def C4(P:EG):Obj:={ cls:=.type "dict",data:=.dict (EE [kE P "__module__" ↑298 (.str "spotlook.errors" 187),kE P "__firstlineno__" ↑302 (.int 19 301),kE P "__init__" ↑310 (.ref ↑103),kE P "__static_attributes__" ↑312 (.ref ↑104),kE P "__doc__" ↑313 (.none)]) 2 }
def C9(P:EG):Obj:={ cls:=.type "dict",data:=.dict (EE [kE P "__module__" ↑323 (.str "spotlook.errors" 187),kE P "__firstlineno__" ↑327 (.int 24 326),kE P "__init__" ↑335 (.ref ↑122),kE P "__static_attributes__" ↑337 (.ref ↑123),kE P "__doc__" ↑338 (.none)]) 2 }
def Dz(P:EG):Obj:={ cls:=.type "dict",data:=.dict (EE [kE P "__module__" ↑348 (.str "spotlook.errors" 187),kE P "__firstlineno__" ↑352 (.int 29 351),kE P "__static_attributes__" ↑353 (.ref ↑135),kE P "__doc__" ↑354 (.none)]) 2 }
def kN(l:List Obj)(i:Nat):Obj:=l.getD i { cls:=.none,data:=.dict #[] }
def zzD(n q:Str)(a b c l k f r:Nat)(t:Bool)(s:Nat)(x y z:E2)(d e:Nat):Obj:={ cls:=.type "code",data:=.fields #[.str n a,.str q b,.str "/claim/cut.py" c,.int l 0,.int k 0,.int 0 0,.int 0 0,.int f 0,.ref r,.bool t,.int 181 0,.ref s,.none,x,y,z,.int d 0,.int l 0,.str "/claim/cut.py" e] }
def zzK(n:Str)(s g a i j:Nat):Obj:={ cls:=.type "type",data:=.cls { name:=n,bases:=[.ref 24],mro:=[.ref s,.ref 24,.type "ValueError",.type "Exception",.type "BaseException",.type "object"],ns:=g,qualname:=n,hasDict:=true,slotNames:=[],subclasses:=[],abstract:=false,collection:=none,hasDel:=false },slots:=#[some (.ref a),none,some (.str n i),some (.str n j),some (.builtin "ValueError.__new__"),some (.bool true)] }
def zzR(n:Str)(s g a i j:Nat):Obj:={ cls:=.type "type",data:=.cls { name:=n,bases:=[.ref ↑24],mro:=[.ref s,.ref ↑24,.type "ValueError",.type "Exception",.type "BaseException",.type "object"],ns:=g,qualname:=n,hasDict:=true,slotNames:=[],subclasses:=[],abstract:=false,collection:=none,hasDel:=false },slots:=#[some (.ref a),none,some (.str n i),some (.str n j),some (.builtin "ValueError.__new__"),some (.bool true)] }
def zzN:E2:=.str "law_spotlook_k11_walls_parted" 612
def zzF(i:Nat)(n:String)(c:Nat):Obj:=kF i n "law_spotlook_k11_walls_parted" ↑612 c
def kL0:List Obj:=[{ cls:=.none,data:=.dict #[] 0 },{ cls:=.type "module",dict:=some ↑0,data:=.plain },{ cls:=.type "type",data:=.cls { name:="SpotError",bases:=[(.type "ValueError")],mro:=[(.ref ↑24),(.type "ValueError"),(.type "Exception"),(.type "BaseException"),(.type "object")],ns:=23,qualname:="SpotError",hasDict:=true,slotNames:=[],subclasses:=[(.ref ↑37),(.ref ↑49),(.ref ↑68),(.ref ↑87),(.ref ↑106),(.ref ↑125),(.ref ↑137)],abstract:=false,collection:=none,hasDel:=false },slots:=#[(some (.ref ↑15)),none,(some (.str "SpotError" 189)),(some (.str "SpotError" 197)),(some (.builtin "ValueError.__new__")),(some (.bool true))] },(zzR "NoFraction" ↑37 36 ↑28 207 215),(zzR "NoWall" ↑49 48 ↑40 223 231),(zzD "__init__" "TooMany.__init__" 251 252 253 10 2 3 59 true 60 (.ref 61) (.ref 62) (.ref 63) 256 257),kM ↑4 ↑0 "__init__" "TooMany.__init__" "spotlook.errors" ↑187 ↑64,(zzR "TooMany" ↑68 67 ↑52 239 247)]
def kL1:List Obj:=[(zzD "__init__" "Crossing.__init__" 276 277 278 15 3 3 78 true 79 (.ref 80) (.ref 81) (.ref 82) 282 283),kM ↑5 ↑0 "__init__" "Crossing.__init__" "spotlook.errors" ↑187 ↑83,(zzR "Crossing" ↑87 86 ↑71 264 272),(zzD "__init__" "Absent.__init__" 303 304 305 21 2 3 97 true 98 (.ref 99) (.ref 100) (.ref 101) 308 309),kM ↑6 ↑0 "__init__" "Absent.__init__" "spotlook.errors" ↑187 ↑102,(zzR "Absent" ↑106 105 ↑90 291 299),(zzD "__init__" "NoText.__init__" 328 329 330 26 2 3 116 true 117 (.ref 118) (.ref 119) (.ref 120) 333 334),kM ↑7 ↑0 "__init__" "NoText.__init__" "spotlook.errors" ↑187 ↑121]
def kL2:List Obj:=[(zzR "NoText" ↑125 124 ↑109 316 324),(zzR "NoRow" ↑137 136 ↑128 341 349),kCo "greatest_divisor" ↑359 ↑360 ↑361 ↑32 ↑2 ↑140 ↑141 ↑142 ↑143 ↑144 ↑364 ↑32 ↑365,kF ↑10 "greatest_divisor" "spotlook.fractions" ↑357 ↑145,kCo "fraction" ↑367 ↑368 ↑369 ↑36 ↑2 ↑147 ↑148 ↑149 ↑150 ↑151 ↑373 ↑36 ↑374,kF ↑11 "fraction" "spotlook.fractions" ↑357 ↑152,kCo "plus" ↑376 ↑377 ↑378 ↑43 ↑2 ↑154 ↑155 ↑156 ↑157 ↑158 ↑381 ↑43 ↑382,kF ↑12 "plus" "spotlook.fractions" ↑357 ↑159]
def kL3:List Obj:=[kCo "less" ↑384 ↑385 ↑386 ↑45 ↑2 ↑161 ↑162 ↑163 ↑164 ↑165 ↑389 ↑45 ↑390,kF ↑13 "less" "spotlook.fractions" ↑357 ↑166,kCo "times" ↑392 ↑393 ↑394 ↑47 ↑2 ↑168 ↑169 ↑170 ↑171 ↑172 ↑397 ↑47 ↑398,kF ↑14 "times" "spotlook.fractions" ↑357 ↑173,kCo "over" ↑400 ↑401 ↑402 ↑49 ↑2 ↑175 ↑176 ↑177 ↑178 ↑179 ↑405 ↑49 ↑406,kF ↑15 "over" "spotlook.fractions" ↑357 ↑180,kCo "is_less" ↑408 ↑409 ↑410 ↑51 ↑2 ↑182 ↑183 ↑184 ↑185 ↑186 ↑413 ↑51 ↑414,kF ↑16 "is_less" "spotlook.fractions" ↑357 ↑187]
def kL4:List Obj:=[kCo "is_ahead" ↑418 ↑419 ↑420 ↑54 ↑2 ↑189 ↑190 ↑191 ↑192 ↑193 ↑423 ↑54 ↑424,kF ↑18 "is_ahead" "spotlook.spots" ↑416 ↑194,kCo "later_of" ↑426 ↑427 ↑428 ↑58 ↑2 ↑196 ↑197 ↑198 ↑199 ↑200 ↑431 ↑58 ↑432,kF ↑19 "later_of" "spotlook.spots" ↑416 ↑201,kCo "earlier_of" ↑434 ↑435 ↑436 ↑60 ↑2 ↑203 ↑204 ↑205 ↑206 ↑207 ↑439 ↑60 ↑440,kF ↑20 "earlier_of" "spotlook.spots" ↑416 ↑208,kCo "place_among" ↑442 ↑443 ↑444 ↑62 ↑2 ↑210 ↑211 ↑212 ↑213 ↑214 ↑450 ↑62 ↑451,kF ↑21 "place_among" "spotlook.spots" ↑416 ↑215]
def kL5:List Obj:=[kCo "ahead_first" ↑453 ↑454 ↑455 ↑71 ↑1 ↑217 ↑218 ↑219 ↑220 ↑221 ↑459 ↑71 ↑460,kF ↑22 "ahead_first" "spotlook.spots" ↑416 ↑222,kCo "own_spot" ↑462 ↑463 ↑464 ↑76 ↑1 ↑224 ↑225 ↑226 ↑227 ↑228 ↑468 ↑76 ↑469,kF ↑23 "own_spot" "spotlook.spots" ↑416 ↑229,kCo "own_wall" ↑471 ↑472 ↑473 ↑79 ↑1 ↑231 ↑232 ↑233 ↑234 ↑235 ↑475 ↑79 ↑476,kF ↑24 "own_wall" "spotlook.spots" ↑416 ↑236,kCo "gap" ↑478 ↑479 ↑480 ↑81 ↑2 ↑238 ↑239 ↑240 ↑241 ↑242 ↑483 ↑81 ↑484,kF ↑25 "gap" "spotlook.spots" ↑416 ↑243]
def kL6:List Obj:=[kCo "lean" ↑486 ↑487 ↑488 ↑83 ↑2 ↑245 ↑246 ↑247 ↑248 ↑249 ↑501 ↑83 ↑502,kF ↑26 "lean" "spotlook.spots" ↑416 ↑250,kCo "side_of" ↑504 ↑505 ↑506 ↑89 ↑2 ↑252 ↑253 ↑254 ↑255 ↑256 ↑510 ↑89 ↑511,kF ↑27 "side_of" "spotlook.spots" ↑416 ↑257,kCo "lies_on" ↑513 ↑514 ↑515 ↑96 ↑2 ↑259 ↑260 ↑261 ↑262 ↑263 ↑520 ↑96 ↑521,kF ↑28 "lies_on" "spotlook.spots" ↑416 ↑264,kCo "meeting" ↑527 ↑528 ↑529 ↑101 ↑2 ↑266 ↑267 ↑268 ↑269 ↑270 ↑534 ↑101 ↑535,kF ↑31 "meeting" "spotlook.plots" ↑523 ↑271]
def kL7:List Obj:=[kCo "meeting_in_line" ↑537 ↑538 ↑539 ↑108 ↑2 ↑273 ↑274 ↑275 ↑276 ↑277 ↑544 ↑108 ↑545,kF ↑32 "meeting_in_line" "spotlook.plots" ↑523 ↑278,kCo "crossing_spot" ↑547 ↑548 ↑549 ↑116 ↑2 ↑280 ↑281 ↑282 ↑283 ↑284 ↑558 ↑116 ↑559,kF ↑33 "crossing_spot" "spotlook.plots" ↑523 ↑285,kCo "number_between" ↑561 ↑562 ↑563 ↑123 ↑3 ↑287 ↑288 ↑289 ↑290 ↑291 ↑567 ↑123 ↑568,kF ↑34 "number_between" "spotlook.plots" ↑523 ↑292,kCo "corners_of" ↑570 ↑571 ↑572 ↑125 ↑1 ↑294 ↑295 ↑296 ↑297 ↑298 ↑577 ↑125 ↑578,kF ↑35 "corners_of" "spotlook.plots" ↑523 ↑299]
def kL8:List Obj:=[kCo "parted" ↑582 ↑583 ↑584 ↑132 ↑1 ↑301 ↑302 ↑303 ↑304 ↑305 ↑591 ↑132 ↑592,kF ↑37 "parted" "spotlook.parting" ↑580 ↑306,kCo "cuts_of" ↑594 ↑595 ↑596 ↑141 ↑2 ↑308 ↑309 ↑310 ↑311 ↑312 ↑603 ↑141 ↑604,kF ↑38 "cuts_of" "spotlook.parting" ↑580 ↑313,(zzD "by_ends" "by_ends" 606 607 608 151 1 3 315 true 316 .none .none (.ref 317) 609 610),kF ↑39 "by_ends" "spotlook.parting" ↑580 ↑318,kCo "_law_cell_at" ↑614 ↑615 ↑616 ↑155 ↑2 ↑320 ↑321 ↑322 ↑323 ↑324 ↑619 ↑155 ↑620,zzF ↑41 "_law_cell_at" ↑325]
def kL9:List Obj:=[kCo "_law_take" ↑622 ↑623 ↑624 ↑159 ↑2 ↑327 ↑328 ↑329 ↑330 ↑331 ↑629 ↑159 ↑630,zzF ↑42 "_law_take" ↑332,kCo "_law_low" ↑632 ↑633 ↑634 ↑168 ↑2 ↑334 ↑335 ↑336 ↑337 ↑338 ↑639 ↑168 ↑640,zzF ↑43 "_law_low" ↑339,kCo "_law_scale" ↑642 ↑643 ↑644 ↑176 ↑1 ↑341 ↑342 ↑343 ↑344 ↑345 ↑649 ↑176 ↑650,zzF ↑44 "_law_scale" ↑346,kCo "_law_spot" ↑652 ↑653 ↑654 ↑182 ↑2 ↑348 ↑349 ↑350 ↑351 ↑352 ↑661 ↑182 ↑662,zzF ↑45 "_law_spot" ↑353]
def kL10:List Obj:=[(zzD "_law_made" "_law_made" 664 665 666 185 2 3 355 true 356 .none .none (.ref 357) 667 668),zzF ↑46 "_law_made" ↑358,kCo "_law_cross" ↑670 ↑671 ↑672 ↑187 ↑2 ↑360 ↑361 ↑362 ↑363 ↑364 ↑675 ↑187 ↑676,zzF ↑47 "_law_cross" ↑365,kCo "_law_meet" ↑678 ↑679 ↑680 ↑189 ↑2 ↑367 ↑368 ↑369 ↑370 ↑371 ↑690 ↑189 ↑691,zzF ↑48 "_law_meet" ↑372,kCo "_law_spot_at" ↑693 ↑694 ↑695 ↑207 ↑2 ↑374 ↑375 ↑376 ↑377 ↑378 ↑703 ↑207 ↑704,zzF ↑49 "_law_spot_at" ↑379]
def kL11:List Obj:=[kCo "_law_is_sooner" ↑706 ↑707 ↑708 ↑211 ↑2 ↑381 ↑382 ↑383 ↑384 ↑385 ↑711 ↑211 ↑712,zzF ↑50 "_law_is_sooner" ↑386,kCo "_law_sorted" ↑714 ↑715 ↑716 ↑215 ↑1 ↑388 ↑389 ↑390 ↑391 ↑392 ↑721 ↑215 ↑722,zzF ↑51 "_law_sorted" ↑393,(zzD "_law_pieces" "_law_pieces" 724 725 726 224 2 3 395 true 396 .none .none (.ref 397) 727 728),zzF ↑52 "_law_pieces" ↑398,(zzD "_law_in_row" "_law_in_row" 730 731 732 237 1 3 400 true 401 .none .none (.ref 402) 733 734),zzF ↑53 "_law_in_row" ↑403]
def kL12:List Obj:=[kCo "_law_any" ↑736 ↑737 ↑738 ↑242 ↑3 ↑405 ↑406 ↑407 ↑408 ↑409 ↑746 ↑242 ↑747,zzF ↑54 "_law_any" ↑410,kCo "_law_alone" ↑749 ↑750 ↑751 ↑255 ↑2 ↑412 ↑413 ↑414 ↑415 ↑416 ↑755 ↑255 ↑756,zzF ↑55 "_law_alone" ↑417,kCo "_law_told" ↑758 ↑759 ↑760 ↑260 ↑1 ↑419 ↑420 ↑421 ↑422 ↑423 ↑765 ↑260 ↑766,zzF ↑56 "_law_told" ↑424,(zzD "law" "law" 768 769 770 272 1 3 426 true 427 .none .none (.ref 428) 771 772),zzF ↑57 "law" ↑429]
def kK:EG->E1:=fun P=>(↑2,kN kL0 ↑0)::(↑3,kG P)::(↑4,kN kL0 ↑1)::(↑23,Ex P)::(↑24,kN kL0 ↑2)::(↑36,DN P)::(↑37,kN kL0 ↑3)::(↑48,DM P)::(↑49,kN kL0 ↑4)::(↑64,kN kL0 ↑5)::(↑65,kN kL0 ↑6)::(↑67,Ei P)::(↑68,kN kL0 ↑7)::(↑83,kN kL1 ↑0)::(↑84,kN kL1 ↑1)::(↑86,Er P)::(↑87,kN kL1 ↑2)::(↑102,kN kL1 ↑3)::(↑103,kN kL1 ↑4)::(↑105,C4 P)::(↑106,kN kL1 ↑5)::(↑121,kN kL1 ↑6)::(↑122,kN kL1 ↑7)::(↑124,C9 P)::(↑125,kN kL2 ↑0)::(↑136,Dz P)::(↑137,kN kL2 ↑1)::(↑145,kN kL2 ↑2)::(↑146,kN kL2 ↑3)::(↑152,kN kL2 ↑4)::(↑153,kN kL2 ↑5)::(↑159,kN kL2 ↑6)::(↑160,kN kL2 ↑7)::(↑166,kN kL3 ↑0)::(↑167,kN kL3 ↑1)::(↑173,kN kL3 ↑2)::(↑174,kN kL3 ↑3)::(↑180,kN kL3 ↑4)::(↑181,kN kL3 ↑5)::(↑187,kN kL3 ↑6)::(↑188,kN kL3 ↑7)::(↑194,kN kL4 ↑0)::(↑195,kN kL4 ↑1)::(↑201,kN kL4 ↑2)::(↑202,kN kL4 ↑3)::(↑208,kN kL4 ↑4)::(↑209,kN kL4 ↑5)::(↑215,kN kL4 ↑6)::(↑216,kN kL4 ↑7)::(↑222,kN kL5 ↑0)::(↑223,kN kL5 ↑1)::(↑229,kN kL5 ↑2)::(↑230,kN kL5 ↑3)::(↑236,kN kL5 ↑4)::(↑237,kN kL5 ↑5)::(↑243,kN kL5 ↑6)::(↑244,kN kL5 ↑7)::(↑250,kN kL6 ↑0)::(↑251,kN kL6 ↑1)::(↑257,kN kL6 ↑2)::(↑258,kN kL6 ↑3)::(↑264,kN kL6 ↑4)::(↑265,kN kL6 ↑5)::(↑271,kN kL6 ↑6)::(↑272,kN kL6 ↑7)::(↑278,kN kL7 ↑0)::(↑279,kN kL7 ↑1)::(↑285,kN kL7 ↑2)::(↑286,kN kL7 ↑3)::(↑292,kN kL7 ↑4)::(↑293,kN kL7 ↑5)::(↑299,kN kL7 ↑6)::(↑300,kN kL7 ↑7)::(↑306,kN kL8 ↑0)::(↑307,kN kL8 ↑1)::(↑313,kN kL8 ↑2)::(↑314,kN kL8 ↑3)::(↑318,kN kL8 ↑4)::(↑319,kN kL8 ↑5)::(↑325,kN kL8 ↑6)::(↑326,kN kL8 ↑7)::(↑332,kN kL9 ↑0)::(↑333,kN kL9 ↑1)::(↑339,kN kL9 ↑2)::(↑340,kN kL9 ↑3)::(↑346,kN kL9 ↑4)::(↑347,kN kL9 ↑5)::(↑353,kN kL9 ↑6)::(↑354,kN kL9 ↑7)::(↑358,kN kL10 ↑0)::(↑359,kN kL10 ↑1)::(↑365,kN kL10 ↑2)::(↑366,kN kL10 ↑3)::(↑372,kN kL10 ↑4)::(↑373,kN kL10 ↑5)::(↑379,kN kL10 ↑6)::(↑380,kN kL10 ↑7)::(↑386,kN kL11 ↑0)::(↑387,kN kL11 ↑1)::(↑393,kN kL11 ↑2)::(↑394,kN kL11 ↑3)::(↑398,kN kL11 ↑4)::(↑399,kN kL11 ↑5)::(↑403,kN kL11 ↑6)::(↑404,kN kL11 ↑7)::(↑410,kN kL12 ↑0)::(↑411,kN kL12 ↑1)::(↑417,kN kL12 ↑2)::(↑418,kN kL12 ↑3)::(↑424,kN kL12 ↑4)::(↑425,kN kL12 ↑5)::(↑429,kN kL12 ↑6)::(↑430,kN kL12 ↑7)::[]
end QQ
namespace QQ
open PySem L2
inductive Tg{A:Type}(a:A):Type where|mk:Tg a
noncomputable def pk{A:Type}{a:A}(_:Tg a):A:=a
noncomputable def hE(P:EG)(n:Str)(k:Nat)(v:E2):FA:={ hash:=PyData.keyHash P n,key:=.str n k,val:=v }
noncomputable def zzM(k:Nat)(l:List FA):Obj:={ cls:=.type "dict",data:=.dict (EE l) k }
noncomputable def zzE:E2:=.str "spotlook.errors" 187
noncomputable def kU(s:Stmt)(n q:Str)(g:Nat)(m c:E2):Hl:={ name:=n,qualname:=q,params:=aX s,body:=.stmts (aL s),scope:=aq s,globals:=g,closure:=[],defaults:=.none,kwdefaults:=.none,pyModule:=m,code:=c }
noncomputable def kC(s:Stmt)(i:Nat):Stmt:=match s with
 |.ClassDef (body:=b) ..=>b.getD i (.Pass ⟨0,0,0,0⟩)
 |s=>s
noncomputable def kTu(l:List E2):Obj:={ cls:=.type "tuple",data:=.seq l.toArray 0 }
noncomputable def kFd(l:List E2):Obj:={ cls:=.none,data:=.fields l.toArray }
local macro_rules | `(tactic| walk_at "st") => `(tactic| (intro t; (conv at t => (arg 1; whnf)); exact pk (.mk : type_of% t)))
local macro_rules | `(⇑$n:num) => `((by refine' (?_ : Tg (top $n) → Stmt) .mk; walk_at "st" : Stmt))
noncomputable def st0:Stmt:=⇑0
noncomputable def st1:Stmt:=⇑1
noncomputable def st2:Stmt:=⇑2
noncomputable def st3:Stmt:=⇑3
noncomputable def st4:Stmt:=⇑4
noncomputable def st5:Stmt:=⇑5
noncomputable def st6:Stmt:=⇑6
noncomputable def st7:Stmt:=⇑7
noncomputable def st8:Stmt:=⇑8
noncomputable def st9:Stmt:=⇑9
noncomputable def st10:Stmt:=⇑10
noncomputable def st11:Stmt:=⇑11
noncomputable def st12:Stmt:=⇑12
noncomputable def st13:Stmt:=⇑13
noncomputable def st14:Stmt:=⇑14
noncomputable def st15:Stmt:=⇑15
noncomputable def st16:Stmt:=⇑16
noncomputable def st17:Stmt:=⇑17
noncomputable def st18:Stmt:=⇑18
noncomputable def st19:Stmt:=⇑19
noncomputable def st20:Stmt:=⇑20
noncomputable def st21:Stmt:=⇑21
noncomputable def st22:Stmt:=⇑22
noncomputable def st23:Stmt:=⇑23
noncomputable def st24:Stmt:=⇑24
noncomputable def st25:Stmt:=⇑25
noncomputable def st26:Stmt:=⇑26
noncomputable def st27:Stmt:=⇑27
noncomputable def st28:Stmt:=⇑28
noncomputable def st29:Stmt:=⇑29
noncomputable def st30:Stmt:=⇑30
noncomputable def st31:Stmt:=⇑31
noncomputable def st32:Stmt:=⇑32
noncomputable def st33:Stmt:=⇑33
noncomputable def st34:Stmt:=⇑34
noncomputable def st35:Stmt:=⇑35
noncomputable def st36:Stmt:=⇑36
noncomputable def st37:Stmt:=⇑37
noncomputable def st38:Stmt:=⇑38
noncomputable def st39:Stmt:=⇑39
noncomputable def st40:Stmt:=⇑40
noncomputable def st41:Stmt:=⇑41
noncomputable def st42:Stmt:=⇑42
noncomputable def st43:Stmt:=⇑43
noncomputable def st44:Stmt:=⇑44
noncomputable def st45:Stmt:=⇑45
noncomputable def st46:Stmt:=⇑46
noncomputable def st47:Stmt:=⇑47
noncomputable def st48:Stmt:=⇑48
noncomputable def st49:Stmt:=⇑49
noncomputable def st50:Stmt:=⇑50
noncomputable def st51:Stmt:=⇑51
noncomputable def st52:Stmt:=⇑52
noncomputable def st53:Stmt:=⇑53
noncomputable def st54:Stmt:=⇑54
noncomputable def st55:Stmt:=⇑55
noncomputable def st56:Stmt:=⇑56
noncomputable def st57:Stmt:=⇑57
noncomputable def scp:Gz:=by refine'(?_:Tg (Fe.main.scope)->Gz) .mk;walk_at "st"
noncomputable def fil:Str:=by refine'(?_:Tg (Fe.main.file)->Str) .mk;walk_at "st"
noncomputable def giv:Given:=by refine'(?_:Tg (Fe.given)->Given) .mk;walk_at "st"
noncomputable def pw2:EF:={ main:={ body:=[st0,st1,st2,st3,st4,st5,st6,st7,st8,st9,st10,st11,st12,st13,st14,st15,st16,st17,st18,st19,st20,st21,st22,st23,st24,st25,st26,st27,st28,st29,st30,st31,st32,st33,st34,st35,st36,st37,st38,st39,st40,st41,st42,st43,st44,st45,st46,st47,st48,st49,st50,st51,st52,st53,st54,st55,st56,st57],scope:=scp,futureAnnotations:=false,file:=fil,more:=[] },modules:=[],parses:=[],absent:=[],harvested:=[],given:=giv }
noncomputable def vw:EF:={ pw2 with main:={ pw2.main with body:=[st1,st2,st3,st4,st5,st6,st7,st8,st10,st11,st12,st13,st14,st15,st16,st18,st19,st20,st21,st22,st23,st24,st25,st26,st27,st28,st30,st31,st32,st33,st34,st35,st37,st38,st39,st41,st42,st43,st44,st45,st46,st47,st48,st49,st50,st51,st52,st53,st54,st55,st56,st57] } }
noncomputable def sx0:List Stmt:=[st0,st1]
noncomputable def sx1:List Stmt:=[st2]
noncomputable def sx2:List Stmt:=[st3]
noncomputable def sx3:List Stmt:=[st4]
noncomputable def sx4:List Stmt:=[st5]
noncomputable def sx5:List Stmt:=[st6]
noncomputable def sx6:List Stmt:=[st7]
noncomputable def sx7:List Stmt:=[st8,st9,st10,st11,st12,st13,st14]
noncomputable def sx8:List Stmt:=[st15,st16,st17,st18,st19,st20,st21,st22,st23,st24,st25,st26,st27]
noncomputable def sx9:List Stmt:=[st28,st29,st30,st31,st32,st33,st34,st35,st36,st37,st38,st39,st40,st41,st42]
noncomputable def sx10:List Stmt:=[st43,st44,st45,st46,st47,st48,st49,st50,st51,st52,st53,st54]
noncomputable def sx11:List Stmt:=[st55,st56,st57]
noncomputable def en3_0(P:EG):List FA:=[hE P "__doc__" 166 .none,hE P "__package__" 167 .none,hE P "__loader__" 168 (.builtin "__main__.__loader__#opaque"),hE P "__spec__" 169 .none,hE P "__annotations__" 170 (.ref 6),hE P "__builtins__" 171 (.ref 4),hE P "__file__" 173 (.str "/claim/cut.py" 172),hE P "__cached__" 174 .none]
noncomputable def en3_1(P:EG):List FA:=[hE P "SpotError" 206 (.ref 24),hE P "NoFraction" 222 (.ref 37),hE P "NoWall" 238 (.ref 49),hE P "TooMany" 263 (.ref 68),hE P "Crossing" 290 (.ref 87),hE P "Absent" 315 (.ref 106),hE P "NoText" 340 (.ref 125),hE P "NoRow" 356 (.ref 137)]
noncomputable def en3_2(P:EG):List FA:=[hE P "greatest_divisor" 366 (.ref 146),hE P "fraction" 375 (.ref 153),hE P "plus" 383 (.ref 160),hE P "less" 391 (.ref 167),hE P "times" 399 (.ref 174),hE P "over" 407 (.ref 181),hE P "is_less" 415 (.ref 188),hE P "is_ahead" 425 (.ref 195)]
noncomputable def en3_3(P:EG):List FA:=[hE P "later_of" 433 (.ref 202),hE P "earlier_of" 441 (.ref 209),hE P "place_among" 452 (.ref 216),hE P "ahead_first" 461 (.ref 223),hE P "own_spot" 470 (.ref 230),hE P "own_wall" 477 (.ref 237),hE P "gap" 485 (.ref 244),hE P "lean" 503 (.ref 251)]
noncomputable def en3_4(P:EG):List FA:=[hE P "side_of" 512 (.ref 258),hE P "lies_on" 522 (.ref 265),hE P "MOST_WALLS" 526 (.int 40 525),hE P "meeting" 536 (.ref 272),hE P "meeting_in_line" 546 (.ref 279),hE P "crossing_spot" 560 (.ref 286),hE P "number_between" 569 (.ref 293),hE P "corners_of" 579 (.ref 300)]
noncomputable def en3_5(P:EG):List FA:=[hE P "parted" 593 (.ref 307),hE P "cuts_of" 605 (.ref 314),hE P "by_ends" 611 (.ref 319),hE P "_law_cell_at" 621 (.ref 326),hE P "_law_take" 631 (.ref 333),hE P "_law_low" 641 (.ref 340),hE P "_law_scale" 651 (.ref 347),hE P "_law_spot" 663 (.ref 354)]
noncomputable def en3_6(P:EG):List FA:=[hE P "_law_made" 669 (.ref 359),hE P "_law_cross" 677 (.ref 366),hE P "_law_meet" 692 (.ref 373),hE P "_law_spot_at" 705 (.ref 380),hE P "_law_is_sooner" 713 (.ref 387),hE P "_law_sorted" 723 (.ref 394),hE P "_law_pieces" 729 (.ref 399),hE P "_law_in_row" 735 (.ref 404)]
noncomputable def en3_7(P:EG):List FA:=[hE P "_law_any" 748 (.ref 411),hE P "_law_alone" 757 (.ref 418),hE P "_law_told" 767 (.ref 425),hE P "law" 773 (.ref 430)]
noncomputable def en3(P:EG):List FA:=en3_0 P++(en3_1 P++(en3_2 P++(en3_3 P++(en3_4 P++(en3_5 P++(en3_6 P++(en3_7 P)))))))
noncomputable def fl12:List E2:=[(.int 2 0),(.int 0 0),(.ref 20),(.int 4 0),(.int 0 0),(.ref 33),(.int 6 0),(.int 0 0),(.ref 45),(.int 8 0),(.int 0 0),(.ref 57),(.int 13 0),(.int 0 0),(.ref 76),(.int 19 0),(.int 0 0),(.ref 95),(.int 24 0),(.int 0 0),(.ref 114),(.int 29 0),(.int 0 0),(.ref 133),(.int 32 0),(.int 0 0),(.ref 145),(.int 36 0),(.int 0 0),(.ref 152),(.int 43 0),(.int 0 0),(.ref 159),(.int 45 0),(.int 0 0),(.ref 166),(.int 47 0),(.int 0 0),(.ref 173),(.int 49 0),(.int 0 0),(.ref 180),(.int 51 0),(.int 0 0),(.ref 187),(.int 54 0),(.int 0 0),(.ref 194),(.int 58 0),(.int 0 0),(.ref 201),(.int 60 0),(.int 0 0),(.ref 208),(.int 62 0),(.int 0 0),(.ref 215),(.int 71 0),(.int 0 0),(.ref 222),(.int 76 0),(.int 0 0),(.ref 229),(.int 79 0),(.int 0 0),(.ref 236),(.int 81 0),(.int 0 0),(.ref 243),(.int 83 0),(.int 0 0),(.ref 250),(.int 89 0),(.int 0 0),(.ref 257),(.int 96 0),(.int 0 0),(.ref 264),(.int 101 0),(.int 0 0),(.ref 271),(.int 108 0),(.int 0 0),(.ref 278),(.int 116 0),(.int 0 0),(.ref 285),(.int 123 0),(.int 0 0),(.ref 292),(.int 125 0),(.int 0 0),(.ref 299),(.int 132 0),(.int 0 0),(.ref 306),(.int 141 0),(.int 0 0),(.ref 313),(.int 151 0),(.int 0 0),(.ref 318),(.int 155 0),(.int 0 0),(.ref 325),(.int 159 0),(.int 0 0),(.ref 332),(.int 168 0),(.int 0 0),(.ref 339),(.int 176 0),(.int 0 0),(.ref 346),(.int 182 0),(.int 0 0),(.ref 353),(.int 185 0),(.int 0 0),(.ref 358),(.int 187 0),(.int 0 0),(.ref 365),(.int 189 0),(.int 0 0),(.ref 372),(.int 207 0),(.int 0 0),(.ref 379),(.int 211 0),(.int 0 0),(.ref 386),(.int 215 0),(.int 0 0),(.ref 393),(.int 224 0),(.int 0 0),(.ref 398),(.int 237 0),(.int 0 0),(.ref 403),(.int 242 0),(.int 0 0),(.ref 410),(.int 255 0),(.int 0 0),(.ref 417),(.int 260 0),(.int 0 0),(.ref 424),(.int 272 0),(.int 0 0),(.ref 429)]
noncomputable def hC(n:Str)(s0 s1 s2 s18 r8 r11 r13 r14 r15 i3 i4 i5 i6 i7 i10 i16 i17:Nat)(b9:Bool):Obj:={ cls:=.type "code",data:=.fields #[.str n s0,.str n s1,.str "/claim/cut.py" s2,.int (Hw i3) 0,.int (Hw i4) 0,.int (Hw i5) 0,.int (Hw i6) 0,.int (Hw i7) 0,.ref r8,.bool b9,.int (Hw i10) 0,.ref r11,.none,.ref r13,.ref r14,.ref r15,.int (Hw i16) 0,.int (Hw i17) 0,.str "/claim/cut.py" s18] }
noncomputable def hF(t:E2)(s:Stmt)(n:Str)(g:Nat)(m c:E2):Obj:={ cls:=t,data:=.func (kU s n n g m c) }
noncomputable def zzH(s:Stmt)(n:Str)(m:E2)(r:Nat):Obj:=hF (.type "function") s n 3 m (.ref r)
noncomputable def ob11:Obj:=kTu []
noncomputable def ob12:Obj:={ cls:=.none,data:=.fields (EE (fl12.take 0)) }
noncomputable def ob13:Obj:=zzD "<module>" "<module>" 182 183 184 1 0 0 11 false 12 .none .none .none 185 186
noncomputable def ob14:Obj:={ cls:=(.type "frame"),slots:=#[(some (.ref 13)),(some (.ref 3)),(some (.ref 3)),none,(some (.str "__main__" 164)),none,(some (.ref 0))] }
noncomputable def ob15(P:EG):Obj:=zzM 10 (hE P "__name__" 165 zzE::(en3 P).take 9)
noncomputable def ob16:Obj:={ cls:=.none,data:=.fields (EE (fl12.take 3)) }
noncomputable def ob17:Obj:=kTu [(.type "ValueError")]
noncomputable def ob18:Obj:={ cls:=(.type "builtin_function_or_method"),data:=(.fields #[(.builtin "type.__prepare__"),(.type "type")]) }
noncomputable def ob19(P:EG):Obj:=zzM 4 [hE P "__module__" 196 zzE,hE P "__qualname__" 198 (.str "SpotError" 197),hE P "__firstlineno__" 200 (.int 2 199),hE P "__static_attributes__" 201 (.ref 22)]
noncomputable def ob20:Obj:=zzD "SpotError" "SpotError" 191 192 193 2 0 0 18 false 19 .none .none .none 194 195
noncomputable def ob21:Obj:={ cls:=(.type "frame"),slots:=#[(some (.ref 20)),(some (.ref 3)),(some (.ref 17)),none,(some zzE),none,(some (.ref 0))] }
noncomputable def ob22(P:EG):Obj:=zzM 3 [hE P "__module__" 196 zzE,hE P "__firstlineno__" 200 (.int 2 199),hE P "__static_attributes__" 201 (.ref 22),hE P "__weakref__" 203 (.ref 25),hE P "__doc__" 204 .none]
noncomputable def ob23:Obj:={ cls:=(.type "type"),data:=(.cls { name:="SpotError",bases:=[(.type "ValueError")],mro:=[(.ref 24),(.type "ValueError"),(.type "Exception"),(.type "BaseException"),(.type "object")],ns:=23,qualname:="SpotError",hasDict:=true,slotNames:=[],subclasses:=[],abstract:=false,collection:=none,hasDel:=false }),slots:=#[(some (.ref 15)),none,(some (.str "SpotError" 189)),(some (.str "SpotError" 197)),(some (.builtin "ValueError.__new__")),(some (.bool true))] }
noncomputable def ob24:Obj:={ cls:=(.type "getset_descriptor"),data:=(.fields #[(.str "__weakref__" 202),(.ref 24),(.builtin "ExceptionGroup.__weakref__"),.none]) }
noncomputable def ob25:Obj:={ cls:=(.type "super"),data:=(.fields #[(.ref 24),(.ref 24),(.ref 24)]) }
noncomputable def ob26:Obj:={ cls:=(.type "builtin_function_or_method"),data:=(.fields #[(.builtin "object.__init_subclass__"),(.ref 24)]) }
noncomputable def ob27(P:EG):Obj:=zzM 11 (hE P "__name__" 165 zzE::(en3 P).take 10)
noncomputable def ob28:Obj:={ cls:=.none,data:=.fields (EE (fl12.take 6)) }
noncomputable def ob29:Obj:={ cls:=(.type "type"),data:=(.cls { name:="SpotError",bases:=[(.type "ValueError")],mro:=[(.ref 24),(.type "ValueError"),(.type "Exception"),(.type "BaseException"),(.type "object")],ns:=23,qualname:="SpotError",hasDict:=true,slotNames:=[],subclasses:=[(.ref 37)],abstract:=false,collection:=none,hasDel:=false }),slots:=#[(some (.ref 15)),none,(some (.str "SpotError" 189)),(some (.str "SpotError" 197)),(some (.builtin "ValueError.__new__")),(some (.bool true))] }
noncomputable def ob30:Obj:=kTu [(.ref 24)]
noncomputable def ob31(P:EG):Obj:=zzM 4 [hE P "__module__" 214 zzE,hE P "__qualname__" 216 (.str "NoFraction" 215),hE P "__firstlineno__" 218 (.int 4 217),hE P "__static_attributes__" 219 (.ref 35)]
noncomputable def ob32:Obj:=zzD "NoFraction" "NoFraction" 209 210 211 4 0 0 31 false 32 .none .none .none 212 213
noncomputable def ob33:Obj:={ cls:=(.type "frame"),slots:=#[(some (.ref 33)),(some (.ref 3)),(some (.ref 30)),none,(some zzE),none,(some (.ref 0))] }
noncomputable def ob34(P:EG):Obj:=zzM 2 [hE P "__module__" 214 zzE,hE P "__firstlineno__" 218 (.int 4 217),hE P "__static_attributes__" 219 (.ref 35),hE P "__doc__" 220 .none]
noncomputable def ob35:Obj:=zzK "NoFraction" 37 36 28 207 215
noncomputable def ob36:Obj:={ cls:=(.type "super"),data:=(.fields #[(.ref 37),(.ref 37),(.ref 37)]) }
noncomputable def ob37:Obj:={ cls:=(.type "builtin_function_or_method"),data:=(.fields #[(.builtin "object.__init_subclass__"),(.ref 37)]) }
noncomputable def ob38(P:EG):Obj:=zzM 12 (hE P "__name__" 165 zzE::(en3 P).take 11)
noncomputable def ob39:Obj:={ cls:=.none,data:=.fields (EE (fl12.take 9)) }
noncomputable def ob40:Obj:={ cls:=(.type "type"),data:=(.cls { name:="SpotError",bases:=[(.type "ValueError")],mro:=[(.ref 24),(.type "ValueError"),(.type "Exception"),(.type "BaseException"),(.type "object")],ns:=23,qualname:="SpotError",hasDict:=true,slotNames:=[],subclasses:=[(.ref 37),(.ref 49)],abstract:=false,collection:=none,hasDel:=false }),slots:=#[(some (.ref 15)),none,(some (.str "SpotError" 189)),(some (.str "SpotError" 197)),(some (.builtin "ValueError.__new__")),(some (.bool true))] }
noncomputable def ob41(P:EG):Obj:=zzM 4 [hE P "__module__" 230 zzE,hE P "__qualname__" 232 (.str "NoWall" 231),hE P "__firstlineno__" 234 (.int 6 233),hE P "__static_attributes__" 235 (.ref 47)]
noncomputable def ob42:Obj:=zzD "NoWall" "NoWall" 225 226 227 6 0 0 43 false 44 .none .none .none 228 229
noncomputable def ob43:Obj:={ cls:=(.type "frame"),slots:=#[(some (.ref 45)),(some (.ref 3)),(some (.ref 42)),none,(some zzE),none,(some (.ref 0))] }
noncomputable def ob44(P:EG):Obj:=zzM 2 [hE P "__module__" 230 zzE,hE P "__firstlineno__" 234 (.int 6 233),hE P "__static_attributes__" 235 (.ref 47),hE P "__doc__" 236 .none]
noncomputable def ob45:Obj:=zzK "NoWall" 49 48 40 223 231
noncomputable def ob46:Obj:={ cls:=(.type "super"),data:=(.fields #[(.ref 49),(.ref 49),(.ref 49)]) }
noncomputable def ob47:Obj:={ cls:=(.type "builtin_function_or_method"),data:=(.fields #[(.builtin "object.__init_subclass__"),(.ref 49)]) }
noncomputable def ob48(P:EG):Obj:=zzM 13 (hE P "__name__" 165 zzE::(en3 P).take 12)
noncomputable def ob49:Obj:={ cls:=.none,data:=.fields (EE (fl12.take 12)) }
noncomputable def ob50:Obj:={ cls:=(.type "type"),data:=(.cls { name:="SpotError",bases:=[(.type "ValueError")],mro:=[(.ref 24),(.type "ValueError"),(.type "Exception"),(.type "BaseException"),(.type "object")],ns:=23,qualname:="SpotError",hasDict:=true,slotNames:=[],subclasses:=[(.ref 37),(.ref 49),(.ref 68)],abstract:=false,collection:=none,hasDel:=false }),slots:=#[(some (.ref 15)),none,(some (.str "SpotError" 189)),(some (.str "SpotError" 197)),(some (.builtin "ValueError.__new__")),(some (.bool true))] }
noncomputable def ob51(P:EG):Obj:=zzM 5 [hE P "__module__" 246 zzE,hE P "__qualname__" 248 (.str "TooMany" 247),hE P "__firstlineno__" 250 (.int 8 249),hE P "__init__" 258 (.ref 65),hE P "__static_attributes__" 260 (.ref 66)]
noncomputable def ob52:Obj:=kFd [(.int 10 0),(.int 4 0),(.ref 64)]
noncomputable def ob53:Obj:=zzD "TooMany" "TooMany" 241 242 243 8 0 0 55 false 56 .none .none .none 244 245
noncomputable def ob54:Obj:={ cls:=(.type "frame"),slots:=#[(some (.ref 57)),(some (.ref 3)),(some (.ref 54)),none,(some zzE),none,(some (.ref 0))] }
noncomputable def ob55:Obj:=kTu [(.str "self" 254),(.str "count" 255)]
noncomputable def ob56:Obj:={ cls:=.none,data:=(.func (kU (kC st4 0) "__init__" "TooMany.__init__" 0 .none .none)) }
noncomputable def ob57:Obj:=zzD "__init__" "TooMany.__init__" 251 252 253 10 2 3 59 true 60 (.ref 61) (.ref 62) (.ref 63) 256 257
noncomputable def ob58:Obj:={ cls:=(.type "function"),data:=(.func (kU (kC st4 0) "__init__" "TooMany.__init__" 3 zzE (.ref 64))) }
noncomputable def ob59:Obj:=kTu [(.str "count" 259)]
noncomputable def ob60(P:EG):Obj:=zzM 2 [hE P "__module__" 246 zzE,hE P "__firstlineno__" 250 (.int 8 249),hE P "__init__" 258 (.ref 65),hE P "__static_attributes__" 260 (.ref 66),hE P "__doc__" 261 .none]
noncomputable def ob61:Obj:=zzK "TooMany" 68 67 52 239 247
noncomputable def ob62:Obj:={ cls:=(.type "super"),data:=(.fields #[(.ref 68),(.ref 68),(.ref 68)]) }
noncomputable def ob63:Obj:={ cls:=(.type "builtin_function_or_method"),data:=(.fields #[(.builtin "object.__init_subclass__"),(.ref 68)]) }
noncomputable def ob64(P:EG):Obj:=zzM 14 (hE P "__name__" 165 zzE::(en3 P).take 13)
noncomputable def ob65:Obj:={ cls:=.none,data:=.fields (EE (fl12.take 15)) }
noncomputable def ob66:Obj:={ cls:=(.type "type"),data:=(.cls { name:="SpotError",bases:=[(.type "ValueError")],mro:=[(.ref 24),(.type "ValueError"),(.type "Exception"),(.type "BaseException"),(.type "object")],ns:=23,qualname:="SpotError",hasDict:=true,slotNames:=[],subclasses:=[(.ref 37),(.ref 49),(.ref 68),(.ref 87)],abstract:=false,collection:=none,hasDel:=false }),slots:=#[(some (.ref 15)),none,(some (.str "SpotError" 189)),(some (.str "SpotError" 197)),(some (.builtin "ValueError.__new__")),(some (.bool true))] }
noncomputable def ob67(P:EG):Obj:=zzM 5 [hE P "__module__" 271 zzE,hE P "__qualname__" 273 (.str "Crossing" 272),hE P "__firstlineno__" 275 (.int 13 274),hE P "__init__" 284 (.ref 84),hE P "__static_attributes__" 287 (.ref 85)]
noncomputable def ob68:Obj:=kFd [(.int 15 0),(.int 4 0),(.ref 83)]
noncomputable def ob69:Obj:=zzD "Crossing" "Crossing" 266 267 268 13 0 0 74 false 75 .none .none .none 269 270
noncomputable def ob70:Obj:={ cls:=(.type "frame"),slots:=#[(some (.ref 76)),(some (.ref 3)),(some (.ref 73)),none,(some zzE),none,(some (.ref 0))] }
noncomputable def ob71:Obj:=kTu [(.str "self" 279),(.str "wall" 280),(.str "other" 281)]
noncomputable def ob72:Obj:={ cls:=.none,data:=(.func (kU (kC st5 0) "__init__" "Crossing.__init__" 0 .none .none)) }
noncomputable def ob73:Obj:=zzD "__init__" "Crossing.__init__" 276 277 278 15 3 3 78 true 79 (.ref 80) (.ref 81) (.ref 82) 282 283
noncomputable def ob74:Obj:={ cls:=(.type "function"),data:=(.func (kU (kC st5 0) "__init__" "Crossing.__init__" 3 zzE (.ref 83))) }
noncomputable def ob75:Obj:=kTu [(.str "other" 285),(.str "wall" 286)]
noncomputable def ob76(P:EG):Obj:=zzM 2 [hE P "__module__" 271 zzE,hE P "__firstlineno__" 275 (.int 13 274),hE P "__init__" 284 (.ref 84),hE P "__static_attributes__" 287 (.ref 85),hE P "__doc__" 288 .none]
noncomputable def ob77:Obj:=zzK "Crossing" 87 86 71 264 272
noncomputable def ob78:Obj:={ cls:=(.type "super"),data:=(.fields #[(.ref 87),(.ref 87),(.ref 87)]) }
noncomputable def ob79:Obj:={ cls:=(.type "builtin_function_or_method"),data:=(.fields #[(.builtin "object.__init_subclass__"),(.ref 87)]) }
noncomputable def ob80(P:EG):Obj:=zzM 15 (hE P "__name__" 165 zzE::(en3 P).take 14)
noncomputable def ob81:Obj:={ cls:=.none,data:=.fields (EE (fl12.take 18)) }
noncomputable def ob82:Obj:={ cls:=(.type "type"),data:=(.cls { name:="SpotError",bases:=[(.type "ValueError")],mro:=[(.ref 24),(.type "ValueError"),(.type "Exception"),(.type "BaseException"),(.type "object")],ns:=23,qualname:="SpotError",hasDict:=true,slotNames:=[],subclasses:=[(.ref 37),(.ref 49),(.ref 68),(.ref 87),(.ref 106)],abstract:=false,collection:=none,hasDel:=false }),slots:=#[(some (.ref 15)),none,(some (.str "SpotError" 189)),(some (.str "SpotError" 197)),(some (.builtin "ValueError.__new__")),(some (.bool true))] }
noncomputable def ob83(P:EG):Obj:=zzM 5 [hE P "__module__" 298 zzE,hE P "__qualname__" 300 (.str "Absent" 299),hE P "__firstlineno__" 302 (.int 19 301),hE P "__init__" 310 (.ref 103),hE P "__static_attributes__" 312 (.ref 104)]
noncomputable def ob84:Obj:=kFd [(.int 21 0),(.int 4 0),(.ref 102)]
noncomputable def ob85:Obj:=zzD "Absent" "Absent" 293 294 295 19 0 0 93 false 94 .none .none .none 296 297
noncomputable def ob86:Obj:={ cls:=(.type "frame"),slots:=#[(some (.ref 95)),(some (.ref 3)),(some (.ref 92)),none,(some zzE),none,(some (.ref 0))] }
noncomputable def ob87:Obj:=kTu [(.str "self" 306),(.str "number" 307)]
noncomputable def ob88:Obj:={ cls:=.none,data:=(.func (kU (kC st6 0) "__init__" "Absent.__init__" 0 .none .none)) }
noncomputable def ob89:Obj:=zzD "__init__" "Absent.__init__" 303 304 305 21 2 3 97 true 98 (.ref 99) (.ref 100) (.ref 101) 308 309
noncomputable def ob90:Obj:={ cls:=(.type "function"),data:=(.func (kU (kC st6 0) "__init__" "Absent.__init__" 3 zzE (.ref 102))) }
noncomputable def ob91:Obj:=kTu [(.str "number" 311)]
noncomputable def ob92(P:EG):Obj:=zzM 2 [hE P "__module__" 298 zzE,hE P "__firstlineno__" 302 (.int 19 301),hE P "__init__" 310 (.ref 103),hE P "__static_attributes__" 312 (.ref 104),hE P "__doc__" 313 .none]
noncomputable def ob93:Obj:=zzK "Absent" 106 105 90 291 299
noncomputable def ob94:Obj:={ cls:=(.type "super"),data:=(.fields #[(.ref 106),(.ref 106),(.ref 106)]) }
noncomputable def ob95:Obj:={ cls:=(.type "builtin_function_or_method"),data:=(.fields #[(.builtin "object.__init_subclass__"),(.ref 106)]) }
noncomputable def ob96(P:EG):Obj:=zzM 16 (hE P "__name__" 165 zzE::(en3 P).take 15)
noncomputable def ob97:Obj:={ cls:=.none,data:=.fields (EE (fl12.take 21)) }
noncomputable def ob98:Obj:={ cls:=(.type "type"),data:=(.cls { name:="SpotError",bases:=[(.type "ValueError")],mro:=[(.ref 24),(.type "ValueError"),(.type "Exception"),(.type "BaseException"),(.type "object")],ns:=23,qualname:="SpotError",hasDict:=true,slotNames:=[],subclasses:=[(.ref 37),(.ref 49),(.ref 68),(.ref 87),(.ref 106),(.ref 125)],abstract:=false,collection:=none,hasDel:=false }),slots:=#[(some (.ref 15)),none,(some (.str "SpotError" 189)),(some (.str "SpotError" 197)),(some (.builtin "ValueError.__new__")),(some (.bool true))] }
noncomputable def ob99(P:EG):Obj:=zzM 5 [hE P "__module__" 323 zzE,hE P "__qualname__" 325 (.str "NoText" 324),hE P "__firstlineno__" 327 (.int 24 326),hE P "__init__" 335 (.ref 122),hE P "__static_attributes__" 337 (.ref 123)]
noncomputable def ob100:Obj:=kFd [(.int 26 0),(.int 4 0),(.ref 121)]
noncomputable def ob101:Obj:=zzD "NoText" "NoText" 318 319 320 24 0 0 112 false 113 .none .none .none 321 322
noncomputable def ob102:Obj:={ cls:=(.type "frame"),slots:=#[(some (.ref 114)),(some (.ref 3)),(some (.ref 111)),none,(some zzE),none,(some (.ref 0))] }
noncomputable def ob103:Obj:=kTu [(.str "self" 331),(.str "row" 332)]
noncomputable def ob104:Obj:={ cls:=.none,data:=(.func (kU (kC st7 0) "__init__" "NoText.__init__" 0 .none .none)) }
noncomputable def ob105:Obj:=zzD "__init__" "NoText.__init__" 328 329 330 26 2 3 116 true 117 (.ref 118) (.ref 119) (.ref 120) 333 334
noncomputable def ob106:Obj:={ cls:=(.type "function"),data:=(.func (kU (kC st7 0) "__init__" "NoText.__init__" 3 zzE (.ref 121))) }
noncomputable def ob107:Obj:=kTu [(.str "row" 336)]
noncomputable def ob108(P:EG):Obj:=zzM 2 [hE P "__module__" 323 zzE,hE P "__firstlineno__" 327 (.int 24 326),hE P "__init__" 335 (.ref 122),hE P "__static_attributes__" 337 (.ref 123),hE P "__doc__" 338 .none]
noncomputable def ob109:Obj:=zzK "NoText" 125 124 109 316 324
noncomputable def ob110:Obj:={ cls:=(.type "super"),data:=(.fields #[(.ref 125),(.ref 125),(.ref 125)]) }
noncomputable def ob111:Obj:={ cls:=(.type "builtin_function_or_method"),data:=(.fields #[(.builtin "object.__init_subclass__"),(.ref 125)]) }
noncomputable def ob112(P:EG):Obj:=zzM 22 (hE P "__name__" 165 (.str "spotlook.fractions" 357)::(en3 P).take 21)
noncomputable def ob113:Obj:={ cls:=.none,data:=.fields (EE (fl12.take 39)) }
noncomputable def ob114:Obj:={ cls:=(.type "type"),data:=(.cls { name:="SpotError",bases:=[(.type "ValueError")],mro:=[(.ref 24),(.type "ValueError"),(.type "Exception"),(.type "BaseException"),(.type "object")],ns:=23,qualname:="SpotError",hasDict:=true,slotNames:=[],subclasses:=[(.ref 37),(.ref 49),(.ref 68),(.ref 87),(.ref 106),(.ref 125),(.ref 137)],abstract:=false,collection:=none,hasDel:=false }),slots:=#[(some (.ref 15)),none,(some (.str "SpotError" 189)),(some (.str "SpotError" 197)),(some (.builtin "ValueError.__new__")),(some (.bool true))] }
noncomputable def ob115(P:EG):Obj:=zzM 4 [hE P "__module__" 348 zzE,hE P "__qualname__" 350 (.str "NoRow" 349),hE P "__firstlineno__" 352 (.int 29 351),hE P "__static_attributes__" 353 (.ref 135)]
noncomputable def ob116:Obj:=zzD "NoRow" "NoRow" 343 344 345 29 0 0 131 false 132 .none .none .none 346 347
noncomputable def ob117:Obj:={ cls:=(.type "frame"),slots:=#[(some (.ref 133)),(some (.ref 3)),(some (.ref 130)),none,(some zzE),none,(some (.ref 0))] }
noncomputable def ob118(P:EG):Obj:=zzM 2 [hE P "__module__" 348 zzE,hE P "__firstlineno__" 352 (.int 29 351),hE P "__static_attributes__" 353 (.ref 135),hE P "__doc__" 354 .none]
noncomputable def ob119:Obj:=zzK "NoRow" 137 136 128 341 349
noncomputable def ob120:Obj:={ cls:=(.type "super"),data:=(.fields #[(.ref 137),(.ref 137),(.ref 137)]) }
noncomputable def ob121:Obj:={ cls:=(.type "builtin_function_or_method"),data:=(.fields #[(.builtin "object.__init_subclass__"),(.ref 137)]) }
noncomputable def ob122:Obj:=kTu [(.str "one" 362),(.str "other" 363)]
noncomputable def ob123:Obj:=hF .none st10 "greatest_divisor" 0 .none .none
noncomputable def ob124:Obj:=hC "greatest_divisor" 359 360 361 365 140 141 142 143 144 32 2 0 0 3 181 364 32 true
noncomputable def ob125:Obj:=zzH st10 "greatest_divisor" (.str "spotlook.fractions" 357) 145
noncomputable def ob126:Obj:=kTu [(.str "top" 370),(.str "bottom" 371),(.str "divisor" 372)]
noncomputable def ob127:Obj:=hF .none st11 "fraction" 0 .none .none
noncomputable def ob128:Obj:=hC "fraction" 367 368 369 374 147 148 149 150 151 36 2 0 0 3 181 373 36 true
noncomputable def ob129:Obj:=zzH st11 "fraction" (.str "spotlook.fractions" 357) 152
noncomputable def ob130:Obj:=kTu [(.str "one" 379),(.str "other" 380)]
noncomputable def ob131:Obj:=hF .none st12 "plus" 0 .none .none
noncomputable def ob132:Obj:=hC "plus" 376 377 378 382 154 155 156 157 158 43 2 0 0 3 181 381 43 true
noncomputable def ob133:Obj:=zzH st12 "plus" (.str "spotlook.fractions" 357) 159
noncomputable def ob134:Obj:=kTu [(.str "one" 387),(.str "other" 388)]
noncomputable def ob135:Obj:=hF .none st13 "less" 0 .none .none
noncomputable def ob136:Obj:=hC "less" 384 385 386 390 161 162 163 164 165 45 2 0 0 3 181 389 45 true
noncomputable def ob137:Obj:=zzH st13 "less" (.str "spotlook.fractions" 357) 166
noncomputable def ob138:Obj:=kTu [(.str "one" 395),(.str "other" 396)]
noncomputable def ob139:Obj:=hF .none st14 "times" 0 .none .none
noncomputable def ob140:Obj:=hC "times" 392 393 394 398 168 169 170 171 172 47 2 0 0 3 181 397 47 true
noncomputable def ob141:Obj:=zzH st14 "times" (.str "spotlook.fractions" 357) 173
noncomputable def ob142(P:EG):Obj:=zzM 34 (hE P "__name__" 165 (.str "spotlook.spots" 416)::(en3 P).take 33)
noncomputable def ob143:Obj:={ cls:=.none,data:=.fields (EE (fl12.take 75)) }
noncomputable def ob144:Obj:=kTu [(.str "one" 403),(.str "other" 404)]
noncomputable def ob145:Obj:=hF .none st15 "over" 0 .none .none
noncomputable def ob146:Obj:=hC "over" 400 401 402 406 175 176 177 178 179 49 2 0 0 3 181 405 49 true
noncomputable def ob147:Obj:=zzH st15 "over" (.str "spotlook.fractions" 357) 180
noncomputable def ob148:Obj:=kTu [(.str "one" 411),(.str "other" 412)]
noncomputable def ob149:Obj:=hF .none st16 "is_less" 0 .none .none
noncomputable def ob150:Obj:=hC "is_less" 408 409 410 414 182 183 184 185 186 51 2 0 0 3 181 413 51 true
noncomputable def ob151:Obj:=zzH st16 "is_less" (.str "spotlook.fractions" 357) 187
noncomputable def ob152:Obj:=kTu [(.str "one" 421),(.str "other" 422)]
noncomputable def ob153:Obj:=hF .none st18 "is_ahead" 0 .none .none
noncomputable def ob154:Obj:=hC "is_ahead" 418 419 420 424 189 190 191 192 193 54 2 0 0 3 181 423 54 true
noncomputable def ob155:Obj:=zzH st18 "is_ahead" (.str "spotlook.spots" 416) 194
noncomputable def ob156:Obj:=kTu [(.str "one" 429),(.str "other" 430)]
noncomputable def ob157:Obj:=hF .none st19 "later_of" 0 .none .none
noncomputable def ob158:Obj:=hC "later_of" 426 427 428 432 196 197 198 199 200 58 2 0 0 3 181 431 58 true
noncomputable def ob159:Obj:=zzH st19 "later_of" (.str "spotlook.spots" 416) 201
noncomputable def ob160:Obj:=kTu [(.str "one" 437),(.str "other" 438)]
noncomputable def ob161:Obj:=hF .none st20 "earlier_of" 0 .none .none
noncomputable def ob162:Obj:=hC "earlier_of" 434 435 436 440 203 204 205 206 207 60 2 0 0 3 181 439 60 true
noncomputable def ob163:Obj:=zzH st20 "earlier_of" (.str "spotlook.spots" 416) 208
noncomputable def ob164:Obj:=kTu [(.str "row" 445),(.str "spot" 446),(.str "low" 447),(.str "high" 448),(.str "middle" 449)]
noncomputable def ob165:Obj:=hF .none st21 "place_among" 0 .none .none
noncomputable def ob166:Obj:=hC "place_among" 442 443 444 451 210 211 212 213 214 62 2 0 0 3 181 450 62 true
noncomputable def ob167:Obj:=zzH st21 "place_among" (.str "spotlook.spots" 416) 215
noncomputable def ob168:Obj:=kTu [(.str "spots" 456),(.str "row" 457),(.str "spot" 458)]
noncomputable def ob169:Obj:=hF .none st22 "ahead_first" 0 .none .none
noncomputable def ob170:Obj:=hC "ahead_first" 453 454 455 460 217 218 219 220 221 71 1 0 0 3 181 459 71 true
noncomputable def ob171:Obj:=zzH st22 "ahead_first" (.str "spotlook.spots" 416) 222
noncomputable def ob172:Obj:=kTu [(.str "spot" 465),(.str "x" 466),(.str "y" 467)]
noncomputable def ob173:Obj:=hF .none st23 "own_spot" 0 .none .none
noncomputable def ob174:Obj:=hC "own_spot" 462 463 464 469 224 225 226 227 228 76 1 0 0 3 181 468 76 true
noncomputable def ob175:Obj:=zzH st23 "own_spot" (.str "spotlook.spots" 416) 229
noncomputable def ob176:Obj:=kTu [(.str "wall" 474)]
noncomputable def ob177:Obj:=hF .none st24 "own_wall" 0 .none .none
noncomputable def ob178:Obj:=hC "own_wall" 471 472 473 476 231 232 233 234 235 79 1 0 0 3 181 475 79 true
noncomputable def ob179:Obj:=zzH st24 "own_wall" (.str "spotlook.spots" 416) 236
noncomputable def ob180:Obj:=kTu [(.str "one" 481),(.str "other" 482)]
noncomputable def ob181:Obj:=hF .none st25 "gap" 0 .none .none
noncomputable def ob182:Obj:=hC "gap" 478 479 480 484 238 239 240 241 242 81 2 0 0 3 181 483 81 true
noncomputable def ob183:Obj:=zzH st25 "gap" (.str "spotlook.spots" 416) 243
noncomputable def ob184:Obj:=kTu [(.str "wall" 489),(.str "spot" 490),(.str "a" 491),(.str "b" 492),(.str "c" 493),(.str "d" 494),(.str "x" 495),(.str "y" 496),(.str "across" 497),(.str "up" 498),(.str "along" 499),(.str "high" 500)]
noncomputable def ob185:Obj:=hF .none st26 "lean" 0 .none .none
noncomputable def ob186:Obj:=hC "lean" 486 487 488 502 245 246 247 248 249 83 2 0 0 3 181 501 83 true
noncomputable def ob187:Obj:=zzH st26 "lean" (.str "spotlook.spots" 416) 250
noncomputable def ob188:Obj:=kTu [(.str "wall" 507),(.str "spot" 508),(.str "top" 509)]
noncomputable def ob189:Obj:=hF .none st27 "side_of" 0 .none .none
noncomputable def ob190:Obj:=hC "side_of" 504 505 506 511 252 253 254 255 256 89 2 0 0 3 181 510 89 true
noncomputable def ob191:Obj:=zzH st27 "side_of" (.str "spotlook.spots" 416) 257
noncomputable def ob192(P:EG):Obj:=zzM 46 (hE P "__name__" 165 zzN::(en3 P).take 45)
noncomputable def ob193:Obj:={ cls:=.none,data:=.fields (EE (fl12.take 108)) }
noncomputable def ob194:Obj:=kTu [(.str "wall" 516),(.str "spot" 517),(.str "first" 518),(.str "second" 519)]
noncomputable def ob195:Obj:=hF .none st28 "lies_on" 0 .none .none
noncomputable def ob196:Obj:=hC "lies_on" 513 514 515 521 259 260 261 262 263 96 2 0 0 3 181 520 96 true
noncomputable def ob197:Obj:=zzH st28 "lies_on" (.str "spotlook.spots" 416) 264
noncomputable def ob198:Obj:=kTu [(.str "one" 530),(.str "other" 531),(.str "first_side" 532),(.str "second_side" 533)]
noncomputable def ob199:Obj:=hF .none st31 "meeting" 0 .none .none
noncomputable def ob200:Obj:=hC "meeting" 527 528 529 535 266 267 268 269 270 101 2 0 0 3 181 534 101 true
noncomputable def ob201:Obj:=zzH st31 "meeting" (.str "spotlook.plots" 523) 271
noncomputable def ob202:Obj:=kTu [(.str "one" 540),(.str "other" 541),(.str "start" 542),(.str "end" 543)]
noncomputable def ob203:Obj:=hF .none st32 "meeting_in_line" 0 .none .none
noncomputable def ob204:Obj:=hC "meeting_in_line" 537 538 539 545 273 274 275 276 277 108 2 0 0 3 181 544 108 true
noncomputable def ob205:Obj:=zzH st32 "meeting_in_line" (.str "spotlook.plots" 523) 278
noncomputable def ob206:Obj:=kTu [(.str "one" 550),(.str "other" 551),(.str "start" 552),(.str "end" 553),(.str "top" 554),(.str "bottom" 555),(.str "from_start" 556),(.str "share" 557)]
noncomputable def ob207:Obj:=hF .none st33 "crossing_spot" 0 .none .none
noncomputable def ob208:Obj:=hC "crossing_spot" 547 548 549 559 280 281 282 283 284 116 2 0 0 3 181 558 116 true
noncomputable def ob209:Obj:=zzH st33 "crossing_spot" (.str "spotlook.plots" 523) 285
noncomputable def ob210:Obj:=kTu [(.str "start" 564),(.str "end" 565),(.str "share" 566)]
noncomputable def ob211:Obj:=hF .none st34 "number_between" 0 .none .none
noncomputable def ob212:Obj:=hC "number_between" 561 562 563 568 287 288 289 290 291 123 3 0 0 3 181 567 123 true
noncomputable def ob213:Obj:=zzH st34 "number_between" (.str "spotlook.plots" 523) 292
noncomputable def ob214:Obj:=kTu [(.str "plot" 573),(.str "corners" 574),(.str "wall" 575),(.str "end" 576)]
noncomputable def ob215:Obj:=hF .none st35 "corners_of" 0 .none .none
noncomputable def ob216:Obj:=hC "corners_of" 570 571 572 578 294 295 296 297 298 125 1 0 0 3 181 577 125 true
noncomputable def ob217:Obj:=zzH st35 "corners_of" (.str "spotlook.plots" 523) 299
noncomputable def ob218:Obj:=kTu [(.str "walls" 585),(.str "pieces" 586),(.str "wall" 587),(.str "cuts" 588),(.str "start" 589),(.str "end" 590)]
noncomputable def ob219:Obj:=hF .none st37 "parted" 0 .none .none
noncomputable def ob220:Obj:=hC "parted" 582 583 584 592 301 302 303 304 305 132 1 0 0 3 181 591 132 true
noncomputable def ob221:Obj:=zzH st37 "parted" (.str "spotlook.parting" 580) 306
noncomputable def ob222:Obj:=kTu [(.str "wall" 597),(.str "walls" 598),(.str "cuts" 599),(.str "other" 600),(.str "end" 601),(.str "met" 602)]
noncomputable def ob223:Obj:=hF .none st38 "cuts_of" 0 .none .none
noncomputable def ob224:Obj:=hC "cuts_of" 594 595 596 604 308 309 310 311 312 141 2 0 0 3 181 603 141 true
noncomputable def ob225:Obj:=zzH st38 "cuts_of" (.str "spotlook.parting" 580) 313
noncomputable def ob226:Obj:=hF .none st39 "by_ends" 0 .none .none
noncomputable def ob227:Obj:=zzD "by_ends" "by_ends" 606 607 608 151 1 3 315 true 316 .none .none (.ref 317) 609 610
noncomputable def ob228:Obj:=zzH st39 "by_ends" (.str "spotlook.parting" 580) 318
noncomputable def ob229:Obj:=kTu [(.str "_law_script" 617),(.str "_law_k" 618)]
noncomputable def ob230:Obj:=hF .none st41 "_law_cell_at" 0 .none .none
noncomputable def ob231:Obj:=hC "_law_cell_at" 614 615 616 620 320 321 322 323 324 155 2 0 0 3 181 619 155 true
noncomputable def ob232:Obj:=zzH st41 "_law_cell_at" zzN 325
noncomputable def ob233:Obj:=kTu [(.str "_law_row" 625),(.str "_law_base" 626),(.str "_law_rest" 627),(.str "_law_number" 628)]
noncomputable def ob234:Obj:=hF .none st42 "_law_take" 0 .none .none
noncomputable def ob235:Obj:=hC "_law_take" 622 623 624 630 327 328 329 330 331 159 2 0 0 3 181 629 159 true
noncomputable def ob236:Obj:=zzH st42 "_law_take" zzN 332
noncomputable def ob237(P:EG):Obj:=zzM 58 (hE P "__name__" 165 zzN::(en3 P).take 57)
noncomputable def ob238:Obj:={ cls:=.none,data:=.fields (EE (fl12.take 144)) }
noncomputable def ob239:Obj:=kTu [(.str "_law_top" 635),(.str "_law_bottom" 636),(.str "_law_one" 637),(.str "_law_other" 638)]
noncomputable def ob240:Obj:=hF .none st43 "_law_low" 0 .none .none
noncomputable def ob241:Obj:=hC "_law_low" 632 633 634 640 334 335 336 337 338 168 2 0 0 3 181 639 168 true
noncomputable def ob242:Obj:=zzH st43 "_law_low" zzN 339
noncomputable def ob243:Obj:=kTu [(.str "_law_row" 645),(.str "_law_top" 646),(.str "_law_bottom" 647),(.str "_law_far" 648)]
noncomputable def ob244:Obj:=hF .none st44 "_law_scale" 0 .none .none
noncomputable def ob245:Obj:=hC "_law_scale" 642 643 644 650 341 342 343 344 345 176 1 0 0 3 181 649 176 true
noncomputable def ob246:Obj:=zzH st44 "_law_scale" zzN 346
noncomputable def ob247:Obj:=kTu [(.str "_law_scale_here" 655),(.str "_law_unit" 656),(.str "_law_top" 657),(.str "_law_bottom" 658),(.str "_law_x" 659),(.str "_law_y" 660)]
noncomputable def ob248:Obj:=hF .none st45 "_law_spot" 0 .none .none
noncomputable def ob249:Obj:=hC "_law_spot" 652 653 654 662 348 349 350 351 352 182 2 0 0 3 181 661 182 true
noncomputable def ob250:Obj:=zzH st45 "_law_spot" zzN 353
noncomputable def ob251:Obj:=hF .none st46 "_law_made" 0 .none .none
noncomputable def ob252:Obj:=zzD "_law_made" "_law_made" 664 665 666 185 2 3 355 true 356 .none .none (.ref 357) 667 668
noncomputable def ob253:Obj:=zzH st46 "_law_made" zzN 358
noncomputable def ob254:Obj:=kTu [(.str "_law_one" 673),(.str "_law_other" 674)]
noncomputable def ob255:Obj:=hF .none st47 "_law_cross" 0 .none .none
noncomputable def ob256:Obj:=hC "_law_cross" 670 671 672 676 360 361 362 363 364 187 2 0 0 3 181 675 187 true
noncomputable def ob257:Obj:=zzH st47 "_law_cross" zzN 365
noncomputable def ob258:Obj:=kTu [(.str "_law_one" 681),(.str "_law_other" 682),(.str "_law_far" 683),(.str "_law_beside" 684),(.str "_law_gap" 685),(.str "_law_below" 686),(.str "_law_first" 687),(.str "_law_second" 688),(.str "_law_parts" 689)]
noncomputable def ob259:Obj:=hF .none st48 "_law_meet" 0 .none .none
noncomputable def ob260:Obj:=hC "_law_meet" 678 679 680 691 367 368 369 370 371 189 2 0 0 3 181 690 189 true
noncomputable def ob261:Obj:=zzH st48 "_law_meet" zzN 372
noncomputable def ob262:Obj:=kTu [(.str "_law_scale_here" 696),(.str "_law_told_here" 697),(.str "_law_top" 698),(.str "_law_bottom" 699),(.str "_law_x" 700),(.str "_law_y" 701),(.str "_law_many" 702)]
noncomputable def ob263:Obj:=hF .none st49 "_law_spot_at" 0 .none .none
noncomputable def ob264:Obj:=hC "_law_spot_at" 693 694 695 704 374 375 376 377 378 207 2 0 0 3 181 703 207 true
noncomputable def ob265:Obj:=zzH st49 "_law_spot_at" zzN 379
noncomputable def ob266:Obj:=kTu [(.str "_law_one" 709),(.str "_law_other" 710)]
noncomputable def ob267:Obj:=hF .none st50 "_law_is_sooner" 0 .none .none
noncomputable def ob268:Obj:=hC "_law_is_sooner" 706 707 708 712 381 382 383 384 385 211 2 0 0 3 181 711 211 true
noncomputable def ob269:Obj:=zzH st50 "_law_is_sooner" zzN 386
noncomputable def ob270:Obj:=kTu [(.str "_law_spots" 717),(.str "_law_found" 718),(.str "_law_spot_here" 719),(.str "_law_at" 720)]
noncomputable def ob271:Obj:=hF .none st51 "_law_sorted" 0 .none .none
noncomputable def ob272:Obj:=hC "_law_sorted" 714 715 716 722 388 389 390 391 392 215 1 0 0 3 181 721 215 true
noncomputable def ob273:Obj:=zzH st51 "_law_sorted" zzN 393
noncomputable def ob274:Obj:=hF .none st52 "_law_pieces" 0 .none .none
noncomputable def ob275:Obj:=zzD "_law_pieces" "_law_pieces" 724 725 726 224 2 3 395 true 396 .none .none (.ref 397) 727 728
noncomputable def ob276:Obj:=zzH st52 "_law_pieces" zzN 398
noncomputable def ob277:Obj:=hF .none st53 "_law_in_row" 0 .none .none
noncomputable def ob278:Obj:=zzD "_law_in_row" "_law_in_row" 730 731 732 237 1 3 400 true 401 .none .none (.ref 402) 733 734
noncomputable def ob279:Obj:=zzH st53 "_law_in_row" zzN 403
noncomputable def ob280:Obj:=kTu [(.str "_law_row" 739),(.str "_law_most" 740),(.str "_law_size" 741),(.str "_law_shuts" 742),(.str "_law_turn" 743),(.str "_law_one" 744),(.str "_law_other" 745)]
noncomputable def ob281:Obj:=hF .none st54 "_law_any" 0 .none .none
noncomputable def ob282:Obj:=hC "_law_any" 736 737 738 747 405 406 407 408 409 242 3 0 0 3 181 746 242 true
noncomputable def ob283:Obj:=zzH st54 "_law_any" zzN 410
noncomputable def ob284(P:EG):Obj:=zzM 61 (hE P "__name__" 165 zzN::(en3 P).take 60)
noncomputable def ob285:Obj:={ cls:=.none,data:=.fields (EE (fl12.take 153)) }
noncomputable def ob286:Obj:=kTu [(.str "_law_heard" 752),(.str "_law_place" 753),(.str "_law_kinds" 754)]
noncomputable def ob287:Obj:=hF .none st55 "_law_alone" 0 .none .none
noncomputable def ob288:Obj:=hC "_law_alone" 749 750 751 756 412 413 414 415 416 255 2 0 0 3 181 755 255 true
noncomputable def ob289:Obj:=zzH st55 "_law_alone" zzN 417
noncomputable def ob290:Obj:=kTu [(.str "_law_shuts" 761),(.str "_law_heard" 762),(.str "_law_found" 763),(.str "e" 764)]
noncomputable def ob291:Obj:=hF .none st56 "_law_told" 0 .none .none
noncomputable def ob292:Obj:=hC "_law_told" 758 759 760 766 419 420 421 422 423 260 1 0 0 3 181 765 260 true
noncomputable def ob293:Obj:=zzH st56 "_law_told" zzN 424
noncomputable def ob294:Obj:=hF .none st57 "law" 0 .none .none
noncomputable def ob295:Obj:=zzD "law" "law" 768 769 770 272 1 3 426 true 427 .none .none (.ref 428) 771 772
noncomputable def ob296:Obj:=zzH st57 "law" zzN 429
noncomputable def oL0(P:EG):List Obj:=[PySem.W.boot_o_0 P,PySem.W.boot_o_1 P,PySem.W.boot_o_2 P,PySem.W.boot_o_3 P,PySem.W.boot_o_4 P,PySem.W.boot_o_5 P,PySem.W.boot_o_6 P,PySem.W.boot_o_7 P,PySem.W.boot_o_8 P,PySem.W.boot_o_9 P,PySem.W.boot_o_10 P,ob11,ob12,ob13,ob14,ob15 P]
noncomputable def oL1(P:EG):List Obj:=[ob16,ob17,ob18,ob19 P,ob20,ob21,ob22 P,ob23,ob24,ob25,ob26,ob27 P,ob28,ob29,ob30,ob31 P]
noncomputable def oL2(P:EG):List Obj:=[ob32,ob33,ob34 P,ob35,ob36,ob37,ob38 P,ob39,ob40,ob41 P,ob42,ob43,ob44 P,ob45,ob46,ob47]
noncomputable def oL3(P:EG):List Obj:=[ob48 P,ob49,ob50,ob51 P,ob52,ob53,ob54,ob55,ob56,ob57,ob58,ob59,ob60 P,ob61,ob62,ob63]
noncomputable def oL4(P:EG):List Obj:=[ob64 P,ob65,ob66,ob67 P,ob68,ob69,ob70,ob71,ob72,ob73,ob74,ob75,ob76 P,ob77,ob78,ob79]
noncomputable def oL5(P:EG):List Obj:=[ob80 P,ob81,ob82,ob83 P,ob84,ob85,ob86,ob87,ob88,ob89,ob90,ob91,ob92 P,ob93,ob94,ob95]
noncomputable def oL6(P:EG):List Obj:=[ob96 P,ob97,ob98,ob99 P,ob100,ob101,ob102,ob103,ob104,ob105,ob106,ob107,ob108 P,ob109,ob110,ob111]
noncomputable def oL7(P:EG):List Obj:=[ob112 P,ob113,ob114,ob115 P,ob116,ob117,ob118 P,ob119,ob120,ob121,ob122,ob123,ob124,ob125,ob126,ob127]
noncomputable def oL8(P:EG):List Obj:=[ob128,ob129,ob130,ob131,ob132,ob133,ob134,ob135,ob136,ob137,ob138,ob139,ob140,ob141,ob142 P,ob143]
noncomputable def oL9(P:EG):List Obj:=[ob144,ob145,ob146,ob147,ob148,ob149,ob150,ob151,ob152,ob153,ob154,ob155,ob156,ob157,ob158,ob159]
noncomputable def oL10(P:EG):List Obj:=[ob160,ob161,ob162,ob163,ob164,ob165,ob166,ob167,ob168,ob169,ob170,ob171,ob172,ob173,ob174,ob175]
noncomputable def oL11(P:EG):List Obj:=[ob176,ob177,ob178,ob179,ob180,ob181,ob182,ob183,ob184,ob185,ob186,ob187,ob188,ob189,ob190,ob191]
noncomputable def oL12(P:EG):List Obj:=[ob192 P,ob193,ob194,ob195,ob196,ob197,ob198,ob199,ob200,ob201,ob202,ob203,ob204,ob205,ob206,ob207]
noncomputable def oL13(P:EG):List Obj:=[ob208,ob209,ob210,ob211,ob212,ob213,ob214,ob215,ob216,ob217,ob218,ob219,ob220,ob221,ob222,ob223]
noncomputable def oL14(P:EG):List Obj:=[ob224,ob225,ob226,ob227,ob228,ob229,ob230,ob231,ob232,ob233,ob234,ob235,ob236,ob237 P,ob238,ob239]
noncomputable def oL15(P:EG):List Obj:=[ob240,ob241,ob242,ob243,ob244,ob245,ob246,ob247,ob248,ob249,ob250,ob251,ob252,ob253,ob254,ob255]
noncomputable def oL16(P:EG):List Obj:=[ob256,ob257,ob258,ob259,ob260,ob261,ob262,ob263,ob264,ob265,ob266,ob267,ob268,ob269,ob270,ob271]
noncomputable def oL17(P:EG):List Obj:=[ob272,ob273,ob274,ob275,ob276,ob277,ob278,ob279,ob280,ob281,ob282,ob283,ob284 P,ob285,ob286,ob287]
noncomputable def oL18(P:EG):List Obj:=[ob288,ob289,ob290,ob291,ob292,ob293,ob294,ob295,ob296]
noncomputable def fA(c i:Nat)(P:EG):Obj:=(([oL0 P,oL1 P,oL2 P,oL3 P,oL4 P,oL5 P,oL6 P,oL7 P,oL8 P,oL9 P,oL10 P,oL11 P,oL12 P,oL13 P,oL14 P,oL15 P,oL16 P,oL17 P,oL18 P]:List (List Obj)).getD c []).getD i { cls:=.none }
noncomputable def tW0(n:Nat->EA->EA->EA)(e:EA):EA:=(fun m:Nat->EA=>(n 0 (n 1 (n 3 (m 7) (m 11)) (n 5 (m 9) (m 13))) (n 2 (n 4 (m 8) (m 12)) (n 6 (m 10) (m 14))))) fun a=>n a e e
noncomputable def tX0(f:Nat->Nat->EG->Obj)(P:EG):EA:=tW0 (fun k=>.node (f (k/16) (k%16) P)) .nil
noncomputable def tW1(n:Nat->EA->EA->EA)(e:EA):EA:=(fun m:Nat->EA=>(n 0 (n 1 (n 15 (n 7 (m 17) (m 22)) (n 11 (m 12) (m 26))) (n 5 (n 9 (m 19) (m 24)) (n 13 (m 21) e))) (n 2 (n 4 (n 8 (m 18) (m 23)) (n 16 (m 20) e)) (n 6 (n 10 (m 11) (m 25)) (n 14 (m 11) e))))) fun a=>n a e e
noncomputable def tX1(f:Nat->Nat->EG->Obj)(P:EG):EA:=tW1 (fun k=>.node (f (k/16) (k%16) P)) .nil
noncomputable def tW2(n:Nat->EA->EA->EA)(e:EA):EA:=(fun m:Nat->EA=>(n 0 (n 1 (n 27 (n 7 (n 17 (m 11) e) (n 22 (m 37) e)) (n 11 (n 12 (m 11) e) (m 26))) (n 5 (n 9 (n 19 (m 32) e) (m 24)) (n 13 (n 21 (m 35) e) (m 18)))) (n 2 (n 4 (n 8 (n 18 (m 12) e) (m 29)) (n 28 (n 20 (m 34) e) (m 30))) (n 6 (n 10 (n 11 (m 33) e) (m 25)) (n 14 (n 11 (m 36) e) (m 31)))))) fun a=>n a e e
noncomputable def tX2(f:Nat->Nat->EG->Obj)(P:EG):EA:=tW2 (fun k=>.node (f (k/16) (k%16) P)) .nil
noncomputable def tW3(n:Nat->EA->EA->EA)(e:EA):EA:=(fun m:Nat->EA=>(n 0 (n 1 (n 38 (n 7 (n 17 (m 11) (m 11)) (n 22 (m 37) e)) (n 11 (n 12 (m 11) (m 47)) (n 26 (m 11) e))) (n 5 (n 9 (n 19 (m 32) (m 45)) (n 24 (m 18) e)) (n 13 (n 21 (m 35) e) (n 18 (m 42) e)))) (n 2 (n 4 (n 8 (n 18 (m 12) (m 44)) (n 40 (m 30) e)) (n 39 (n 20 (m 34) e) (n 30 (m 12) e))) (n 6 (n 10 (n 11 (m 33) (m 46)) (n 25 (m 41) e)) (n 14 (n 11 (m 36) e) (n 31 (m 43) e)))))) fun a=>n a e e
noncomputable def tX3(f:Nat->Nat->EG->Obj)(P:EG):EA:=tW3 (fun k=>.node (f (k/16) (k%16) P)) .nil
noncomputable def tW4(n:Nat->EA->EA->EA)(e:EA):EA:=(fun m:Nat->EA=>(n 0 (n 1 (n 48 (n 7 (n 17 (n 11 (m 56) e) (m 11)) (n 22 (m 37) (m 11))) (n 11 (n 12 (n 11 (m 60) e) (m 47)) (n 26 (m 11) (m 11)))) (n 5 (n 9 (n 19 (n 32 (m 58) e) (m 45)) (n 24 (m 18) (m 53))) (n 13 (n 21 (n 35 (m 62) e) (m 18)) (n 18 (m 42) (m 55))))) (n 2 (n 4 (n 8 (n 18 (n 12 (m 57) e) (m 44)) (n 50 (m 30) (m 52))) (n 49 (n 20 (n 34 (m 61) e) (m 30)) (n 30 (m 12) (m 12)))) (n 6 (n 10 (n 11 (n 33 (m 59) e) (m 46)) (n 25 (m 41) (m 54))) (n 14 (n 11 (n 36 (m 63) e) (m 51)) (n 31 (m 43) (m 11))))))) fun a=>n a e e
noncomputable def tX4(f:Nat->Nat->EG->Obj)(P:EG):EA:=tW4 (fun k=>.node (f (k/16) (k%16) P)) .nil
noncomputable def tW5(n:Nat->EA->EA->EA)(e:EA):EA:=(fun m:Nat->EA=>(n 0 (n 1 (n 64 (n 7 (n 17 (n 11 (m 56) e) (n 11 (m 12) e)) (n 22 (n 37 (m 30) e) (n 11 (m 77) e))) (n 11 (n 12 (n 11 (m 60) e) (n 47 (m 73) e)) (n 26 (n 11 (m 68) e) (m 11)))) (n 5 (n 9 (n 19 (n 32 (m 58) e) (n 45 (m 11) e)) (n 24 (n 18 (m 67) e) (n 53 (m 79) e))) (n 13 (n 21 (n 35 (m 62) e) (n 18 (m 75) e)) (n 18 (n 42 (m 70) e) (m 55))))) (n 2 (n 4 (n 8 (n 18 (n 12 (m 57) e) (n 44 (m 71) e)) (n 66 (n 30 (m 18) e) (n 52 (m 78) e))) (n 65 (n 20 (n 34 (m 61) e) (n 30 (m 74) e)) (n 30 (n 12 (m 69) e) (m 12)))) (n 6 (n 10 (n 11 (n 33 (m 59) e) (n 46 (m 72) e)) (n 25 (n 41 (m 11) e) (m 54))) (n 14 (n 11 (n 36 (m 63) e) (n 51 (m 76) e)) (n 31 (n 43 (m 11) e) (m 11))))))) fun a=>n a e e
noncomputable def tX5(f:Nat->Nat->EG->Obj)(P:EG):EA:=tW5 (fun k=>.node (f (k/16) (k%16) P)) .nil
noncomputable def tW6(n:Nat->EA->EA->EA)(e:EA):EA:=(fun m:Nat->EA=>(n 0 (n 1 (n 80 (n 7 (n 17 (n 11 (m 56) (m 85)) (n 11 (m 12) e)) (n 22 (n 37 (m 30) (m 90)) (n 11 (m 77) e))) (n 11 (n 12 (n 11 (m 60) (m 87)) (n 47 (m 73) e)) (n 26 (n 11 (m 68) (m 94)) (n 11 (m 18) e)))) (n 5 (n 9 (n 19 (n 32 (m 58) (m 11)) (n 45 (m 11) e)) (n 24 (n 18 (m 67) (m 92)) (n 53 (m 79) e))) (n 13 (n 21 (n 35 (m 62) (m 88)) (n 18 (m 75) e)) (n 18 (n 42 (m 70) e) (n 55 (m 11) e))))) (n 2 (n 4 (n 8 (n 18 (n 12 (m 57) (m 86)) (n 44 (m 71) e)) (n 82 (n 30 (m 18) (m 91)) (n 52 (m 78) e))) (n 81 (n 20 (n 34 (m 61) (m 11)) (n 30 (m 74) e)) (n 30 (n 12 (m 69) (m 95)) (n 12 (m 83) e)))) (n 6 (n 10 (n 11 (n 33 (m 59) (m 12)) (n 46 (m 72) e)) (n 25 (n 41 (m 11) (m 93)) (n 54 (m 30) e))) (n 14 (n 11 (n 36 (m 63) (m 89)) (n 51 (m 76) e)) (n 31 (n 43 (m 11) e) (n 11 (m 84) e))))))) fun a=>n a e e
noncomputable def tX6(f:Nat->Nat->EG->Obj)(P:EG):EA:=tW6 (fun k=>.node (f (k/16) (k%16) P)) .nil
noncomputable def tW7(n:Nat->EA->EA->EA)(e:EA):EA:=(fun m:Nat->EA=>(n 0 (n 1 (n 96 (n 7 (n 17 (n 11 (n 56 (m 111) e) (m 85)) (n 11 (m 12) (m 99))) (n 22 (n 37 (m 30) (m 90)) (n 11 (m 77) (m 11)))) (n 11 (n 12 (n 11 (m 60) (m 87)) (n 47 (m 73) (m 102))) (n 26 (n 11 (m 68) (m 94)) (n 11 (m 18) (m 107))))) (n 5 (n 9 (n 19 (n 32 (m 58) (m 11)) (n 45 (m 11) (m 100))) (n 24 (n 18 (m 67) (m 92)) (n 53 (m 79) (m 105)))) (n 13 (n 21 (n 35 (m 62) (m 88)) (n 18 (m 75) (m 12))) (n 18 (n 42 (m 70) (m 30)) (n 55 (m 11) (m 109)))))) (n 2 (n 4 (n 8 (n 18 (n 12 (m 57) (m 86)) (n 44 (m 71) (m 11))) (n 98 (n 30 (m 18) (m 91)) (n 52 (m 78) (m 104)))) (n 97 (n 20 (n 34 (m 61) (m 11)) (n 30 (m 74) (m 11))) (n 30 (n 12 (m 69) (m 95)) (n 12 (m 83) (m 108))))) (n 6 (n 10 (n 11 (n 33 (m 59) (m 12)) (n 46 (m 72) (m 101))) (n 25 (n 41 (m 11) (m 93)) (n 54 (m 30) (m 106)))) (n 14 (n 11 (n 36 (m 63) (m 89)) (n 51 (m 76) (m 103))) (n 31 (n 43 (m 11) (m 18)) (n 11 (m 84) (m 110)))))))) fun a=>n a e e
noncomputable def tX7(f:Nat->Nat->EG->Obj)(P:EG):EA:=tW7 (fun k=>.node (f (k/16) (k%16) P)) .nil
noncomputable def tW8(n:Nat->EA->EA->EA)(e:EA):EA:=(fun m:Nat->EA=>(n 0 (n 1 (n 112 (n 7 (n 17 (n 11 (n 56 (m 111) e) (n 85 (m 132) e)) (n 11 (n 12 (m 11) e) (m 99))) (n 22 (n 37 (n 30 (m 11) e) (n 90 (m 137) e)) (n 11 (n 77 (m 127) e) (m 11)))) (n 11 (n 12 (n 11 (n 60 (m 11) e) (n 87 (m 134) e)) (n 47 (n 73 (m 11) e) (m 102))) (n 26 (n 11 (n 68 (m 121) e) (n 94 (m 11) e)) (n 11 (n 18 (m 12) e) (m 107))))) (n 5 (n 9 (n 19 (n 32 (n 58 (m 18) e) (n 11 (m 11) e)) (n 45 (n 11 (m 124) e) (m 100))) (n 24 (n 18 (n 67 (m 119) e) (n 92 (m 12) e)) (n 53 (n 79 (m 129) e) (m 105)))) (n 13 (n 21 (n 35 (n 62 (m 116) e) (n 88 (m 135) e)) (n 18 (n 75 (m 126) e) (m 12))) (n 18 (n 42 (n 70 (m 12) e) (n 30 (m 140) e)) (n 55 (n 11 (m 11) e) (m 109)))))) (n 2 (n 4 (n 8 (n 18 (n 12 (n 57 (m 30) e) (n 86 (m 133) e)) (n 44 (n 71 (m 123) e) (m 11))) (n 114 (n 30 (n 18 (m 118) e) (n 91 (m 11) e)) (n 52 (n 78 (m 128) e) (m 104)))) (n 113 (n 20 (n 34 (n 61 (m 12) e) (n 11 (m 11) e)) (n 30 (n 74 (m 12) e) (m 11))) (n 30 (n 12 (n 69 (m 11) e) (n 95 (m 139) e)) (n 12 (n 83 (m 130) e) (m 108))))) (n 6 (n 10 (n 11 (n 33 (n 59 (m 115) e) (n 12 (m 12) e)) (n 46 (n 72 (m 125) e) (m 101))) (n 25 (n 41 (n 11 (m 120) e) (n 93 (m 138) e)) (n 54 (n 30 (m 11) e) (m 106)))) (n 14 (n 11 (n 36 (n 63 (m 117) e) (n 89 (m 136) e)) (n 51 (n 76 (m 11) e) (m 103))) (n 31 (n 43 (n 11 (m 122) e) (n 18 (m 141) e)) (n 11 (n 84 (m 131) e) (m 110)))))))) fun a=>n a e e
noncomputable def tX8(f:Nat->Nat->EG->Obj)(P:EG):EA:=tW8 (fun k=>.node (f (k/16) (k%16) P)) .nil
noncomputable def tW9(n:Nat->EA->EA->EA)(e:EA):EA:=(fun m:Nat->EA=>(n 0 (n 1 (n 142 (n 7 (n 17 (n 11 (n 56 (n 111 (m 11) e) (m 152)) (n 85 (m 132) (m 171))) (n 11 (n 12 (m 11) (m 161)) (n 99 (m 11) (m 12)))) (n 22 (n 37 (n 30 (m 11) (m 11)) (n 90 (m 137) (m 11))) (n 11 (n 77 (m 127) (m 166)) (n 11 (m 12) (m 184))))) (n 11 (n 12 (n 11 (n 60 (m 11) (m 155)) (n 87 (m 134) (m 11))) (n 47 (n 73 (m 11) (m 12)) (n 102 (m 145) (m 182)))) (n 26 (n 11 (n 68 (m 121) (m 11)) (n 94 (m 11) (m 177))) (n 11 (n 18 (m 12) (m 168)) (n 107 (m 150) (m 187)))))) (n 5 (n 9 (n 19 (n 32 (n 58 (n 18 (m 190) e) (m 153)) (n 11 (m 11) (m 12))) (n 45 (n 11 (m 124) (m 163)) (n 100 (m 144) (m 11)))) (n 24 (n 18 (n 67 (m 119) (m 158)) (n 92 (m 12) (m 176))) (n 53 (n 79 (m 129) (m 11)) (n 105 (m 11) (m 185))))) (n 13 (n 21 (n 35 (n 62 (m 116) (m 12)) (n 88 (m 135) (m 174))) (n 18 (n 75 (m 126) (m 11)) (n 12 (m 147) (m 11)))) (n 18 (n 42 (n 70 (m 12) (m 160)) (n 30 (m 140) (m 179))) (n 55 (n 11 (m 11) (m 169)) (n 109 (m 11) (m 12))))))) (n 2 (n 4 (n 8 (n 18 (n 12 (n 57 (n 30 (m 189) e) (m 11)) (n 86 (m 133) (m 11))) (n 44 (n 71 (m 123) (m 162)) (n 11 (m 12) (m 180)))) (n 114 (n 30 (n 18 (m 118) (m 157)) (n 91 (m 11) (m 12))) (n 52 (n 78 (m 128) (m 167)) (n 104 (m 148) (m 11))))) (n 143 (n 20 (n 34 (n 61 (m 12) (m 11)) (n 11 (m 11) (m 173))) (n 30 (n 74 (m 12) (m 164)) (n 11 (m 146) (m 183)))) (n 30 (n 12 (n 69 (m 11) (m 12)) (n 95 (m 139) (m 178))) (n 12 (n 83 (m 130) (m 11)) (n 108 (m 151) (m 11)))))) (n 6 (n 10 (n 11 (n 33 (n 59 (n 115 (m 191) e) (m 154)) (n 12 (m 12) (m 172))) (n 46 (n 72 (m 125) (m 11)) (n 101 (m 11) (m 181)))) (n 25 (n 41 (n 11 (m 120) (m 159)) (n 93 (m 138) (m 11))) (n 54 (n 30 (m 11) (m 12)) (n 106 (m 149) (m 186))))) (n 14 (n 11 (n 36 (n 63 (m 117) (m 156)) (n 89 (m 136) (m 175))) (n 51 (n 76 (m 11) (m 165)) (n 103 (m 11) (m 12)))) (n 31 (n 43 (n 11 (m 122) (m 11)) (n 18 (m 141) (m 11))) (n 11 (n 84 (m 131) (m 170)) (n 110 (m 12) (m 188))))))))) fun a=>n a e e
noncomputable def tX9(f:Nat->Nat->EG->Obj)(P:EG):EA:=tW9 (fun k=>.node (f (k/16) (k%16) P)) .nil
noncomputable def tW10(n:Nat->EA->EA->EA)(e:EA):EA:=(fun m:Nat->EA=>(n 0 (n 1 (n 192 (n 7 (n 17 (n 11 (n 56 (n 111 (m 11) e) (n 152 (m 228) e)) (n 85 (n 132 (m 11) e) (m 171))) (n 11 (n 12 (n 11 (m 200) e) (m 161)) (n 99 (n 11 (m 218) e) (m 12)))) (n 22 (n 37 (n 30 (n 11 (m 195) e) (n 11 (m 11) e)) (n 90 (n 137 (m 12) e) (m 11))) (n 11 (n 77 (n 127 (m 205) e) (m 166)) (n 11 (n 12 (m 11) e) (m 184))))) (n 11 (n 12 (n 11 (n 60 (n 11 (m 11) e) (n 155 (m 11) e)) (n 87 (n 134 (m 211) e) (m 11))) (n 47 (n 73 (n 11 (m 202) e) (m 12)) (n 102 (n 145 (m 221) e) (m 182)))) (n 26 (n 11 (n 68 (n 121 (m 12) e) (n 11 (m 234) e)) (n 94 (n 11 (m 216) e) (m 177))) (n 11 (n 18 (n 12 (m 11) e) (m 168)) (n 107 (n 150 (m 11) e) (m 187)))))) (n 5 (n 9 (n 19 (n 32 (n 58 (n 18 (m 190) e) (n 153 (m 12) e)) (n 11 (n 11 (m 210) e) (m 12))) (n 45 (n 11 (n 124 (m 11) e) (m 163)) (n 100 (n 144 (m 219) e) (m 11)))) (n 24 (n 18 (n 67 (n 119 (m 197) e) (n 158 (m 233) e)) (n 92 (n 12 (m 11) e) (m 176))) (n 53 (n 79 (n 129 (m 12) e) (m 11)) (n 105 (n 11 (m 224) e) (m 185))))) (n 13 (n 21 (n 35 (n 62 (n 116 (m 194) e) (n 12 (m 231) e)) (n 88 (n 135 (m 213) e) (m 174))) (n 18 (n 75 (n 126 (m 203) e) (m 11)) (n 12 (n 147 (m 12) e) (m 11)))) (n 18 (n 42 (n 70 (n 12 (m 11) e) (n 160 (m 236) e)) (n 30 (n 140 (m 11) e) (m 179))) (n 55 (n 11 (n 11 (m 208) e) (m 169)) (n 109 (n 11 (m 226) e) (m 12))))))) (n 2 (n 4 (n 8 (n 18 (n 12 (n 57 (n 30 (m 189) e) (n 11 (m 11) e)) (n 86 (n 133 (m 12) e) (m 11))) (n 44 (n 71 (n 123 (m 201) e) (m 162)) (n 11 (n 12 (m 11) e) (m 180)))) (n 114 (n 30 (n 18 (n 118 (m 196) e) (n 157 (m 12) e)) (n 91 (n 11 (m 214) e) (m 12))) (n 52 (n 78 (n 128 (m 11) e) (m 167)) (n 104 (n 148 (m 223) e) (m 11))))) (n 193 (n 20 (n 34 (n 61 (n 12 (m 12) e) (n 11 (m 230) e)) (n 11 (n 11 (m 212) e) (m 173))) (n 30 (n 74 (n 12 (m 11) e) (m 164)) (n 11 (n 146 (m 11) e) (m 183)))) (n 30 (n 12 (n 69 (n 11 (m 198) e) (n 12 (m 235) e)) (n 95 (n 139 (m 217) e) (m 178))) (n 12 (n 83 (n 130 (m 207) e) (m 11)) (n 108 (n 151 (m 12) e) (m 11)))))) (n 6 (n 10 (n 11 (n 33 (n 59 (n 115 (m 191) e) (n 154 (m 229) e)) (n 12 (n 12 (m 11) e) (m 172))) (n 46 (n 72 (n 125 (m 12) e) (m 11)) (n 101 (n 11 (m 220) e) (m 181)))) (n 25 (n 41 (n 11 (n 120 (m 11) e) (n 159 (m 11) e)) (n 93 (n 138 (m 215) e) (m 11))) (n 54 (n 30 (n 11 (m 206) e) (m 12)) (n 106 (n 149 (m 225) e) (m 186))))) (n 14 (n 11 (n 36 (n 63 (n 117 (m 11) e) (n 156 (m 232) e)) (n 89 (n 136 (m 11) e) (m 175))) (n 51 (n 76 (n 11 (m 204) e) (m 165)) (n 103 (n 11 (m 222) e) (m 12)))) (n 31 (n 43 (n 11 (n 122 (m 199) e) (m 11)) (n 18 (n 141 (m 12) e) (m 11))) (n 11 (n 84 (n 131 (m 209) e) (m 170)) (n 110 (n 12 (m 227) e) (m 188))))))))) fun a=>n a e e
noncomputable def tX10(f:Nat->Nat->EG->Obj)(P:EG):EA:=tW10 (fun k=>.node (f (k/16) (k%16) P)) .nil
noncomputable def tW11(n:Nat->EA->EA->EA)(e:EA):EA:=(fun m:Nat->EA=>(n 0 (n 1 (n 237 (n 7 (n 17 (n 11 (n 56 (n 111 (m 11) (m 266)) (n 152 (m 228) e)) (n 85 (n 132 (m 11) e) (n 171 (m 11) e))) (n 11 (n 12 (n 11 (m 200) (m 276)) (n 161 (m 12) e)) (n 99 (n 11 (m 218) e) (n 12 (m 11) e)))) (n 22 (n 37 (n 30 (n 11 (m 195) (m 11)) (n 11 (m 11) e)) (n 90 (n 137 (m 12) e) (n 11 (m 253) e))) (n 11 (n 77 (n 127 (m 205) (m 280)) (n 166 (m 243) e)) (n 11 (n 12 (m 11) e) (n 184 (m 12) e))))) (n 11 (n 12 (n 11 (n 60 (n 11 (m 11) (m 269)) (n 155 (m 11) e)) (n 87 (n 134 (m 211) e) (n 11 (m 11) e))) (n 47 (n 73 (n 11 (m 202) (m 278)) (n 12 (m 241) e)) (n 102 (n 145 (m 221) e) (n 182 (m 259) e)))) (n 26 (n 11 (n 68 (n 121 (m 12) (m 11)) (n 11 (m 234) e)) (n 94 (n 11 (m 216) e) (n 177 (m 11) e))) (n 11 (n 18 (n 12 (m 11) (m 283)) (n 168 (m 246) e)) (n 107 (n 150 (m 11) e) (n 187 (m 264) e)))))) (n 5 (n 9 (n 19 (n 32 (n 58 (n 18 (m 190) (m 267)) (n 153 (m 12) e)) (n 11 (n 11 (m 210) e) (n 12 (m 249) e))) (n 45 (n 11 (n 124 (m 11) (m 12)) (n 163 (m 11) e)) (n 100 (n 144 (m 219) e) (n 11 (m 258) e)))) (n 24 (n 18 (n 67 (n 119 (m 197) (m 272)) (n 158 (m 233) e)) (n 92 (n 12 (m 11) e) (n 176 (m 12) e))) (n 53 (n 79 (n 129 (m 12) (m 281)) (n 11 (m 244) e)) (n 105 (n 11 (m 224) e) (n 185 (m 11) e))))) (n 13 (n 21 (n 35 (n 62 (n 116 (m 194) (m 12)) (n 12 (m 231) e)) (n 88 (n 135 (m 213) e) (n 174 (m 251) e))) (n 18 (n 75 (n 126 (m 203) (m 11)) (n 11 (m 11) e)) (n 12 (n 147 (m 12) e) (n 11 (m 261) e)))) (n 18 (n 42 (n 70 (n 12 (m 11) (m 274)) (n 160 (m 236) e)) (n 30 (n 140 (m 11) e) (n 179 (m 256) e))) (n 55 (n 11 (n 11 (m 208) e) (n 169 (m 12) e)) (n 109 (n 11 (m 226) e) (n 12 (m 11) e))))))) (n 2 (n 4 (n 8 (n 18 (n 12 (n 57 (n 30 (m 189) (m 11)) (n 11 (m 11) e)) (n 86 (n 133 (m 12) e) (n 11 (m 248) e))) (n 44 (n 71 (n 123 (m 201) (m 11)) (n 162 (m 239) e)) (n 11 (n 12 (m 11) e) (n 180 (m 12) e)))) (n 114 (n 30 (n 18 (n 118 (m 196) (m 271)) (n 157 (m 12) e)) (n 91 (n 11 (m 214) e) (n 12 (m 11) e))) (n 52 (n 78 (n 128 (m 11) (m 11)) (n 167 (m 11) e)) (n 104 (n 148 (m 223) e) (n 11 (m 262) e))))) (n 238 (n 20 (n 34 (n 61 (n 12 (m 12) (m 11)) (n 11 (m 230) e)) (n 11 (n 11 (m 212) e) (n 173 (m 12) e))) (n 30 (n 74 (n 12 (m 11) (m 279)) (n 164 (m 242) e)) (n 11 (n 146 (m 11) e) (n 183 (m 260) e)))) (n 30 (n 12 (n 69 (n 11 (m 198) (m 12)) (n 12 (m 235) e)) (n 95 (n 139 (m 217) e) (n 178 (m 255) e))) (n 12 (n 83 (n 130 (m 207) e) (n 11 (m 11) e)) (n 108 (n 151 (m 12) e) (n 11 (m 265) e)))))) (n 6 (n 10 (n 11 (n 33 (n 59 (n 115 (m 191) (m 268)) (n 154 (m 229) e)) (n 12 (n 12 (m 11) e) (n 172 (m 250) e))) (n 46 (n 72 (n 125 (m 12) (m 277)) (n 11 (m 240) e)) (n 101 (n 11 (m 220) e) (n 181 (m 11) e)))) (n 25 (n 41 (n 11 (n 120 (m 11) (m 273)) (n 159 (m 11) e)) (n 93 (n 138 (m 215) e) (n 11 (m 254) e))) (n 54 (n 30 (n 11 (m 206) (m 282)) (n 12 (m 245) e)) (n 106 (n 149 (m 225) e) (n 186 (m 263) e))))) (n 14 (n 11 (n 36 (n 63 (n 117 (m 11) (m 270)) (n 156 (m 232) e)) (n 89 (n 136 (m 11) e) (n 175 (m 252) e))) (n 51 (n 76 (n 11 (m 204) (m 12)) (n 165 (m 12) e)) (n 103 (n 11 (m 222) e) (n 12 (m 11) e)))) (n 31 (n 43 (n 11 (n 122 (m 199) (m 275)) (n 11 (m 11) e)) (n 18 (n 141 (m 12) e) (n 11 (m 257) e))) (n 11 (n 84 (n 131 (m 209) e) (n 170 (m 247) e)) (n 110 (n 12 (m 227) e) (n 188 (m 12) e))))))))) fun a=>n a e e
noncomputable def tX11(f:Nat->Nat->EG->Obj)(P:EG):EA:=tW11 (fun k=>.node (f (k/16) (k%16) P)) .nil
noncomputable def tW12(n:Nat->EA->EA->EA)(e:EA):EA:=(fun m:Nat->EA=>(n 0 (n 1 (n 284 (n 7 (n 17 (n 11 (n 56 (n 111 (m 11) (m 266)) (n 152 (m 228) e)) (n 85 (n 132 (m 11) (m 11)) (n 171 (m 11) e))) (n 11 (n 12 (n 11 (m 200) (m 276)) (n 161 (m 12) e)) (n 99 (n 11 (m 218) e) (n 12 (m 11) e)))) (n 22 (n 37 (n 30 (n 11 (m 195) (m 11)) (n 11 (m 11) e)) (n 90 (n 137 (m 12) (m 291)) (n 11 (m 253) e))) (n 11 (n 77 (n 127 (m 205) (m 280)) (n 166 (m 243) e)) (n 11 (n 12 (m 11) e) (n 184 (m 12) e))))) (n 11 (n 12 (n 11 (n 60 (n 11 (m 11) (m 269)) (n 155 (m 11) e)) (n 87 (n 134 (m 211) (m 11)) (n 11 (m 11) e))) (n 47 (n 73 (n 11 (m 202) (m 278)) (n 12 (m 241) e)) (n 102 (n 145 (m 221) e) (n 182 (m 259) e)))) (n 26 (n 11 (n 68 (n 121 (m 12) (m 11)) (n 11 (m 234) e)) (n 94 (n 11 (m 216) (m 12)) (n 177 (m 11) e))) (n 11 (n 18 (n 12 (m 11) (m 283)) (n 168 (m 246) e)) (n 107 (n 150 (m 11) e) (n 187 (m 264) e)))))) (n 5 (n 9 (n 19 (n 32 (n 58 (n 18 (m 190) (m 267)) (n 153 (m 12) e)) (n 11 (n 11 (m 210) (m 288)) (n 12 (m 249) e))) (n 45 (n 11 (n 124 (m 11) (m 12)) (n 163 (m 11) e)) (n 100 (n 144 (m 219) e) (n 11 (m 258) e)))) (n 24 (n 18 (n 67 (n 119 (m 197) (m 272)) (n 158 (m 233) e)) (n 92 (n 12 (m 11) (m 293)) (n 176 (m 12) e))) (n 53 (n 79 (n 129 (m 12) (m 281)) (n 11 (m 244) e)) (n 105 (n 11 (m 224) e) (n 185 (m 11) e))))) (n 13 (n 21 (n 35 (n 62 (n 116 (m 194) (m 12)) (n 12 (m 231) e)) (n 88 (n 135 (m 213) (m 290)) (n 174 (m 251) e))) (n 18 (n 75 (n 126 (m 203) (m 11)) (n 11 (m 11) e)) (n 12 (n 147 (m 12) e) (n 11 (m 261) e)))) (n 18 (n 42 (n 70 (n 12 (m 11) (m 274)) (n 160 (m 236) e)) (n 30 (n 140 (m 11) (m 295)) (n 179 (m 256) e))) (n 55 (n 11 (n 11 (m 208) (m 12)) (n 169 (m 12) e)) (n 109 (n 11 (m 226) e) (n 12 (m 11) e))))))) (n 2 (n 4 (n 8 (n 18 (n 12 (n 57 (n 30 (m 189) (m 11)) (n 11 (m 11) e)) (n 86 (n 133 (m 12) (m 287)) (n 11 (m 248) e))) (n 44 (n 71 (n 123 (m 201) (m 11)) (n 162 (m 239) e)) (n 11 (n 12 (m 11) e) (n 180 (m 12) e)))) (n 114 (n 30 (n 18 (n 118 (m 196) (m 271)) (n 157 (m 12) e)) (n 91 (n 11 (m 214) (m 292)) (n 12 (m 11) e))) (n 52 (n 78 (n 128 (m 11) (m 11)) (n 167 (m 11) e)) (n 104 (n 148 (m 223) e) (n 11 (m 262) e))))) (n 285 (n 20 (n 34 (n 61 (n 12 (m 12) (m 11)) (n 11 (m 230) e)) (n 11 (n 11 (m 212) (m 12)) (n 173 (m 12) e))) (n 30 (n 74 (n 12 (m 11) (m 279)) (n 164 (m 242) e)) (n 11 (n 146 (m 11) e) (n 183 (m 260) e)))) (n 30 (n 12 (n 69 (n 11 (m 198) (m 12)) (n 12 (m 235) e)) (n 95 (n 139 (m 217) (m 294)) (n 178 (m 255) e))) (n 12 (n 83 (n 130 (m 207) (m 11)) (n 11 (m 11) e)) (n 108 (n 151 (m 12) e) (n 11 (m 265) e)))))) (n 6 (n 10 (n 11 (n 33 (n 59 (n 115 (m 191) (m 268)) (n 154 (m 229) e)) (n 12 (n 12 (m 11) (m 289)) (n 172 (m 250) e))) (n 46 (n 72 (n 125 (m 12) (m 277)) (n 11 (m 240) e)) (n 101 (n 11 (m 220) e) (n 181 (m 11) e)))) (n 25 (n 41 (n 11 (n 120 (m 11) (m 273)) (n 159 (m 11) e)) (n 93 (n 138 (m 215) (m 11)) (n 11 (m 254) e))) (n 54 (n 30 (n 11 (m 206) (m 282)) (n 12 (m 245) e)) (n 106 (n 149 (m 225) e) (n 186 (m 263) e))))) (n 14 (n 11 (n 36 (n 63 (n 117 (m 11) (m 270)) (n 156 (m 232) e)) (n 89 (n 136 (m 11) (m 11)) (n 175 (m 252) e))) (n 51 (n 76 (n 11 (m 204) (m 12)) (n 165 (m 12) e)) (n 103 (n 11 (m 222) e) (n 12 (m 11) e)))) (n 31 (n 43 (n 11 (n 122 (m 199) (m 275)) (n 11 (m 11) e)) (n 18 (n 141 (m 12) (m 296)) (n 11 (m 257) e))) (n 11 (n 84 (n 131 (m 209) (m 286)) (n 170 (m 247) e)) (n 110 (n 12 (m 227) e) (n 188 (m 12) e))))))))) fun a=>n a e e
noncomputable def tX12(f:Nat->Nat->EG->Obj)(P:EG):EA:=tW12 (fun k=>.node (f (k/16) (k%16) P)) .nil
noncomputable def hX0(f:Nat->Nat->EG->Obj)(P:EG):Heap:=(fun g:Nat->Obj=>(⟨⟨[g 0,g 1,g 2,g 3,g 4,g 5,g 6,g 7,g 8,g 9,g 10,g 11,g 12,g 13,g 14]⟩,{}⟩:Heap)) fun k=>f (k/16) (k%16) P
noncomputable def hX1(f:Nat->Nat->EG->Obj)(P:EG):Heap:=(fun g:Nat->Obj=>(⟨⟨[g 0,g 1,g 2,g 284,g 4,g 5,g 6,g 7,g 8,g 9,g 10,g 11,g 285,g 13,g 14,g 17,g 18,g 19,g 11,g 12,g 20,g 21,g 11,g 22,g 114,g 24,g 25,g 26,g 30,g 18,g 31,g 11,g 12,g 32,g 33,g 11,g 34,g 35,g 36,g 37,g 30,g 18,g 41,g 11,g 12,g 42,g 43,g 11,g 44,g 45,g 46,g 47,g 30,g 18,g 51,g 11,g 52,g 53,g 54,g 11,g 12,g 55,g 11,g 56,g 57,g 58,g 59,g 60,g 61,g 62,g 63,g 30,g 18,g 67,g 11,g 68,g 69,g 70,g 11,g 12,g 71,g 11,g 72,g 73,g 74,g 75,g 76,g 77,g 78,g 79,g 30,g 18,g 83,g 11,g 84,g 85,g 86,g 11,g 12,g 87,g 11,g 88,g 89,g 90,g 91,g 92,g 93,g 94,g 95,g 30,g 18,g 99,g 11,g 100,g 101,g 102,g 11,g 12,g 103,g 11,g 104,g 105,g 106,g 107,g 108,g 109,g 110,g 111,g 30,g 18,g 115,g 11,g 12,g 116,g 117,g 11,g 118,g 119,g 120,g 121,g 11,g 12,g 122,g 11,g 123,g 124,g 125,g 11,g 12,g 126,g 11,g 127,g 128,g 129,g 11,g 12,g 130,g 11,g 131,g 132,g 133,g 11,g 12,g 134,g 11,g 135,g 136,g 137,g 11,g 12,g 138,g 11,g 139,g 140,g 141,g 11,g 12,g 144,g 11,g 145,g 146,g 147,g 11,g 12,g 148,g 11,g 149,g 150,g 151,g 11,g 12,g 152,g 11,g 153,g 154,g 155,g 11,g 12,g 156,g 11,g 157,g 158,g 159,g 11,g 12,g 160,g 11,g 161,g 162,g 163,g 11,g 12,g 164,g 11,g 165,g 166,g 167,g 11,g 12,g 168,g 11,g 169,g 170,g 171,g 11,g 12,g 172,g 11,g 173,g 174,g 175,g 11,g 12,g 176,g 11,g 177,g 178,g 179,g 11,g 12,g 180,g 11,g 181,g 182,g 183,g 11,g 12,g 184,g 11,g 185,g 186,g 187,g 11,g 12,g 188,g 11,g 189,g 190,g 191,g 11,g 12,g 194,g 11,g 195,g 196,g 197,g 11,g 12,g 198,g 11,g 199,g 200,g 201,g 11,g 12,g 202,g 11,g 203,g 204,g 205,g 11,g 12,g 206,g 11,g 207,g 208,g 209,g 11,g 12,g 210,g 11,g 211,g 212,g 213,g 11,g 12,g 214,g 11,g 215,g 216,g 217,g 11,g 12,g 218,g 11,g 219,g 220,g 221,g 11,g 12,g 222,g 11,g 223,g 224,g 225,g 11,g 12,g 226,g 227,g 228,g 11,g 12,g 229,g 11,g 230,g 231,g 232,g 11,g 12,g 233,g 11,g 234,g 235,g 236,g 11,g 12,g 239,g 11,g 240,g 241,g 242,g 11,g 12,g 243,g 11,g 244,g 245,g 246,g 11,g 12,g 247,g 11,g 248,g 249,g 250,g 11,g 12,g 251,g 252,g 253,g 11,g 12,g 254,g 11,g 255,g 256,g 257,g 11,g 12,g 258,g 11,g 259,g 260,g 261,g 11,g 12,g 262,g 11,g 263,g 264,g 265,g 11,g 12,g 266,g 11,g 267,g 268,g 269,g 11,g 12,g 270,g 11,g 271,g 272,g 273,g 11,g 12,g 274,g 275,g 276,g 11,g 12,g 277,g 278,g 279,g 11,g 12,g 280,g 11,g 281,g 282,g 283,g 11,g 12,g 286,g 11,g 287,g 288,g 289,g 11,g 12,g 290,g 11,g 291,g 292,g 293,g 11,g 12,g 294,g 295,g 296]⟩,{}⟩:Heap)) fun k=>f (k/16) (k%16) P
theorem laid:(fun(_:EF) (_:EF) (_:Nat->Nat->EG->Obj) (_:List Stmt) (_:List Stmt) (_:List Stmt) (_:List Stmt) (_:List Stmt) (_:List Stmt) (_:List Stmt) (_:List Stmt) (_:List Stmt) (_:List Stmt) (_:List Stmt) (_:List Stmt)=>true) pw2 vw fA sx0 sx1 sx2 sx3 sx4 sx5 sx6 sx7 sx8 sx9 sx10 sx11=true:=by k_qdec
end QQ
namespace PySem.W.Fast
noncomputable def tw11757829767405728070:EF:=tw4061903402435717205
theorem te11757829767405728070:Fe=tw11757829767405728070:=Eq.trans (by kernel_rfl:Fe=QQ.pw2) te4061903402435717205
noncomputable def tw10251127651185956181:EF:=tw2543460329597916322
theorem te10251127651185956181:QQ.vw=tw10251127651185956181:=te2543460329597916322
noncomputable def tw5833475030215485849:List Stmt:=tw4220349153739756805
theorem te5833475030215485849:QQ.sx0=tw5833475030215485849:=te4220349153739756805
noncomputable def tw10216218072591465984:List Stmt:=tw11397161696757032129
theorem te10216218072591465984:QQ.sx1=tw10216218072591465984:=te11397161696757032129
noncomputable def tw16123721054733521579:List Stmt:=tw10303515436491237874
theorem te16123721054733521579:QQ.sx2=tw16123721054733521579:=te10303515436491237874
noncomputable def tw15917260542659603249:List Stmt:=tw12358083906500975388
theorem te15917260542659603249:QQ.sx3=tw15917260542659603249:=te12358083906500975388
noncomputable def tw5490313431955360123:List Stmt:=tw2861187580803015100
theorem te5490313431955360123:QQ.sx4=tw5490313431955360123:=te2861187580803015100
noncomputable def tw15620706811671679931:List Stmt:=tw9932084693255007381
theorem te15620706811671679931:QQ.sx5=tw15620706811671679931:=te9932084693255007381
noncomputable def tw1657214754819517471:List Stmt:=tw1890974291257386441
theorem te1657214754819517471:QQ.sx6=tw1657214754819517471:=te1890974291257386441
noncomputable def tw3687665768104193715:List Stmt:=tw11967835380637100291
theorem te3687665768104193715:QQ.sx7=tw3687665768104193715:=te11967835380637100291
noncomputable def tw12374229738059232665:List Stmt:=tw17779941298030502338
theorem te12374229738059232665:QQ.sx8=tw12374229738059232665:=te17779941298030502338
noncomputable def tw1533649754292107984:List Stmt:=tw17991644005593546017
theorem te1533649754292107984:QQ.sx9=tw1533649754292107984:=te17991644005593546017
noncomputable def tw11840214569254932922:List Stmt:=tw1963477239447466229
theorem te11840214569254932922:QQ.sx10=tw11840214569254932922:=te1963477239447466229
noncomputable def tw670193559823117162:List Stmt:=tw9135815729137251366
theorem te670193559823117162:QQ.sx11=tw670193559823117162:=te9135815729137251366
noncomputable def tw13291194711645468538:EG->BT:=QQ.tX0 tw16523235828492288951
theorem te13291194711645468538:QQ.tX0 QQ.fA=tw13291194711645468538:=congrArg QQ.tX0 te16523235828492288951
noncomputable def tw1436489965347852207:EG->BT:=QQ.tX1 tw16523235828492288951
theorem te1436489965347852207:QQ.tX1 QQ.fA=tw1436489965347852207:=congrArg QQ.tX1 te16523235828492288951
noncomputable def tw6467182106706001753:EG->BT:=QQ.tX2 tw16523235828492288951
theorem te6467182106706001753:QQ.tX2 QQ.fA=tw6467182106706001753:=congrArg QQ.tX2 te16523235828492288951
noncomputable def tw10218028553765018451:EG->BT:=QQ.tX3 tw16523235828492288951
theorem te10218028553765018451:QQ.tX3 QQ.fA=tw10218028553765018451:=congrArg QQ.tX3 te16523235828492288951
noncomputable def tw2013740237668613169:EG->BT:=QQ.tX4 tw16523235828492288951
theorem te2013740237668613169:QQ.tX4 QQ.fA=tw2013740237668613169:=congrArg QQ.tX4 te16523235828492288951
noncomputable def tw9289864396258743952:EG->BT:=QQ.tX5 tw16523235828492288951
theorem te9289864396258743952:QQ.tX5 QQ.fA=tw9289864396258743952:=congrArg QQ.tX5 te16523235828492288951
noncomputable def tw4681006384965895256:EG->BT:=QQ.tX6 tw16523235828492288951
theorem te4681006384965895256:QQ.tX6 QQ.fA=tw4681006384965895256:=congrArg QQ.tX6 te16523235828492288951
noncomputable def tw8752797471457717914:EG->BT:=QQ.tX7 tw16523235828492288951
theorem te8752797471457717914:QQ.tX7 QQ.fA=tw8752797471457717914:=congrArg QQ.tX7 te16523235828492288951
noncomputable def tw9455440770001972619:EG->BT:=QQ.tX8 tw16523235828492288951
theorem te9455440770001972619:QQ.tX8 QQ.fA=tw9455440770001972619:=congrArg QQ.tX8 te16523235828492288951
noncomputable def tw14395887809449432752:EG->BT:=QQ.tX9 tw16523235828492288951
theorem te14395887809449432752:QQ.tX9 QQ.fA=tw14395887809449432752:=congrArg QQ.tX9 te16523235828492288951
noncomputable def tw13802968922099698399:EG->BT:=QQ.tX10 tw16523235828492288951
theorem te13802968922099698399:QQ.tX10 QQ.fA=tw13802968922099698399:=congrArg QQ.tX10 te16523235828492288951
noncomputable def tw6576050158806869727:EG->BT:=QQ.tX11 tw16523235828492288951
theorem te6576050158806869727:QQ.tX11 QQ.fA=tw6576050158806869727:=congrArg QQ.tX11 te16523235828492288951
noncomputable def tw1223947933425183345:EG->BT:=QQ.tX12 tw16523235828492288951
theorem te1223947933425183345:QQ.tX12 QQ.fA=tw1223947933425183345:=congrArg QQ.tX12 te16523235828492288951
noncomputable def tw14085022837277004488:EG->PySem.Heap:=QQ.hX0 tw16523235828492288951
theorem te14085022837277004488:QQ.hX0 QQ.fA=tw14085022837277004488:=congrArg QQ.hX0 te16523235828492288951
noncomputable def tw804271057981607435:EG->PySem.Heap:=QQ.hX1 tw16523235828492288951
theorem te804271057981607435:QQ.hX1 QQ.fA=tw804271057981607435:=congrArg QQ.hX1 te16523235828492288951
end PySem.W.Fast
open PySem PySem.W PyProof.Rows
set_option maxRecDepth 100000 in
set_option maxHeartbeats 0 in
theorem PySem.Challenge.cw_spotlook_k11_walls_parted_holds : PySem.Challenge.rw_spotlook_k11_walls_parted.Holds := by
 w_on;o_law;o_head (PySem.W.kmHook QQ.kK [↑2,↑3,↑4,↑23,↑24,↑36,↑37,↑48,↑49,↑64,↑65,↑67,↑68,↑83,↑84,↑86,↑87,↑102,↑103,↑105,↑106,↑121,↑122,↑124,↑125,↑136,↑137,↑145,↑146,↑152,↑153,↑159,↑160,↑166,↑167,↑173,↑174,↑180,↑181,↑187,↑188,↑194,↑195,↑201,↑202,↑208,↑209,↑215,↑216,↑222,↑223,↑229,↑230,↑236,↑237,↑243,↑244,↑250,↑251,↑257,↑258,↑264,↑265,↑271,↑272,↑278,↑279,↑285,↑286,↑292,↑293,↑299,↑300,↑306,↑307,↑313,↑314,↑318,↑319,↑325,↑326,↑332,↑333,↑339,↑340,↑346,↑347,↑353,↑354,↑358,↑359,↑365,↑366,↑372,↑373,↑379,↑380,↑386,↑387,↑393,↑394,↑398,↑399,↑403,↑404,↑410,↑411,↑417,↑418,↑424,↑425,↑429,↑430] (fun _=>by kernel_rfl) [316]);(case hw=>w_witness2)
 k_fill
 refine SD.t7 (Pt:=316) (c0:=318) (k:=10) (x:="_law_script") (sp:=QQ.il) (l:=PySem.Challenge.rw_spotlook_k11_walls_parted) rfl rfl ⟨rfl,by decide,by decide⟩ (fun w h Y=>PySem.W.km_in_of Y) (fun w h Y=>PySem.W.km_tabs_of Y _ (by simp)) (fun w=>by kernel_rfl) (fun w=>by kernel_rfl) ?F QQ.A2
 case F=>
  intro w mg fa h KX G hmg
  have t_law_cell_at:SD.Txt (L2.KOf KX) mg "_law_cell_at" QQ.dZ:=by
   dsimp only[L2.KOf]
   refine' SD.Txt.mk KX G ?a ?l ?c ?k
   (case a=>k_is);(case l=>k_is);(case c=>k_is);(case k=>k_is)
  have t_law_take:SD.Txt (L2.KOf KX) mg "_law_take" QQ.gj:=by
   dsimp only[L2.KOf]
   refine' SD.Txt.mk KX G ?a ?l ?c ?k
   (case a=>k_is);(case l=>k_is);(case c=>k_is);(case k=>k_is)
  have t_law_scale:SD.Txt (L2.KOf KX) mg "_law_scale" QQ.eZ:=by
   dsimp only[L2.KOf]
   refine' SD.Txt.mk KX G ?a ?l ?c ?k
   (case a=>k_is);(case l=>k_is);(case c=>k_is);(case k=>k_is)
  have t_law_any:SD.Txt (L2.KOf KX) mg "_law_any" QQ.ie:=by
   dsimp only[L2.KOf]
   refine' SD.Txt.mk KX G ?a ?l ?c ?k
   (case a=>k_is);(case l=>k_is);(case c=>k_is);(case k=>k_is)
  have t_law_is_sooner:SD.Txt (L2.KOf KX) mg "_law_is_sooner" QQ.cQ:=by
   dsimp only[L2.KOf]
   refine' SD.Txt.mk KX G ?a ?l ?c ?k
   (case a=>k_is);(case l=>k_is);(case c=>k_is);(case k=>k_is)
  have t_law_sorted:SD.Txt (L2.KOf KX) mg "_law_sorted" QQ.eJ:=by
   dsimp only[L2.KOf]
   refine' SD.Txt.mk KX G ?a ?l ?c ?k
   (case a=>k_is);(case l=>k_is);(case c=>k_is);(case k=>k_is)
  have t_law_in_row:SD.Txt (L2.KOf KX) mg "_law_in_row" QQ.d9:=by
   dsimp only[L2.KOf]
   refine' SD.Txt.mk KX G ?a ?l ?c ?k
   (case a=>k_is);(case l=>k_is);(case c=>k_is);(case k=>k_is)
  have t_law_low:SD.Txt (L2.KOf KX) mg "_law_low" QQ.gR:=by
   dsimp only[L2.KOf]
   refine' SD.Txt.mk KX G ?a ?l ?c ?k
   (case a=>k_is);(case l=>k_is);(case c=>k_is);(case k=>k_is)
  have t_law_spot:SD.Txt (L2.KOf KX) mg "_law_spot" QQ.fU:=by
   dsimp only[L2.KOf]
   refine' SD.Txt.mk KX G ?a ?l ?c ?k
   (case a=>k_is);(case l=>k_is);(case c=>k_is);(case k=>k_is)
  have t_law_cross:SD.Txt (L2.KOf KX) mg "_law_cross" QQ.fv:=by
   dsimp only[L2.KOf]
   refine' SD.Txt.mk KX G ?a ?l ?c ?k
   (case a=>k_is);(case l=>k_is);(case c=>k_is);(case k=>k_is)
  have t_law_meet:SD.Txt (L2.KOf KX) mg "_law_meet" QQ.fY:=by
   dsimp only[L2.KOf]
   refine' SD.Txt.mk KX G ?a ?l ?c ?k
   (case a=>k_is);(case l=>k_is);(case c=>k_is);(case k=>k_is)
  have t_law_spot_at:SD.Txt (L2.KOf KX) mg "_law_spot_at" QQ.dR:=by
   dsimp only[L2.KOf]
   refine' SD.Txt.mk KX G ?a ?l ?c ?k
   (case a=>k_is);(case l=>k_is);(case c=>k_is);(case k=>k_is)
  have t_law_pieces:SD.Txt (L2.KOf KX) mg "_law_pieces" QQ.eA:=by
   dsimp only[L2.KOf]
   refine' SD.Txt.mk KX G ?a ?l ?c ?k
   (case a=>k_is);(case l=>k_is);(case c=>k_is);(case k=>k_is)
  have t_law_made:SD.Txt (L2.KOf KX) mg "_law_made" QQ.f6:=by
   dsimp only[L2.KOf]
   refine' SD.Txt.mk KX G ?a ?l ?c ?k
   (case a=>k_is);(case l=>k_is);(case c=>k_is);(case k=>k_is)
  have t_is_less:SD.Txt (L2.KOf KX) mg "is_less" QQ.ik:=by
   dsimp only[L2.KOf]
   refine' SD.Txt.mk KX G ?a ?l ?c ?k
   (case a=>k_is);(case l=>k_is);(case c=>k_is);(case k=>k_is)
  have t_is_ahead:SD.Txt (L2.KOf KX) mg "is_ahead" QQ.fX:=by
   dsimp only[L2.KOf]
   refine' SD.Txt.mk KX G ?a ?l ?c ?k
   (case a=>k_is);(case l=>k_is);(case c=>k_is);(case k=>k_is)
  have t_gap:SD.Txt (L2.KOf KX) mg "gap" QQ.uY:=by
   dsimp only[L2.KOf]
   refine' SD.Txt.mk KX G ?a ?l ?c ?k
   (case a=>k_is);(case l=>k_is);(case c=>k_is);(case k=>k_is)
  have t_lean:SD.Txt (L2.KOf KX) mg "lean" QQ.qu:=by
   dsimp only[L2.KOf]
   refine' SD.Txt.mk KX G ?a ?l ?c ?k
   (case a=>k_is);(case l=>k_is);(case c=>k_is);(case k=>k_is)
  have t_side_of:SD.Txt (L2.KOf KX) mg "side_of" QQ.ia:=by
   dsimp only[L2.KOf]
   refine' SD.Txt.mk KX G ?a ?l ?c ?k
   (case a=>k_is);(case l=>k_is);(case c=>k_is);(case k=>k_is)
  have t_lies_on:SD.Txt (L2.KOf KX) mg "lies_on" QQ.g8:=by
   dsimp only[L2.KOf]
   refine' SD.Txt.mk KX G ?a ?l ?c ?k
   (case a=>k_is);(case l=>k_is);(case c=>k_is);(case k=>k_is)
  have t_greatest_divisor:SD.Txt (L2.KOf KX) mg "greatest_divisor" QQ.bY:=by
   dsimp only[L2.KOf]
   refine' SD.Txt.mk KX G ?a ?l ?c ?k
   (case a=>k_is);(case l=>k_is);(case c=>k_is);(case k=>k_is)
  have t_fraction:SD.Txt (L2.KOf KX) mg "fraction" QQ.f7:=by
   dsimp only[L2.KOf]
   refine' SD.Txt.mk KX G ?a ?l ?c ?k
   (case a=>k_is);(case l=>k_is);(case c=>k_is);(case k=>k_is)
  have t_own_spot:SD.Txt (L2.KOf KX) mg "own_spot" QQ.gf:=by
   dsimp only[L2.KOf]
   refine' SD.Txt.mk KX G ?a ?l ?c ?k
   (case a=>k_is);(case l=>k_is);(case c=>k_is);(case k=>k_is)
  have t_later_of:SD.Txt (L2.KOf KX) mg "later_of" QQ.gp:=by
   dsimp only[L2.KOf]
   refine' SD.Txt.mk KX G ?a ?l ?c ?k
   (case a=>k_is);(case l=>k_is);(case c=>k_is);(case k=>k_is)
  have t_earlier_of:SD.Txt (L2.KOf KX) mg "earlier_of" QQ.ec:=by
   dsimp only[L2.KOf]
   refine' SD.Txt.mk KX G ?a ?l ?c ?k
   (case a=>k_is);(case l=>k_is);(case c=>k_is);(case k=>k_is)
  have t_own_wall:SD.Txt (L2.KOf KX) mg "own_wall" QQ.gm:=by
   dsimp only[L2.KOf]
   refine' SD.Txt.mk KX G ?a ?l ?c ?k
   (case a=>k_is);(case l=>k_is);(case c=>k_is);(case k=>k_is)
  have t_meeting_in_line:SD.Txt (L2.KOf KX) mg "meeting_in_line" QQ.ck:=by
   dsimp only[L2.KOf]
   refine' SD.Txt.mk KX G ?a ?l ?c ?k
   (case a=>k_is);(case l=>k_is);(case c=>k_is);(case k=>k_is)
  have t_over:SD.Txt (L2.KOf KX) mg "over" QQ.p6:=by
   dsimp only[L2.KOf]
   refine' SD.Txt.mk KX G ?a ?l ?c ?k
   (case a=>k_is);(case l=>k_is);(case c=>k_is);(case k=>k_is)
  have t_less:SD.Txt (L2.KOf KX) mg "less" QQ.pM:=by
   dsimp only[L2.KOf]
   refine' SD.Txt.mk KX G ?a ?l ?c ?k
   (case a=>k_is);(case l=>k_is);(case c=>k_is);(case k=>k_is)
  have t_plus:SD.Txt (L2.KOf KX) mg "plus" QQ.qz:=by
   dsimp only[L2.KOf]
   refine' SD.Txt.mk KX G ?a ?l ?c ?k
   (case a=>k_is);(case l=>k_is);(case c=>k_is);(case k=>k_is)
  have t_times:SD.Txt (L2.KOf KX) mg "times" QQ.mE:=by
   dsimp only[L2.KOf]
   refine' SD.Txt.mk KX G ?a ?l ?c ?k
   (case a=>k_is);(case l=>k_is);(case c=>k_is);(case k=>k_is)
  have t_number_between:SD.Txt (L2.KOf KX) mg "number_between" QQ.cx:=by
   dsimp only[L2.KOf]
   refine' SD.Txt.mk KX G ?a ?l ?c ?k
   (case a=>k_is);(case l=>k_is);(case c=>k_is);(case k=>k_is)
  have t_crossing_spot:SD.Txt (L2.KOf KX) mg "crossing_spot" QQ.cO:=by
   dsimp only[L2.KOf]
   refine' SD.Txt.mk KX G ?a ?l ?c ?k
   (case a=>k_is);(case l=>k_is);(case c=>k_is);(case k=>k_is)
  have t_meeting:SD.Txt (L2.KOf KX) mg "meeting" QQ.ij:=by
   dsimp only[L2.KOf]
   refine' SD.Txt.mk KX G ?a ?l ?c ?k
   (case a=>k_is);(case l=>k_is);(case c=>k_is);(case k=>k_is)
  have t_place_among:SD.Txt (L2.KOf KX) mg "place_among" QQ.dO:=by
   dsimp only[L2.KOf]
   refine' SD.Txt.mk KX G ?a ?l ?c ?k
   (case a=>k_is);(case l=>k_is);(case c=>k_is);(case k=>k_is)
  have t_ahead_first:SD.Txt (L2.KOf KX) mg "ahead_first" QQ.dY:=by
   dsimp only[L2.KOf]
   refine' SD.Txt.mk KX G ?a ?l ?c ?k
   (case a=>k_is);(case l=>k_is);(case c=>k_is);(case k=>k_is)
  have t_cuts_of:SD.Txt (L2.KOf KX) mg "cuts_of" QQ.gU:=by
   dsimp only[L2.KOf]
   refine' SD.Txt.mk KX G ?a ?l ?c ?k
   (case a=>k_is);(case l=>k_is);(case c=>k_is);(case k=>k_is)
  have t_corners_of:SD.Txt (L2.KOf KX) mg "corners_of" QQ.eP:=by
   dsimp only[L2.KOf]
   refine' SD.Txt.mk KX G ?a ?l ?c ?k
   (case a=>k_is);(case l=>k_is);(case c=>k_is);(case k=>k_is)
  have t_by_ends:SD.Txt (L2.KOf KX) mg "by_ends" QQ.cX:=by
   dsimp only[L2.KOf]
   refine' SD.Txt.mk KX G ?a ?l ?c ?k
   (case a=>k_is);(case l=>k_is);(case c=>k_is);(case k=>k_is)
  have t_parted:SD.Txt (L2.KOf KX) mg "parted" QQ.jD:=by
   dsimp only[L2.KOf]
   refine' SD.Txt.mk KX G ?a ?l ?c ?k
   (case a=>k_is);(case l=>k_is);(case c=>k_is);(case k=>k_is)
  have t_law_alone:SD.Txt (L2.KOf KX) mg "_law_alone" QQ.fB:=by
   dsimp only[L2.KOf]
   refine' SD.Txt.mk KX G ?a ?l ?c ?k
   (case a=>k_is);(case l=>k_is);(case c=>k_is);(case k=>k_is)
  have t_law_told:SD.Txt (L2.KOf KX) mg "_law_told" QQ.fW:=by
   dsimp only[L2.KOf]
   refine' SD.Txt.mk KX G ?a ?l ?c ?k
   (case a=>k_is);(case l=>k_is);(case c=>k_is);(case k=>k_is)
  have t_law:SD.Txt (L2.KOf KX) mg "law" QQ.ui:=by
   dsimp only[L2.KOf]
   refine' SD.Txt.mk KX G ?a ?l ?c ?k
   (case a=>k_is);(case l=>k_is);(case c=>k_is);(case k=>k_is)
  have fc_by_ends:SD.uc (L2.KOf KX) mg "by_ends" QQ.cX 318:=by
   dsimp only[L2.KOf]
   refine' SD.uc.mk KX G ?a ?l ?c ?k
   (case a=>k_is);(case l=>k_is);(case c=>k_is);(case k=>k_is)
  have lm:SD.Mk (L2.KOf KX) mg 318 316:=by
   dsimp only[L2.KOf]
   refine' SD.C7 KX G (by kernel_rfl) ?a ?l ?b ?c ?d ?e ?f
   (case a=>k_is);(case l=>k_is);(case b=>decide);(case c=>decide);(case d=>rfl);(case e=>rfl);(case f=>rfl)
  have b_ValueError:mg "ValueError"=none:=by
   refine' Ft KX G ?a
   (case a=>k_is)
  have b_abs:mg "abs"=none:=by
   refine' Ft KX G ?a
   (case a=>k_is)
  have b_enumerate:mg "enumerate"=none:=by
   refine' Ft KX G ?a
   (case a=>k_is)
  have b_int:mg "int"=none:=by
   refine' Ft KX G ?a
   (case a=>k_is)
  have b_isinstance:mg "isinstance"=none:=by
   refine' Ft KX G ?a
   (case a=>k_is)
  have b_len:mg "len"=none:=by
   refine' Ft KX G ?a
   (case a=>k_is)
  have b_list:mg "list"=none:=by
   refine' Ft KX G ?a
   (case a=>k_is)
  have b_max:mg "max"=none:=by
   refine' Ft KX G ?a
   (case a=>k_is)
  have b_min:mg "min"=none:=by
   refine' Ft KX G ?a
   (case a=>k_is)
  have b_range:mg "range"=none:=by
   refine' Ft KX G ?a
   (case a=>k_is)
  have b_sorted:mg "sorted"=none:=by
   refine' Ft KX G ?a
   (case a=>k_is)
  have b_tuple:mg "tuple"=none:=by
   refine' Ft KX G ?a
   (case a=>k_is)
  have b_zip:mg "zip"=none:=by
   refine' Ft KX G ?a
   (case a=>k_is)
  have g_MOST_WALLS:∃t,mg "MOST_WALLS"=some (.int 40 t):=by
   refine' SD.DH KX G ?a
   (case a=>k_is)
  have r_Absent:mg "Absent"=some (.ref (SD.cl (L2.KOf KX) "Absent")):=by
   dsimp only[L2.KOf]
   refine' SD.iG KX G ?a
   (case a=>k_is)
  have r_Crossing:mg "Crossing"=some (.ref (SD.cl (L2.KOf KX) "Crossing")):=by
   dsimp only[L2.KOf]
   refine' SD.iG KX G ?a
   (case a=>k_is)
  have r_NoFraction:mg "NoFraction"=some (.ref (SD.cl (L2.KOf KX) "NoFraction")):=by
   dsimp only[L2.KOf]
   refine' SD.iG KX G ?a
   (case a=>k_is)
  have r_NoRow:mg "NoRow"=some (.ref (SD.cl (L2.KOf KX) "NoRow")):=by
   dsimp only[L2.KOf]
   refine' SD.iG KX G ?a
   (case a=>k_is)
  have r_NoText:mg "NoText"=some (.ref (SD.cl (L2.KOf KX) "NoText")):=by
   dsimp only[L2.KOf]
   refine' SD.iG KX G ?a
   (case a=>k_is)
  have r_NoWall:mg "NoWall"=some (.ref (SD.cl (L2.KOf KX) "NoWall")):=by
   dsimp only[L2.KOf]
   refine' SD.iG KX G ?a
   (case a=>k_is)
  have r_SpotError:mg "SpotError"=some (.ref (SD.cl (L2.KOf KX) "SpotError")):=by
   dsimp only[L2.KOf]
   refine' SD.iG KX G ?a
   (case a=>k_is)
  have r_TooMany:mg "TooMany"=some (.ref (SD.cl (L2.KOf KX) "TooMany")):=by
   dsimp only[L2.KOf]
   refine' SD.iG KX G ?a
   (case a=>k_is)
  have e_SpotError:SD.ClsE (L2.KOf KX) "SpotError" (SD.cl (L2.KOf KX) "SpotError"):=by
   dsimp only[L2.KOf]
   refine' SD.DV ?a ?b
   (case a=>k_is);(case b=>k_exc)
  have eb_SpotError:Fd (L2.KOf KX) (.ref (SD.cl (L2.KOf KX) "SpotError")) (.type "BaseException")=some true:=by
   dsimp only[L2.KOf]
   refine' SD.rY ?a ?b
   (case a=>k_is);(case b=>k_is)
  have B_SpotError:SD.ClsB (L2.KOf KX) (SD.cl (L2.KOf KX) "SpotError"):=by
   dsimp only[L2.KOf]
   refine' SD.zh ?a ?b ?c ?d
   (case a=>k_is);(case b=>k_is);(case c=>k_is);(case d=>k_is)
  have eb_TooMany:Fd (L2.KOf KX) (.ref (SD.cl (L2.KOf KX) "TooMany")) (.type "BaseException")=some true:=by
   dsimp only[L2.KOf]
   refine' SD.rY ?a ?b
   (case a=>k_is);(case b=>k_is)
  have es_TooMany_SpotError:Fd (L2.KOf KX) (.ref (SD.cl (L2.KOf KX) "TooMany")) (.ref (SD.cl (L2.KOf KX) "SpotError"))=some true:=by
   dsimp only[L2.KOf]
   refine' SD.A6 ?a ?b ?c
   (case a=>k_is);(case b=>k_is);(case c=>k_is)
  have fn_TooMany_count:PySem.W.findIn (L2.KOf KX) (.ref (SD.cl (L2.KOf KX) "TooMany")) "count"=some none:=by
   dsimp only[L2.KOf]
   refine' SD.Ab ?a ?b
   (case a=>k_is);(case b=>k_is)
  have hd_TooMany:Gs (L2.KOf KX) (SD.cl (L2.KOf KX) "TooMany")=true:=by
   dsimp only[L2.KOf]
   refine' SD.B3 ?a ?b
   (case a=>k_is);(case b=>k_is)
  have m_TooMany:∃fI fd,SD.ClsI (L2.KOf KX) (SD.cl (L2.KOf KX) "TooMany") (SD.cl (L2.KOf KX) "SpotError") fI/\L2.Fun (L2.KOf KX) "__init__" "TooMany.__init__" QQ.gi fI fd:=by
   dsimp only[L2.KOf]
   refine' SD.zg ?a ?b ?l ?lN ?ok ?ni ?e ?fn ?kp ?hd ?sa ?ob ?lf ?cf ?kf
   (case a=>k_is);(case b=>k_is);(case l=>k_is);(case lN=>k_is);(case ok=>rfl);(case ni=>k_is);(case e=>k_exc);(case fn=>k_is);(case kp=>k_is);(case hd=>k_is);(case sa=>k_is);(case ob=>k_is);(case lf=>k_is);(case cf=>k_is);(case kf=>k_is)
  have ek_TooMany:SD.ErrK (L2.KOf KX) (SD.cl (L2.KOf KX) "TooMany"):=by
   dsimp only[L2.KOf]
   refine' SD.Cj ?a ?b ?c ?d ?e ?f ?g
   (case a=>k_is);(case b=>k_is);(case c=>k_is);(case d=>k_is);(case e=>k_is);(case f=>k_is);(case g=>k_is)
  have kv_TooMany:F5 (L2.KOf KX) (.ref (SD.cl (L2.KOf KX) "TooMany")) (.type "ValueError")=some true:=by
   dsimp only[L2.KOf]
   refine' SD.xr ?a ?b (by decide +kernel)
   (case a=>k_is);(case b=>k_is)
  have ki_TooMany_Absent:F5 (L2.KOf KX) (.ref (SD.cl (L2.KOf KX) "TooMany")) (.ref (SD.cl (L2.KOf KX) "Absent"))=some false:=by
   dsimp only[L2.KOf]
   refine' SD.hZ ?a ?b ?c ?d ?e
   (case a=>k_is);(case b=>k_is);(case c=>k_is);(case d=>k_is);(case e=>with_unfolding_all rfl)
  have ki_TooMany_Crossing:F5 (L2.KOf KX) (.ref (SD.cl (L2.KOf KX) "TooMany")) (.ref (SD.cl (L2.KOf KX) "Crossing"))=some false:=by
   dsimp only[L2.KOf]
   refine' SD.hZ ?a ?b ?c ?d ?e
   (case a=>k_is);(case b=>k_is);(case c=>k_is);(case d=>k_is);(case e=>with_unfolding_all rfl)
  have ki_TooMany_NoFraction:F5 (L2.KOf KX) (.ref (SD.cl (L2.KOf KX) "TooMany")) (.ref (SD.cl (L2.KOf KX) "NoFraction"))=some false:=by
   dsimp only[L2.KOf]
   refine' SD.hZ ?a ?b ?c ?d ?e
   (case a=>k_is);(case b=>k_is);(case c=>k_is);(case d=>k_is);(case e=>with_unfolding_all rfl)
  have ki_TooMany_NoRow:F5 (L2.KOf KX) (.ref (SD.cl (L2.KOf KX) "TooMany")) (.ref (SD.cl (L2.KOf KX) "NoRow"))=some false:=by
   dsimp only[L2.KOf]
   refine' SD.hZ ?a ?b ?c ?d ?e
   (case a=>k_is);(case b=>k_is);(case c=>k_is);(case d=>k_is);(case e=>with_unfolding_all rfl)
  have ki_TooMany_NoText:F5 (L2.KOf KX) (.ref (SD.cl (L2.KOf KX) "TooMany")) (.ref (SD.cl (L2.KOf KX) "NoText"))=some false:=by
   dsimp only[L2.KOf]
   refine' SD.hZ ?a ?b ?c ?d ?e
   (case a=>k_is);(case b=>k_is);(case c=>k_is);(case d=>k_is);(case e=>with_unfolding_all rfl)
  have ki_TooMany_NoWall:F5 (L2.KOf KX) (.ref (SD.cl (L2.KOf KX) "TooMany")) (.ref (SD.cl (L2.KOf KX) "NoWall"))=some false:=by
   dsimp only[L2.KOf]
   refine' SD.hZ ?a ?b ?c ?d ?e
   (case a=>k_is);(case b=>k_is);(case c=>k_is);(case d=>k_is);(case e=>with_unfolding_all rfl)
  have ki_TooMany_TooMany:F5 (L2.KOf KX) (.ref (SD.cl (L2.KOf KX) "TooMany")) (.ref (SD.cl (L2.KOf KX) "TooMany"))=some true:=by
   dsimp only[L2.KOf]
   refine' SD.xX
  exact QQ.Dj ⟨t_law_cell_at,t_law_take,t_law_scale,t_law_any,t_law_is_sooner,t_law_sorted,t_law_in_row,t_law_low,t_law_spot,t_law_cross,t_law_meet,t_law_spot_at,t_law_pieces,t_law_made,t_is_less,t_is_ahead,t_gap,t_lean,t_side_of,t_lies_on,t_greatest_divisor,t_fraction,t_own_spot,t_later_of,t_earlier_of,t_own_wall,t_meeting_in_line,t_over,t_less,t_plus,t_times,t_number_between,t_crossing_spot,t_meeting,t_place_among,t_ahead_first,t_cuts_of,t_corners_of,t_by_ends,t_parted,t_law_alone,t_law_told,t_law,fc_by_ends,lm,b_ValueError,b_abs,b_enumerate,b_int,b_isinstance,b_len,b_list,b_max,b_min,b_range,b_sorted,b_tuple,b_zip,g_MOST_WALLS,r_Absent,r_Crossing,r_NoFraction,r_NoRow,r_NoText,r_NoWall,r_SpotError,r_TooMany,e_SpotError,eb_SpotError,B_SpotError,eb_TooMany,es_TooMany_SpotError,fn_TooMany_count,hd_TooMany,m_TooMany,ek_TooMany,kv_TooMany,ki_TooMany_Absent,ki_TooMany_Crossing,ki_TooMany_NoFraction,ki_TooMany_NoRow,ki_TooMany_NoText,ki_TooMany_NoWall,ki_TooMany_TooMany⟩ hmg
